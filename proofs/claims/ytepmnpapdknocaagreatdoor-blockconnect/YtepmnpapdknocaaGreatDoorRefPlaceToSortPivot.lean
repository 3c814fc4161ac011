/- The contracts of the reference's place (where a point stands among coins, in whatever order) and FeeOf. -/
import Derived.Test.YtepmnpapdknocaaGreatDoorCoinInsertBToCoinPlace
import Derived.Test.YtepmnpapdknocaaGreatDoorCoinApplyBToCoinTwiceM
import Derived.Test.YtepmnpapdknocaaGreatDoorLockMathToLockFill
import Derived.BigCall
import Derived.BigGuard
import Derived.Deep.CutBlock
import Derived.Shelf.Abstract
import Derived.Sort.AssemblyPlain
set_option maxHeartbeats 3200000
set_option maxRecDepth 10000
namespace Go.Proofs.YtepmnpapdknocaaGreatDoor
open Go.RowKit
def plc(p:PtD):List Zb→Nat→Int
 | [],_=>-1
 | y :: r,k=>if pt y=p then k else plc p r (k+1)
theorem Zcw(p:PtD)(l:List Zb)(k:Nat)(h:k<l.length):plc p (l.drop k) k=if pt l[k]=p then (k:Int) else plc p (l.drop (k+1)) (k+1):=by
 rw[List.drop_eq_getElem_cons h];rfl
theorem Aq(x:Zb)(a:Option Addr)(n c:Nat)(q:PtD)(p:Nat)(o:Bool)(w:World)(h1:w.cell? ⟨p,0,none⟩=some (.int .i64 q.1))(h2:w.cell? ⟨p,1,none⟩=some (.int .i64 q.2))(ho:decide (pt x=q)=o) :
  Calls Tryz.prog 121 #[cnV x a n c,.pointer (some ⟨p,0,none⟩)] w fun e w'=>e = .returned (.bool o)∧Below w.heap.size w w':=by
 subst ho
 obtain⟨x1,x2,v,lk,hh,rr⟩:=x
 obtain⟨q1,q2⟩:=q
 have hp:=World.block_lt_of_cell? _ _ h1
 unfold cnV pt cv ch cr
 simp only at h1 h2 ⊢
 have HB:=hide (bel_new w (.cells #[.int .i64 x1,.int .i64 x2,.int .i64 v,.slice a n c,.int .i64 hh,.bool rr] 88))
 by_cases hx:x1=q1
 ·subst hx
  by_cases hy:x2=q2
  ·subst hy
   rw[decide_eq_true rfl]
   go_enter Tryz.func121,Tryz.ntmps121
   go_wp2
   go_ret
   exact⟨rfl,unhide HB⟩
  ·rw[decide_eq_false (fun e=>hy (Prod.mk.inj e).2)]
   go_enter Tryz.func121,Tryz.ntmps121
   go_wp2
   go_ret
   exact⟨rfl,unhide HB⟩
 ·rw[decide_eq_false (fun e=>hx (Prod.mk.inj e).1)]
  go_enter Tryz.func121,Tryz.ntmps121
  go_wp2
  go_ret
  exact⟨rfl,unhide HB⟩
theorem G6(b off n c:Nat)(l:List Zb)(q:PtD)(p:Nat)(w:World)(hz:l.length=n)(hn:n≤4096)(hc:∀ i (h:i<l.length),CoinAt w b (off+i*6) l[i])
  (h1:w.cell? ⟨p,0,none⟩=some (.int .i64 q.1)) (h2:w.cell? ⟨p,1,none⟩=some (.int .i64 q.2)) :
  Calls Tryz.prog 120 #[.slice (some ⟨b,off,none⟩) n c,.func (.func 121) #[] #[.pointer (some ⟨p,0,none⟩)]] w fun e w'=>e = .returned (.int .i64 (plc q l 0))∧Below w.heap.size w w':=by
 have HC:=hide hc
 have HZ:=hide hz
 have H1:=hide h1
 have H2:=hide h2
 clear hc hz h1 h2
 go_enter Tryz.func120,Tryz.ntmps120
 go_wp2
 go_loopw [5,8] (fun _ i wr=>∃ k:Nat,k≤n∧i = .int .i64 k∧Hid (plc q l 0=plc q (l.drop k) k)∧Below w.heap.size w wr) (fun _ i _=>n - (intOf i).toNat)
 case atStart=>exact⟨0,Nat.zero_le _,rfl,rfl,Below.refl _ _⟩
 case round=>
  obtain⟨k,hk,rfl,A,hb⟩:=hrel
  have HB:=hide hb
  by_cases hlt:k<n
  ·have hlk:k<l.length:=by rw[unhide HZ];exact hlt
   have hin:=CoinAt.kept _ _ _ _ _ hb ((unhide HC) k hlk)
   have S:=hide (Zcw q l k hlk)
   obtain⟨y,hy⟩:∃ y,l[k]=y:=⟨_,rfl⟩
   rw[hy] at hin S
   obtain⟨ka,kn,kc,g1,g2,g3,g4,g5,g6,_,_⟩:=hin.val
   have C1:Hid (∀ o,decide (pt y=q)=o→Calls Tryz.prog 121 #[cnV y ka kn kc,.pointer (some ⟨p,0,none⟩)] wr fun e w'=>e = .returned (.bool o)∧Below wr.heap.size wr w'):=
    fun o ho=>Aq y ka kn kc q p o wr (cell_later hb (unhide H1)) (cell_later hb (unhide H2)) ho
   unfold cnV at C1
   by_cases hs:pt y=q
   ·have S2:Hid (plc q l 0=k):=by show _=_;rw[unhide A,unhide S,if_pos hs]
    have C2:=hide ((unhide C1) true (decide_eq_true hs))
    clear S A hs C1 hb hy
    go_wp2_with fail
    refine (unhide C2).mono ?_
    rintro e w' ⟨rfl,hb'⟩
    have HB':=hide (bel_on (unhide HB) hb')
    clear hb'
    go_wp2
    go_ret
    exact⟨by rw[unhide S2];rfl,unhide HB'⟩
   ·have S2:Hid (plc q l 0=plc q (l.drop (k+1)) (k+1)):=by show _=_;rw[unhide A,unhide S,if_neg hs]
    have C2:=hide ((unhide C1) false (decide_eq_false hs))
    clear S A hs C1 hb hy
    go_wp2_with fail
    refine (unhide C2).mono ?_
    rintro e w' ⟨rfl,hb'⟩
    have HB':=hide (bel_on (unhide HB) hb')
    clear hb'
    go_wp2
    go_roundw
    case rel=>exact⟨k+1,by omega,by go_num,S2,unhide HB'⟩
    case measure=>simp[intOf];omega
  ·have S2:Hid (plc q l 0 = -1):=by
    show _=_
    rw[unhide A,List.drop_of_length_le (by rw[unhide HZ];omega)];rfl
   clear A hb
   go_wp2
   go_ret
   exact⟨by rw[unhide S2];rfl,unhide HB⟩
theorem G9(a:Option Addr)(c:Nat)(v:Value)(w:World) :
  Calls Tryz.prog 120 #[.slice a 0 c,v] w fun e w'=>e = .returned (.int .i64 (-1))∧w=w':=by
 go_enter Tryz.func120,Tryz.ntmps120
 go_wp2
 refine wp_loop_rounds 1 ?_
 rw[rounds_succ]
 go_wp2
 go_ret
 exact⟨rfl,rfl⟩
theorem Kg(a:Option Addr)(n c:Nat)(l:List Zb)(q:PtD)(p:Nat)(w:World)(hn:n≤4096)(h:CoinsAt w a n l)
  (h1:w.cell? ⟨p,0,none⟩=some (.int .i64 q.1)) (h2:w.cell? ⟨p,1,none⟩=some (.int .i64 q.2)) :
  Calls Tryz.prog 120 #[.slice a n c,.func (.func 121) #[] #[.pointer (some ⟨p,0,none⟩)]] w fun e w'=>e = .returned (.int .i64 (plc q l 0))∧Below w.heap.size w w':=by
 obtain⟨hz,hc⟩:=h
 by_cases h0:n=0
 ·subst h0
  have e:l=[]:=List.length_eq_zero_iff.1 hz
  subst e
  exact (G9 a c _ w).mono fun e w' ⟨q1,q2⟩=>⟨q1,q2 ▸ Below.refl _ _⟩
 ·obtain⟨b,off,rfl,_,hcell⟩:=hc (by omega)
  exact G6 b off n c l q p w hz hn hcell h1 h2
theorem Ug(a:Option Addr)(n c:Nat)(l:List Zb)(q:PtD)(z:Int)(w:World)(hn:n≤4096)(h:CoinsAt w a n l)(hz:plc q l 0=z) :
  Calls Tryz.prog 85 #[.slice a n c,.agg #[.int .i64 q.1,.int .i64 q.2]] w fun e w'=>e = .returned (.int .i64 z)∧Below w.heap.size w w':=by
 subst hz
 have hb:=bel_new w (.cells #[.int .i64 q.1,.int .i64 q.2] 86)
 obtain⟨n0,n1⟩:=Yj w (.int .i64 q.1) (.int .i64 q.2) 86
 have C:=hide (Kg a n c l q w.heap.size _ hn (h.later hb) n0 n1)
 have HB:=hide hb
 clear h hb n0 n1
 go_enter Tryz.func85,Tryz.ntmps85
 go_wp2_with fail
 refine (unhide C).mono ?_
 rintro e w2 ⟨rfl,hb2⟩
 have HB2:=hide (bel_on (unhide HB) hb2)
 clear hb2
 go_wp2
 go_ret
 exact⟨rfl,unhide HB2⟩
structure Kp(B:Nat)(w w':World):Prop where
 size:w.heap.size≤w'.heap.size
 same:∀ b,B≤b→b<w.heap.size→w'.heap[b]? = w.heap[b]?
theorem Kp.refl(B:Nat)(w:World):Kp B w w:=⟨Nat.le_refl _,fun _ _ _=>rfl⟩
theorem Kp.trans{B:Nat}{w1 w2 w3:World}(h:Kp B w1 w2)(k:Kp B w2 w3):Kp B w1 w3:=
 ⟨Nat.le_trans h.size k.size,fun b hb hl=>(k.same b hb (Nat.lt_of_lt_of_le hl h.size)).trans (h.same b hb hl)⟩
theorem Kp.alloc(B:Nat)(w:World)(o:Obj):Kp B w (w.alloc o):=
 ⟨((Below.refl _ _).alloc (Nat.le_refl _) o:Below w.heap.size w (w.alloc o)).size,fun b _ hl=>((Below.refl _ _).alloc (Nat.le_refl _) o:Below w.heap.size w (w.alloc o)).block b hl⟩
theorem Kp.cell{B:Nat}{w w':World}(h:Kp B w w'){p:Addr}{v:Value}(hb:B≤p.block)(hc:w.cell? p=some v):w'.cell? p=some v:=by
 have hl:=World.block_lt_of_cell? w p hc
 have e:=h.same p.block hb hl
 simp only[World.cell?] at hc ⊢
 rw[e]
 exact hc
structure Sr{α : Type}[Inhabited α](P:Program)(g:Nat)(lb:Array Value)(sf:Nat)(sb:Array Value)(lt : α → α→Bool)(n B:Nat)(St:World→Array α→Prop):Prop where
 order:Sort.SWO lt
 small:n≤4096
 enters:∀ args w,(callFunc g args).run P w = .ok (.enter g args) w
 less:∀ w d (i j:Nat),St w d→i<n→j<n→Calls P g (#[.int .i64 i,.int .i64 j]++lb) w fun e w'=>e = .returned (.bool (lt d[i]! d[j]!))∧St w' d∧Kp B w w'
 swap:∀ w d (i j:Nat),St w d→i<n→j<n→∃ w',(callFunc sf (#[.int .i64 i,.int .i64 j]++sb)).run P w = .ok (.value (.tuple #[])) w'∧St w' (Sort.swp d i j)∧Kp B w w'
 size:∀ w d,St w d→d.size=n
 low:∀ w d,St w d→B≤w.heap.size
 alloc:∀ w d o,St w d→St (w.alloc o) d
 store:∀ w d b o v,St w d→B≤b→St (w.setCell ⟨b,o,none⟩ v) d
def lsV(g:Nat)(lb:Array Value)(sf:Nat)(sb:Array Value):Value:=.agg #[.func (.func g) #[] lb,.func (.func sf) #[] sb]
theorem Wx(w:World)(x y:Value)(t:TypeId):(w.alloc (.cells #[x,y] t)).cell? ⟨w.heap.size,0,none⟩=some x∧(w.alloc (.cells #[x,y] t)).cell? ⟨w.heap.size,1,none⟩=some y:=
 ⟨by rw[World.cell?_alloc_at _ _ _ _ rfl];rfl,by rw[World.cell?_alloc_at _ _ _ _ rfl];rfl⟩
theorem Sp{α : Type}[Inhabited α](lt : α → α→Bool)(a b i:Nat)(d:Array α)(h:i<b):Sort.insOuter lt a b i d=Sort.insOuter lt a b (i+1) (Sort.insInner lt a i d):=by
 rw[Sort.insOuter,if_pos h]
theorem Mx{α : Type}[Inhabited α](lt : α → α→Bool)(a b i:Nat)(d:Array α)(h:¬i<b):Sort.insOuter lt a b i d=d:=by
 rw[Sort.insOuter,if_neg h]
theorem Fh{α : Type}[Inhabited α](lt : α → α→Bool)(a j:Nat)(d:Array α)(h:a<j)(hl:lt d[j]! d[j - 1]! = true):Sort.insInner lt a j d=Sort.insInner lt a (j - 1) (Sort.swp d j (j - 1)):=by
 obtain⟨k,rfl⟩:∃ k,j=k+1:=⟨j - 1,by omega⟩
 rw[Nat.add_sub_cancel] at hl ⊢
 rw[Sort.insInner,if_pos (by simp[hl,h])]
theorem R0{α : Type}[Inhabited α](lt : α → α→Bool)(a j:Nat)(d:Array α)(h:j≤a∨lt d[j]! d[j - 1]! = false):Sort.insInner lt a j d=d:=by
 cases j with
 | zero=>rfl
 | succ k=>
  rw[Sort.insInner,if_neg]
  rcases h with h|h
  ·simp;omega
  ·rw[Nat.add_sub_cancel] at h
   simp[h]
theorem Zho{α : Type}[Inhabited α]{g:Nat}{lb:Array Value}{sf:Nat}{sb:Array Value}{lt : α → α→Bool}{n B:Nat}{St:World→Array α→Prop}(H:Sr Tryz.prog g lb sf sb lt n B St)
  (a b:Nat) (d:Array α) (w:World) (h:St w d) (hab:a≤b) (hb:b≤n) :
  Calls Tryz.prog 199 #[lsV g lb sf sb,.int .i64 a,.int .i64 b] w fun e w'=>e = .returned (.tuple #[])∧St w' (Sort.insertionSort lt d a b)∧Kp B w w':=by
 unfold lsV Sort.insertionSort
 have hn:=H.small
 have eg:=H.enters
 have hlow:=H.low _ _ h
 obtain⟨N0,N1⟩:=Wx w (.func (.func g) #[] lb) (.func (.func sf) #[] sb) 230
 have SX:=hide (H.alloc w d (.cells #[.func (.func g) #[] lb,.func (.func sf) #[] sb] 230) h)
 have KX:=hide (Kp.alloc B w (.cells #[.func (.func g) #[] lb,.func (.func sf) #[] sb] 230))
 have HH:=hide H
 clear H h
 go_enter Tryz.func199,Tryz.ntmps199
 go_wp2
 generalize w.alloc (.cells #[.func (.func g) #[] lb,.func (.func sf) #[] sb] 230)=X at *
 have M0:=hide N0
 have M1:=hide N1
 clear N0 N1
 go_loopw [6] (fun s6 wr=>∃ (i:Nat) (dk:Array α),s6 = .int .i64 i∧a<i∧i≤b+1∧Hid (Sort.insOuter lt a b i dk=Sort.insOuter lt a b (a+1) d)∧Hid (St wr dk)∧Hid (Kp B X wr)) (fun s6 _=>b+1 - (intOf s6).toNat)
 case atStart=>exact⟨a+1,d,by go_num,by omega,by omega,rfl,SX,Kp.refl _ _⟩
 case round=>
  obtain⟨i,dk,rfl,hai,hib,HO,HS,HK⟩:=hrel
  by_cases hlt:i<b
  ·go_wp2_with fail
   go_loopw [7] (fun s7 wr2=>∃ (j:Nat) (dj:Array α),s7 = .int .i64 j∧a≤j∧j≤i∧Hid (Sort.insInner lt a j dj=Sort.insInner lt a i dk)∧Hid (St wr2 dj)∧Hid (Kp B X wr2)) (fun s7 _=>(intOf s7).toNat)
   case atStart=>exact⟨i,dk,rfl,by omega,Nat.le_refl _,rfl,HS,HK⟩
   case round=>
    clear HS HK
    obtain⟨j,dj,rfl,haj,hji,HI,HS,HK⟩:=hrel
    have c0:=(unhide HK).cell hlow (unhide M0)
    have hsz:=World.block_lt_of_cell? _ _ c0
    by_cases hja:a<j
    ·have hl:=(unhide HH).less wr dj j (j - 1) (unhide HS) (by omega) (by omega)
     rw[show (((j - 1:Nat):Int))=(j:Int) - 1 by omega] at hl
     cases hlv:lt dj[j]! dj[j - 1]! with
     | true=>
      rw[hlv] at hl
      have HL:=hide hlv
      clear hlv
      go_wp2_with (go_at_fn g;refine hl.mono ?_;rintro e w' ⟨rfl,hS2,hK2⟩;have HK2:=hide (Kp.trans (unhide HK) hK2);have c1:=(unhide HK2).cell hlow (unhide M1);obtain⟨w3,hs,hS3,hK3⟩:=(unhide HH).swap w' dj j (j - 1) hS2 (by omega) (by omega);have HS3:=hide hS3;have HK3:=hide (Kp.trans (unhide HK2) hK3);clear hS2 hK2 hS3 hK3;rw[show (((j - 1:Nat):Int))=(j:Int) - 1 by omega] at hs)
      go_roundw
      case rel=>exact⟨j - 1,Sort.swp dj j (j - 1),by congr 1 <;> omega,by omega,by omega,by show _=_;rw[←unhide HI,Fh lt a j dj hja (unhide HL)],HS3,HK3⟩
      case measure=>simp[intOf];omega
     | false=>
      rw[hlv] at hl
      have HL:=hide hlv
      clear hlv
      go_wp2_with (go_at_fn g;refine hl.mono ?_;rintro e w' ⟨rfl,hS2,hK2⟩;have HK2:=hide (Kp.trans (unhide HK) hK2);have HS2:=hide hS2;clear hS2 hK2)
      go_roundw
      case rel=>exact⟨i+1,dj,by go_num,by omega,by omega,by show _=_;rw[←unhide HO,Sp _ _ _ _ _ hlt,←unhide HI,R0 _ _ _ _ (Or.inr (unhide HL))],HS2,HK2⟩
      case measure=>simp[intOf];omega
    ·go_wp2
     go_roundw
     case rel=>exact⟨i+1,dj,by go_num,by omega,by omega,by show _=_;rw[←unhide HO,Sp _ _ _ _ _ hlt,←unhide HI,R0 _ _ _ _ (Or.inl (by omega))],HS,HK⟩
     case measure=>simp[intOf];omega
  ·go_wp2_with fail
   go_end0
   exact⟨rfl,by rw[←unhide HO,Mx _ _ _ _ _ hlt];exact unhide HS,Kp.trans (unhide KX) (unhide HK)⟩
theorem Zcf{α : Type}[Inhabited α](lt : α → α→Bool)(hi first root:Nat)(d:Array α)(h:hi≤2*root+1):Sort.siftDown lt hi first root d=d:=by
 rw[Sort.siftDown,dif_pos h]
theorem N9{α : Type}[Inhabited α](lt : α → α→Bool)(hi first root:Nat)(d:Array α)(h:2*root+2<hi)(hl:lt d[first+(2*root+1)]! d[first+(2*root+1)+1]! = true) :
  Sort.siftDown lt hi first root d=if lt d[first+root]! d[first+(2*root+2)]! then Sort.siftDown lt hi first (2*root+2) (Sort.swp d (first+root) (first+(2*root+2))) else d:=by
 rw[Sort.siftDown,dif_neg (by omega),if_pos (by simp[hl];omega),dif_pos h]
 cases lt d[first+root]! d[first+(2*root+2)]! <;> rfl
theorem Ro{α : Type}[Inhabited α](lt : α → α→Bool)(hi first root:Nat)(d:Array α)(h:2*root+1<hi)(hl:hi≤2*root+2∨lt d[first+(2*root+1)]! d[first+(2*root+1)+1]! = false) :
  Sort.siftDown lt hi first root d=if lt d[first+root]! d[first+(2*root+1)]! then Sort.siftDown lt hi first (2*root+1) (Sort.swp d (first+root) (first+(2*root+1))) else d:=by
 rw[Sort.siftDown,dif_neg (by omega),if_neg]
 ·cases lt d[first+root]! d[first+(2*root+1)]! <;> rfl
 ·rcases hl with q|q
  ·simp;omega
  ·simp[q]
theorem Ch{α : Type}[Inhabited α]{g:Nat}{lb:Array Value}{sf:Nat}{sb:Array Value}{lt : α → α→Bool}{n B:Nat}{St:World→Array α→Prop}(H:Sr Tryz.prog g lb sf sb lt n B St)
  (lo hi first:Nat) (d:Array α) (w:World) (h:St w d) (hb:first+hi≤n) (hlo:lo≤n) :
  Calls Tryz.prog 233 #[lsV g lb sf sb,.int .i64 lo,.int .i64 hi,.int .i64 first] w fun e w'=>e = .returned (.tuple #[])∧St w' (Sort.siftDown lt hi first lo d)∧Kp B w w':=by
 unfold lsV
 have hn:=H.small
 have eg:=H.enters
 have hlow:=H.low _ _ h
 obtain⟨N0,N1⟩:=Wx w (.func (.func g) #[] lb) (.func (.func sf) #[] sb) 230
 have SX:=hide (H.alloc w d (.cells #[.func (.func g) #[] lb,.func (.func sf) #[] sb] 230) h)
 have KX:=hide (Kp.alloc B w (.cells #[.func (.func g) #[] lb,.func (.func sf) #[] sb] 230))
 have HH:=hide H
 clear H h
 go_enter Tryz.func233,Tryz.ntmps233
 go_wp2
 generalize w.alloc (.cells #[.func (.func g) #[] lb,.func (.func sf) #[] sb] 230)=X at *
 have M0:=hide N0
 have M1:=hide N1
 clear N0 N1
 go_loopw [8] (fun s8 wr=>∃ (root:Nat) (dk:Array α),s8 = .int .i64 root∧root≤n∧Hid (Sort.siftDown lt hi first root dk=Sort.siftDown lt hi first lo d)∧Hid (St wr dk)∧Hid (Kp B X wr)) (fun s8 _=>n+1 - (intOf s8).toNat)
 case atStart=>exact⟨lo,d,rfl,hlo,rfl,SX,Kp.refl _ _⟩
 case round=>
  obtain⟨root,dk,rfl,hrn,HO,HS,HK⟩:=hrel
  have c0:=(unhide HK).cell hlow (unhide M0)
  have hsz:=World.block_lt_of_cell? _ _ c0
  obtain⟨c,hc⟩:∃ c:Nat,c=2*root+1:=⟨_,rfl⟩
  have hcI:2*(root:Int)+1=(c:Int):=by omega
  have hrc:root<c:=by omega
  have HC:=hide hc
  clear hc
  by_cases hend:hi≤c
  ·go_wp2_with fail
   go_end0
   exact⟨rfl,by rw[←unhide HO,Zcf _ _ _ _ _ (by have:=unhide HC;omega)];exact unhide HS,Kp.trans (unhide KX) (unhide HK)⟩
  ·
   by_cases hmore:c+1<hi
   ·have hl:=(unhide HH).less wr dk (first+c) (first+c+1) (unhide HS) (by omega) (by omega)
    rw[show (((first+c+1:Nat):Int))=(first:Int)+c+1 by omega,show (((first+c:Nat):Int))=(first:Int)+c by omega] at hl
    cases hlv:lt dk[first+c]! dk[first+c+1]! with
    | true=>
     rw[hlv] at hl
     have HL:=hide hlv
     clear hlv
     go_wp2_with fail
     refine hl.mono ?_
     rintro e w2 ⟨rfl,hS2,hK2⟩
     have HK2:=hide (Kp.trans (unhide HK) hK2)
     have HS2:=hide hS2
     have c02:=(unhide HK2).cell hlow (unhide M0)
     have hl2:=(unhide HH).less w2 dk (first+root) (first+(c+1)) hS2 (by omega) (by omega)
     rw[show (((first+(c+1):Nat):Int))=(first:Int)+(c+1) by omega,show (((first+root:Nat):Int))=(first:Int)+root by omega] at hl2
     have hsz2:=World.block_lt_of_cell? _ _ c02
     clear hS2 hK2 hl c0
     cases hlv:lt dk[first+root]! dk[first+(c+1)]! with
     | true=>
      rw[hlv] at hl2
      have HL2:=hide hlv
      clear hlv
      go_wp2_with fail
      refine hl2.mono ?_
      rintro e w3 ⟨rfl,hS3,hK3⟩
      have HK3:=hide (Kp.trans (unhide HK2) hK3)
      have c13:=(unhide HK3).cell hlow (unhide M1)
      have hsz3:=World.block_lt_of_cell? _ _ c13
      obtain⟨w4,hs,hS4,hK4⟩:=(unhide HH).swap w3 dk (first+root) (first+(c+1)) hS3 (by omega) (by omega)
      rw[show (((first+(c+1):Nat):Int))=(first:Int)+(c+1) by omega,show (((first+root:Nat):Int))=(first:Int)+root by omega] at hs
      have HS4:=hide hS4
      have HK4:=hide (Kp.trans (unhide HK3) hK4)
      clear hS3 hK3 hS4 hK4 hl2
      go_wp2
      go_roundw
      case rel=>exact⟨c+1,_,by go_num,by omega,by show _=_;rw[←unhide HO,N9 lt hi first root dk (by have:=unhide HC;omega) (by rw[←unhide HC];exact unhide HL),show 2*root+2=c+1 by have:=unhide HC;omega,if_pos (unhide HL2)],HS4,HK4⟩
      case measure=>simp[intOf];omega
     | false=>
      rw[hlv] at hl2
      have HL2:=hide hlv
      clear hlv
      go_wp2_with fail
      refine hl2.mono ?_
      rintro e w3 ⟨rfl,hS3,hK3⟩
      have HK3:=hide (Kp.trans (unhide HK2) hK3)
      have HS3:=hide hS3
      clear hS3 hK3 hl2
      go_wp2
      (try simp only[Exit.inBlock,Exit.then]);refine bodyPost_ret (results_none rfl _ _ _) rfl ?_
      exact⟨rfl,by rw[←unhide HO,N9 lt hi first root dk (by have:=unhide HC;omega) (by rw[←unhide HC];exact unhide HL),show 2*root+2=c+1 by have:=unhide HC;omega,if_neg (by rw[unhide HL2];decide)];exact unhide HS3,Kp.trans (unhide KX) (unhide HK3)⟩
    | false=>
     rw[hlv] at hl
     have HL:=hide hlv
     clear hlv
     go_wp2_with fail
     refine hl.mono ?_
     rintro e w2 ⟨rfl,hS2,hK2⟩
     have HK2:=hide (Kp.trans (unhide HK) hK2)
     have HS2:=hide hS2
     have c02:=(unhide HK2).cell hlow (unhide M0)
     have hl2:=(unhide HH).less w2 dk (first+root) (first+c) hS2 (by omega) (by omega)
     rw[show (((first+c:Nat):Int))=(first:Int)+c by omega,show (((first+root:Nat):Int))=(first:Int)+root by omega] at hl2
     have hsz2:=World.block_lt_of_cell? _ _ c02
     clear hS2 hK2 hl c0
     cases hlv:lt dk[first+root]! dk[first+c]! with
     | true=>
      rw[hlv] at hl2
      have HL2:=hide hlv
      clear hlv
      go_wp2_with fail
      refine hl2.mono ?_
      rintro e w3 ⟨rfl,hS3,hK3⟩
      have HK3:=hide (Kp.trans (unhide HK2) hK3)
      have c13:=(unhide HK3).cell hlow (unhide M1)
      have hsz3:=World.block_lt_of_cell? _ _ c13
      obtain⟨w4,hs,hS4,hK4⟩:=(unhide HH).swap w3 dk (first+root) (first+c) hS3 (by omega) (by omega)
      rw[show (((first+c:Nat):Int))=(first:Int)+c by omega,show (((first+root:Nat):Int))=(first:Int)+root by omega] at hs
      have HS4:=hide hS4
      have HK4:=hide (Kp.trans (unhide HK3) hK4)
      clear hS3 hK3 hS4 hK4 hl2
      go_wp2
      go_roundw
      case rel=>exact⟨c,_,by go_num,by omega,by show _=_;rw[←unhide HO,Ro lt hi first root dk (by have:=unhide HC;omega) (Or.inr (by rw[←unhide HC];exact unhide HL)),←unhide HC,if_pos (unhide HL2)],HS4,HK4⟩
      case measure=>simp[intOf];omega
     | false=>
      rw[hlv] at hl2
      have HL2:=hide hlv
      clear hlv
      go_wp2_with fail
      refine hl2.mono ?_
      rintro e w3 ⟨rfl,hS3,hK3⟩
      have HK3:=hide (Kp.trans (unhide HK2) hK3)
      have HS3:=hide hS3
      clear hS3 hK3 hl2
      go_wp2
      (try simp only[Exit.inBlock,Exit.then]);refine bodyPost_ret (results_none rfl _ _ _) rfl ?_
      exact⟨rfl,by rw[←unhide HO,Ro lt hi first root dk (by have:=unhide HC;omega) (Or.inr (by rw[←unhide HC];exact unhide HL)),←unhide HC,if_neg (by rw[unhide HL2];decide)];exact unhide HS3,Kp.trans (unhide KX) (unhide HK3)⟩
   ·have hl2:=(unhide HH).less wr dk (first+root) (first+c) (unhide HS) (by omega) (by omega)
    rw[show (((first+c:Nat):Int))=(first:Int)+c by omega,show (((first+root:Nat):Int))=(first:Int)+root by omega] at hl2
    cases hlv:lt dk[first+root]! dk[first+c]! with
    | true=>
     rw[hlv] at hl2
     have HL2:=hide hlv
     clear hlv
     go_wp2_with fail
     refine hl2.mono ?_
     rintro e w3 ⟨rfl,hS3,hK3⟩
     have HK3:=hide (Kp.trans (unhide HK) hK3)
     have c13:=(unhide HK3).cell hlow (unhide M1)
     have hsz3:=World.block_lt_of_cell? _ _ c13
     obtain⟨w4,hs,hS4,hK4⟩:=(unhide HH).swap w3 dk (first+root) (first+c) hS3 (by omega) (by omega)
     rw[show (((first+c:Nat):Int))=(first:Int)+c by omega,show (((first+root:Nat):Int))=(first:Int)+root by omega] at hs
     have HS4:=hide hS4
     have HK4:=hide (Kp.trans (unhide HK3) hK4)
     clear hS3 hK3 hS4 hK4 hl2
     go_wp2
     go_roundw
     case rel=>exact⟨c,_,by go_num,by omega,by show _=_;rw[←unhide HO,Ro lt hi first root dk (by have:=unhide HC;omega) (Or.inl (by have:=unhide HC;omega)),←unhide HC,if_pos (unhide HL2)],HS4,HK4⟩
     case measure=>simp[intOf];omega
    | false=>
     rw[hlv] at hl2
     have HL2:=hide hlv
     clear hlv
     go_wp2_with fail
     refine hl2.mono ?_
     rintro e w3 ⟨rfl,hS3,hK3⟩
     have HK3:=hide (Kp.trans (unhide HK) hK3)
     have HS3:=hide hS3
     clear hS3 hK3 hl2
     go_wp2
     (try simp only[Exit.inBlock,Exit.then]);refine bodyPost_ret (results_none rfl _ _ _) rfl ?_
     exact⟨rfl,by rw[←unhide HO,Ro lt hi first root dk (by have:=unhide HC;omega) (Or.inl (by have:=unhide HC;omega)),←unhide HC,if_neg (by rw[unhide HL2];decide)];exact unhide HS3,Kp.trans (unhide KX) (unhide HK3)⟩
theorem Zfx{α : Type}[Inhabited α]{g:Nat}{lb:Array Value}{sf:Nat}{sb:Array Value}{lt : α → α→Bool}{n B:Nat}{St:World→Array α→Prop}(H:Sr Tryz.prog g lb sf sb lt n B St)
  (a b:Nat) (d:Array α) (w:World) (h:St w d) (hab:a+2≤b) (hb:b≤n) :
  Calls Tryz.prog 200 #[lsV g lb sf sb,.int .i64 a,.int .i64 b] w fun e w'=>e = .returned (.tuple #[])∧St w' (Sort.heapSort lt d a b)∧Kp B w w':=by
 unfold lsV Sort.heapSort
 have hn:=H.small
 have hlow:=H.low _ _ h
 obtain⟨N0,N1⟩:=Wx w (.func (.func g) #[] lb) (.func (.func sf) #[] sb) 230
 have SX:=hide (H.alloc w d (.cells #[.func (.func g) #[] lb,.func (.func sf) #[] sb] 230) h)
 have KX:=hide (Kp.alloc B w (.cells #[.func (.func g) #[] lb,.func (.func sf) #[] sb] 230))
 have HH:=hide H
 clear H h
 obtain⟨hi,hhi⟩:∃ hi:Nat,hi=b - a:=⟨_,rfl⟩
 have hhI:(b:Int) - (a:Int)=(hi:Int):=by omega
 obtain⟨m,hm⟩:∃ m:Nat,m=(hi - 1) / 2:=⟨_,rfl⟩
 have hmI:((hi:Int) - 1) / 2=(m:Int):=by omega
 have hmT:((hi:Int) - 1).tdiv 2=(m:Int):=by rw[Int.tdiv_eq_ediv_of_nonneg (by omega)];exact hmI
 rw[←hhi,←hm]
 have hi2:2≤hi:=by omega
 have hib:a+hi≤n:=by omega
 have hmh:m<hi:=by omega
 clear hm hhi
 go_enter Tryz.func200,Tryz.ntmps200
 go_wp2
 generalize w.alloc (.cells #[.func (.func g) #[] lb,.func (.func sf) #[] sb] 230)=X at *
 have M0:=hide N0
 have M1:=hide N1
 clear N0 N1
 go_loopw [9] (fun s9 wr=>∃ (k:Nat) (dk:Array α),s9 = .int .i64 ((k:Int) - 1)∧k≤hi∧Hid (Sort.heapBuild lt hi a k dk=Sort.heapBuild lt hi a (m+1) d)∧Hid (St wr dk)∧Hid (Kp B X wr)) (fun s9 _=>(intOf s9+1).toNat)
 case atStart=>exact⟨m+1,d,by congr 1;omega,by omega,rfl,SX,Kp.refl _ _⟩
 case round=>
  obtain⟨k,dk,rfl,hkh,HO,HS,HK⟩:=hrel
  have c0:=(unhide HK).cell hlow (unhide M0)
  have c1:=(unhide HK).cell hlow (unhide M1)
  have hsz:=World.block_lt_of_cell? _ _ c0
  cases k with
  | zero=>
   have HD:Hid (dk=Sort.heapBuild lt hi a (m+1) d):=unhide HO
   clear HO
   have hneg:¬(0:Int)≤((0:Nat):Int) - 1:=by omega
   go_wp2_with fail
   go_loopw [10] (fun s10 wr=>∃ (k:Nat) (dj:Array α),s10 = .int .i64 ((k:Int) - 1)∧k≤hi∧Hid (Sort.heapPop lt a k dj=Sort.heapPop lt a hi dk)∧Hid (St wr dj)∧Hid (Kp B X wr)) (fun s10 _=>(intOf s10+1).toNat)
   case atStart=>exact⟨hi,dk,rfl,Nat.le_refl _,rfl,HS,HK⟩
   case round=>
    clear HS HK c0 c1 hsz
    obtain⟨k,dj,rfl,hkh,HO,HS,HK⟩:=hrel
    have c0:=(unhide HK).cell hlow (unhide M0)
    have c1:=(unhide HK).cell hlow (unhide M1)
    have hsz:=World.block_lt_of_cell? _ _ c0
    cases k with
    | zero=>
     have hneg:¬(0:Int)≤((0:Nat):Int) - 1:=by omega
     go_wp2_with fail
     go_end0
     exact⟨rfl,by rw[←unhide HD,←unhide HO];exact unhide HS,Kp.trans (unhide KX) (unhide HK)⟩
    | succ k=>
     have hkI:((k+1:Nat):Int) - 1=(k:Int):=by omega
     rw[hkI]
     obtain⟨w2,hs,hS2,hK2⟩:=(unhide HH).swap wr dj a (a+k) (unhide HS) (by omega) (by omega)
     rw[show (((a+k:Nat):Int))=(a:Int)+k by omega] at hs
     have HK2:=hide (Kp.trans (unhide HK) hK2)
     have c02:=(unhide HK2).cell hlow (unhide M0)
     have c12:=(unhide HK2).cell hlow (unhide M1)
     have hsz2:=World.block_lt_of_cell? _ _ c02
     have C:=hide (Ch (unhide HH) 0 k a (Sort.swp dj a (a+k)) w2 hS2 (by omega) (by omega))
     unfold lsV at C
     clear hS2 hK2 c0
     go_wp2_with fail
     refine (unhide C).mono ?_
     rintro e w3 ⟨rfl,hS3,hK3⟩
     have HS3:=hide hS3
     have HK3:=hide (Kp.trans (unhide HK2) hK3)
     clear hS3 hK3
     go_wp2
     go_roundw
     case rel=>exact⟨k,_,rfl,by omega,by show _=_;rw[←unhide HO];rfl,HS3,HK3⟩
     case measure=>simp[intOf]
  | succ k=>
   have hkI:((k+1:Nat):Int) - 1=(k:Int):=by omega
   rw[hkI]
   have C:=hide (Ch (unhide HH) k hi a dk wr (unhide HS) (by omega) (by omega))
   unfold lsV at C
   go_wp2_with fail
   refine (unhide C).mono ?_
   rintro e w3 ⟨rfl,hS3,hK3⟩
   have HS3:=hide hS3
   have HK3:=hide (Kp.trans (unhide HK) hK3)
   clear hS3 hK3
   go_wp2
   go_roundw
   case rel=>exact⟨k,_,rfl,by omega,by show _=_;rw[←unhide HO];rfl,HS3,HK3⟩
   case measure=>simp[intOf]
structure Kq(B q:Nat)(w w':World):Prop where
 size:w.heap.size≤w'.heap.size
 same:∀ b,B≤b→b≠q→b<w.heap.size→w'.heap[b]? = w.heap[b]?
theorem Kq.refl(B q:Nat)(w:World):Kq B q w w:=⟨Nat.le_refl _,fun _ _ _ _=>rfl⟩
theorem Kq.trans{B q:Nat}{w1 w2 w3:World}(h:Kq B q w1 w2)(k:Kq B q w2 w3):Kq B q w1 w3:=
 ⟨Nat.le_trans h.size k.size,fun b hb hq hl=>(k.same b hb hq (Nat.lt_of_lt_of_le hl h.size)).trans (h.same b hb hq hl)⟩
theorem Kp.but{B q:Nat}{w w':World}(h:Kp B w w'):Kq B q w w':=⟨h.size,fun b hb _ hl=>h.same b hb hl⟩
theorem Kq.set(B q:Nat)(w:World)(v:Value):Kq B q w (w.setCell ⟨q,0,none⟩ v):=
 ⟨by simp[World.setCell],fun b _ hq _=>Below.heap_setCell w ⟨q,0,none⟩ v b hq⟩
theorem Kq.cell{B q:Nat}{w w':World}(h:Kq B q w w'){p:Addr}{v:Value}(hb:B≤p.block)(hq:p.block≠q)(hc:w.cell? p=some v):w'.cell? p=some v:=by
 have hl:=World.block_lt_of_cell? w p hc
 have e:=h.same p.block hb hq hl
 simp only[World.cell?] at hc ⊢
 rw[e]
 exact hc
theorem Kq.all{B q:Nat}{w w1 w2:World}(h:Kp B w w1)(k:Kq B q w1 w2)(hq:w.heap.size≤q):Kp B w w2:=
 ⟨Nat.le_trans h.size k.size,fun b hb hl=>(k.same b hb (by omega) (Nat.lt_of_lt_of_le hl h.size)).trans (h.same b hb hl)⟩
def Ctr(w:World)(q s:Nat):Prop:=w.cell? ⟨q,0,none⟩=some (.int .i64 s)∧w.frozen? ⟨q,0,none⟩=false
theorem Ctr.kp{B q s:Nat}{w w':World}(c:Ctr w q s)(h:Kp B w w')(hq:B≤q):Ctr w' q s:=
 ⟨h.cell (p:=⟨q,0,none⟩) hq c.1,by
  have e:=h.same q hq (World.block_lt_of_cell? _ _ c.1)
  have f:=c.2
  simp only[World.frozen?] at f ⊢
  rw[e]
  exact f⟩
theorem Tn{α : Type}[Inhabited α]{g:Nat}{lb:Array Value}{sf:Nat}{sb:Array Value}{lt : α → α→Bool}{n B:Nat}{St:World→Array α→Prop}(H:Sr Tryz.prog g lb sf sb lt n B St)
  (a b q s:Nat) (d:Array α) (w:World) (h:St w d) (ha:a<n) (hb:b<n) (hq:B≤q) (hs:s≤100) (hc:Ctr w q s) :
  Calls Tryz.prog 261 #[lsV g lb sf sb,.int .i64 a,.int .i64 b,.pointer (some ⟨q,0,none⟩)] w fun e w'=>∃ x y s':Nat,e = .returned (.tuple #[.int .i64 x,.int .i64 y])∧((x=a∧y=b)∨(x=b∧y=a))∧s'≤s+1∧Ctr w' q s'∧St w' d∧Kq B q w w':=by
 unfold lsV
 have hn:=H.small
 have eg:=H.enters
 have hlow:=H.low _ _ h
 obtain⟨N0,N1⟩:=Wx w (.func (.func g) #[] lb) (.func (.func sf) #[] sb) 230
 have hql:=World.block_lt_of_cell? _ _ hc.1
 have SX:=H.alloc w d (.cells #[.func (.func g) #[] lb,.func (.func sf) #[] sb] 230) h
 have KX:=Kp.alloc B w (.cells #[.func (.func g) #[] lb,.func (.func sf) #[] sb] 230)
 have cX:=hc.kp KX hq
 have hl:=H.less _ d b a SX hb ha
 have HH:=hide H
 have KH:=hide KX
 clear H h KX SX hc
 cases hlv:lt d[b]! d[a]! with
 | true=>
  rw[hlv] at hl
  clear hlv
  go_enter Tryz.func261,Tryz.ntmps261
  go_wp2_with fail
  refine hl.mono ?_
  rintro e w2 ⟨rfl,hS2,hK2⟩
  obtain⟨c2,f2⟩:=cX.kp hK2 hq
  have hsz2:=World.block_lt_of_cell? _ _ c2
  have HS3:=hide ((unhide HH).store w2 d q 0 (.int .i64 ((s+1:Nat):Int)) hS2 hq)
  have HK3:=hide (Kq.trans (Kq.trans (unhide KH).but hK2.but) (Kq.set B q w2 (.int .i64 ((s+1:Nat):Int))))
  have HC3:Hid (Ctr (w2.setCell ⟨q,0,none⟩ (.int .i64 ((s+1:Nat):Int))) q (s+1)):=⟨World.cell?_setCell_same _ _ _ c2,by rw[World.frozen?_setCell];exact f2⟩
  clear hS2 hK2 hl N0 N1 cX
  go_wp2
  go_ret2
  exact⟨b,a,s+1,rfl,Or.inr ⟨rfl,rfl⟩,Nat.le_refl _,unhide HC3,unhide HS3,unhide HK3⟩
 | false=>
  rw[hlv] at hl
  clear hlv
  go_enter Tryz.func261,Tryz.ntmps261
  go_wp2_with fail
  refine hl.mono ?_
  rintro e w2 ⟨rfl,hS2,hK2⟩
  have HC2:=hide (cX.kp hK2 hq)
  have HS2:=hide hS2
  have HK2:=hide (Kq.trans (q:=q) (unhide KH).but hK2.but)
  clear hS2 hK2 hl N0 N1 cX
  go_wp2
  go_ret2
  exact⟨a,b,s,rfl,Or.inl ⟨rfl,rfl⟩,by omega,unhide HC2,unhide HS2,unhide HK2⟩
theorem To{α : Type}[Inhabited α]{g:Nat}{lb:Array Value}{sf:Nat}{sb:Array Value}{lt : α → α→Bool}{n B:Nat}{St:World→Array α→Prop}(H:Sr Tryz.prog g lb sf sb lt n B St)
  (a b c q s:Nat) (d:Array α) (w:World) (h:St w d) (ha:a<n) (hb:b<n) (hcn:c<n) (hq:B≤q) (hs:s≤90) (hc:Ctr w q s) :
  Calls Tryz.prog 237 #[lsV g lb sf sb,.int .i64 a,.int .i64 b,.int .i64 c,.pointer (some ⟨q,0,none⟩)] w fun e w'=>∃ x s':Nat,e = .returned (.int .i64 x)∧(x=a∨x=b∨x=c)∧s'≤s+3∧Ctr w' q s'∧St w' d∧Kq B q w w':=by
 unfold lsV
 have hlow:=H.low _ _ h
 have hql:=World.block_lt_of_cell? _ _ hc.1
 obtain⟨N0,N1⟩:=Wx w (.func (.func g) #[] lb) (.func (.func sf) #[] sb) 230
 have SX:=H.alloc w d (.cells #[.func (.func g) #[] lb,.func (.func sf) #[] sb] 230) h
 have KX:=Kp.alloc B w (.cells #[.func (.func g) #[] lb,.func (.func sf) #[] sb] 230)
 have cX:=hc.kp KX hq
 have C:=hide (Tn H a b q s d _ SX ha hb hq (by omega) cX)
 unfold lsV at C
 have HH:=hide H
 have KH:=hide KX
 have M0:=hide N0
 have M1:=hide N1
 clear H h KX SX hc cX
 go_enter Tryz.func237,Tryz.ntmps237
 go_wp2_with fail
 refine (unhide C).mono ?_
 rintro e w2 ⟨x1,y1,s1,rfl,hxy1,hs1,c1,hS1,hK1⟩
 have m0:=hK1.cell (p:=⟨w.heap.size,0,none⟩) hlow (by show w.heap.size≠q;omega) (unhide M0)
 have m1:=hK1.cell (p:=⟨w.heap.size,1,none⟩) hlow (by show w.heap.size≠q;omega) (unhide M1)
 have hz2:=World.block_lt_of_cell? _ _ m0
 have C2:=hide (Tn (unhide HH) y1 c q s1 d _ hS1 (by omega) hcn hq (by omega) c1)
 unfold lsV at C2
 have HK1:=hide (Kq.trans (unhide KH).but hK1)
 have P0:=hide m0
 have P1:=hide m1
 clear N0 N1 C hK1 hS1 c1
 go_wp2_with fail
 refine (unhide C2).mono ?_
 rintro e w3 ⟨x2,y2,s2,rfl,hxy2,hs2,c2,hS2,hK2⟩
 have n0:=hK2.cell (p:=⟨w.heap.size,0,none⟩) hlow (by show w.heap.size≠q;omega) (unhide P0)
 have n1:=hK2.cell (p:=⟨w.heap.size,1,none⟩) hlow (by show w.heap.size≠q;omega) (unhide P1)
 have hz3:=World.block_lt_of_cell? _ _ n0
 have C3:=hide (Tn (unhide HH) x1 x2 q s2 d _ hS2 (by omega) (by omega) hq (by omega) c2)
 unfold lsV at C3
 have HK2:=hide (Kq.trans (unhide HK1) hK2)
 clear m0 m1 C2 hK2 hS2 c2
 go_wp2_with fail
 refine (unhide C3).mono ?_
 rintro e w4 ⟨x3,y3,s3,rfl,hxy3,hs3,c3,hS3,hK3⟩
 have HC3:=hide c3
 have HS3:=hide hS3
 have HK3:=hide (Kq.trans (unhide HK2) hK3)
 clear n0 n1 C3 hK3 hS3 c3
 go_wp2
 go_ret
 exact⟨y3,s3,rfl,by omega,by omega,unhide HC3,unhide HS3,unhide HK3⟩
theorem Tp{α : Type}[Inhabited α]{g:Nat}{lb:Array Value}{sf:Nat}{sb:Array Value}{lt : α → α→Bool}{n B:Nat}{St:World→Array α→Prop}(H:Sr Tryz.prog g lb sf sb lt n B St)
  (a q s:Nat) (d:Array α) (w:World) (h:St w d) (ha:a+1<n) (ha1:1≤a) (hq:B≤q) (hs:s≤90) (hc:Ctr w q s) :
  Calls Tryz.prog 236 #[lsV g lb sf sb,.int .i64 a,.pointer (some ⟨q,0,none⟩)] w fun e w'=>∃ x s':Nat,e = .returned (.int .i64 x)∧(a≤x+1∧x≤a+1)∧s'≤s+3∧Ctr w' q s'∧St w' d∧Kq B q w w':=by
 unfold lsV
 have hn:=H.small
 have hlow:=H.low _ _ h
 obtain⟨N0,N1⟩:=Wx w (.func (.func g) #[] lb) (.func (.func sf) #[] sb) 230
 have SX:=H.alloc w d (.cells #[.func (.func g) #[] lb,.func (.func sf) #[] sb] 230) h
 have KX:=Kp.alloc B w (.cells #[.func (.func g) #[] lb,.func (.func sf) #[] sb] 230)
 have cX:=hc.kp KX hq
 have C:=To H (a - 1) a (a+1) q s d _ SX (by omega) (by omega) (by omega) hq hs cX
 unfold lsV at C
 rw[show (((a - 1:Nat):Int))=(a:Int) - 1 by omega,show (((a+1:Nat):Int))=(a:Int)+1 by omega] at C
 have C:=hide C
 have KH:=hide KX
 clear H h KX SX hc cX
 go_enter Tryz.func236,Tryz.ntmps236
 go_wp2_with fail
 refine (unhide C).mono ?_
 rintro e w2 ⟨x1,s1,rfl,hx1,hs1,c1,hS1,hK1⟩
 have HC1:=hide c1
 have HS1:=hide hS1
 have HK1:=hide (Kq.trans (unhide KH).but hK1)
 clear N0 N1 C hK1 hS1 c1
 go_wp2
 go_ret
 exact⟨x1,s1,rfl,by omega,by omega,unhide HC1,unhide HS1,unhide HK1⟩
end Go.Proofs.YtepmnpapdknocaaGreatDoor
