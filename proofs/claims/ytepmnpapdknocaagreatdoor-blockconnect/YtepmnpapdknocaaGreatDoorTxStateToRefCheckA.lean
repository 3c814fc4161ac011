/- What the reading of a transaction's lines builds: its box, its rows of ins and outs, their orders; told apart by their types. -/
import Derived.Test.YtepmnpapdknocaaGreatDoorTxCheckBToTxParts
import Derived.Test.YtepmnpapdknocaaGreatDoorLockRead
import Derived.Test.YtepmnpapdknocaaGreatDoorLockReadO
import Derived.Test.YtepmnpapdknocaaGreatDoorTxRowToRefTxText
import Derived.Deep.AppendLies
import Derived.OwnWalk
import Derived.Test.YtepmnpapdknocaaGreatDoorBookAllWToLockFlat
import Derived.Lib.IndexBytes
import Derived.Test.YtepmnpapdknocaaGreatDoorLockMathToLockFill
import Derived.Test.YtepmnpapdknocaaGreatDoorRefWholeToTxCheck
set_option maxHeartbeats 6400000
set_option maxRecDepth 10000
namespace Go.Proofs.YtepmnpapdknocaaGreatDoor
open Go.RowKit
def Cv:List (InD×Value)→List Value
 | []=>[]
 | x :: r=>.int .i64 x.1.1 :: .int .i64 x.1.2.1 :: x.2 :: Cv r
def D6:List (Z7×Value)→List Value
 | []=>[]
 | x :: r=>.int .i64 x.1.1 :: x.2 :: D6 r
theorem own_type{w w':World}{base:Nat}{e:TypeId}{size:Nat}{v:Value}{n:Nat}{xs:List Value}(h:w.ownsRow base e size v n xs)(hk:∀ (k:Nat) (cs:Array Value),w.heap[k]? = some (.cells cs e (0,0))→w'.heap[k]? = w.heap[k]?):w'.ownsRow base e size v n xs:=by
 obtain⟨hl,h0|⟨g,cap,cur,hv,hg,hh,r⟩⟩:=h
 ·exact⟨hl,.inl h0⟩
 ·exact⟨hl,.inr ⟨g,cap,cur,hv,hg,(hk g cur hh).trans hh,r⟩⟩
structure PL(w:World)(q p lb:Nat)(A:Array Value)(h:Int)(wr:World)(v1 v2:Value)(L1:List (InD×Value))(L2:List (Z7×Value)):Prop where
 box:wr.heap[p]? = some (.cells #[.int .i64 h,v1,v2] 74 (0,0))
 res:wr.heap[q]? = some (.cells #[.int .i64 0,.slice none 0 0,.slice none 0 0] 74 (0,0))
 pq:p≠q
 lin:wr.heap[lb]? = some (.cells A 9 (0,0))
 own1:wr.ownsRow w.heap.size 140 3 v1 L1.length (Cv L1)
 own2:wr.ownsRow w.heap.size 84 2 v2 L2.length (D6 L2)
 keys1:∀ x∈L1,wr.ownsRow w.heap.size 148 2 x.2 x.1.2.2.length (flat x.1.2.2)
 keys2:∀ x∈L2,wr.ownsRow w.heap.size 148 2 x.2 x.1.2.length (flat x.1.2)
 bel:Below w.heap.size w wr
 pge:w.heap.size≤p
theorem PL.later{w:World}{q p lb:Nat}{A:Array Value}{h:Int}{wr w':World}{v1 v2:Value}{L1:List (InD×Value)}{L2:List (Z7×Value)}(s:PL w q p lb A h wr v1 v2 L1 L2)(hb:Below wr.heap.size wr w'):PL w q p lb A h w' v1 v2 L1 L2 where
 box:=(hb.block _ (lt_of_block s.box)).trans s.box
 res:=(hb.block _ (lt_of_block s.res)).trans s.res
 pq:=s.pq
 lin:=(hb.block _ (lt_of_block s.lin)).trans s.lin
 own1:=Y1 s.own1 hb
 own2:=Y1 s.own2 hb
 keys1:=fun x hx=>Y1 (s.keys1 x hx) hb
 keys2:=fun x hx=>Y1 (s.keys2 x hx) hb
 bel:=bel_on s.bel hb
 pge:=s.pge
theorem grow_type{w w':World}{base:Nat}{e:TypeId}{size:Nat}{v:Value}{n:Nat}{xs:List Value}(h:w.ownsRow base e size v n xs)(hg:w.grownBy w' v.ownBlock)(k:Nat)(cs:Array Value)(t:TypeId)(hk:w.heap[k]? = some (.cells cs t (0,0)))(ht:t≠e):w'.heap[k]? = w.heap[k]?:=by
 refine hg.block k (lt_of_block hk) (fun e1=>?_)
 obtain⟨_,⟨rfl,_⟩|⟨g,cap,cur,rfl,_,hh,_⟩⟩:=h
 ·cases e1
 ·have e2:k=g:=by injection e1
  subst e2
  rw[hk] at hh
  injection hh with hh
  injection hh with _ hh
  exact ht hh
theorem PL.alloc{w:World}{q p lb:Nat}{A:Array Value}{h:Int}{wr:World}{v1 v2:Value}{L1:List (InD×Value)}{L2:List (Z7×Value)}(s:PL w q p lb A h wr v1 v2 L1 L2)(o:Obj):PL w q p lb A h (wr.alloc o) v1 v2 L1 L2:=s.later (bel_new wr o)
theorem PL.drewN{w:World}{q p lb:Nat}{A:Array Value}{h:Int}{wr:World}{v1 v2:Value}{L1:List (InD×Value)}{L2:List (Z7×Value)}(s:PL w q p lb A h wr v1 v2 L1 L2)(n:Nat):PL w q p lb A h (wr.drewN n) v1 v2 L1 L2:=
 s.later ⟨rfl,rfl,rfl,Nat.le_refl _,fun _ _=>rfl⟩
def hd1(x:List UInt8):Option UInt8:=x.head?
theorem Zat{p h k n:Int}(f:Xm p h k n=true):∀ z∈[p,h,k,n],-10000000000≤z∧z≤10000000000:=by
 simp only[Xm,Bool.and_eq_true,decide_eq_true_eq] at f
 intro z hz
 simp only[List.mem_cons,List.not_mem_nil,or_false] at hz
 rcases hz with rfl|rfl|rfl|rfl <;> omega
theorem Rk(t:TxD):∀ T:List TxD,Yf (T++[t])=Yf T++Zv t
 | []=>by
  apply U1
  simp[Yf,ByteArray.data_append]
 | u :: T=>by
  show Zv u++Yf (T++[t])=Zv u++Yf T++Zv t
  rw[Rk t T]
  apply U1
  simp[ByteArray.data_append]
theorem Dk(p h k n:Int)(a:Option Addr)(m c:Nat)(T:List TxD)(w:World)(hE:EnvF w)(hT:TxsAt w a m T)(hx:Xq (p,h,k,n,T)=0) :
  Calls Tryz.prog 37 #[.agg #[.int .i64 p,.int .i64 h,.int .i64 k,.int .i64 n,.slice a m c]] w fun e w'=>e = .returned (.string (Wy (p,h,k,n,T)))∧Below w.heap.size w w':=by
 obtain⟨f1,f2,f3,_,f5⟩:=Ve hx
 have hz:T.length=m:=hT.1
 obtain⟨X,hX⟩:∃ X,X=(w.alloc (.cells #[.int .i64 p,.int .i64 h,.int .i64 k,.int .i64 n,.slice a m c] 28)).alloc (.cells #[.int .i64 p,.int .i64 h,.int .i64 k,.int .i64 n] 3):=⟨_,rfl⟩
 have hbX:Below w.heap.size w X:=by rw[hX];exact bel_on (bel_new _ _) (bel_new _ _)
 have hX0:X.heap[w.heap.size]? = some (.cells [.int .i64 p,.int .i64 h,.int .i64 k,.int .i64 n,.slice a m c].toArray 28 (0,0)):=by
  rw[hX,Below.heap_alloc _ _ _ (by simp)];exact Yd _ _ _ _ _ _ _
 have hX1:X.heap[w.heap.size+1]? = some (.cells [.int .i64 p,.int .i64 h,.int .i64 k,.int .i64 n].toArray 3 (0,0)):=by
  rw[hX]
  have:=Jm (w.alloc (.cells #[.int .i64 p,.int .i64 h,.int .i64 k,.int .i64 n,.slice a m c] 28)) (.int .i64 p) (.int .i64 h) (.int .i64 k) (.int .i64 n) 3
  rw[show (w.alloc (.cells #[.int .i64 p,.int .i64 h,.int .i64 k,.int .i64 n,.slice a m c] 28)).heap.size=w.heap.size+1 by simp] at this
  exact this
 have HE:=hide (fun W (hb:Below X.heap.size X W)=>hE.later (bel_on hbX hb))
 have HT:=hide (fun W (hb:Below X.heap.size X W)=>hT.later (bel_on hbX hb))
 have HB:=hide hbX
 have HX0:=hide hX0
 have HX1:=hide hX1
 have HZ:=hide hz
 have HF:=hide (Zat f1)
 have HC:=hide f5
 obtain⟨Z,hZ⟩:∃ Z,[p,h,k,n]=Z:=⟨_,rfl⟩
 have hZl:Z.length=4:=by rw[←hZ];rfl
 have hcell:∀ j (hj:j<Z.length),X.cell? ⟨w.heap.size+1,j,none⟩=some (.int .i64 Z[j]):=by
  subst hZ
  intro j hj
  refine Za hX1 j _ ?_
  match j,hj with
  | 0,_=>rfl
  | 1,_=>rfl
  | 2,_=>rfl
  | 3,_=>rfl
 rw[hZ] at HF
 have HCL:=hide hcell
 have HZL:=hide hZl
 have HZE:=hide hZ
 have hm4:m≤4:=by omega
 clear hE hT hbX hX0 hX1 hz hcell hZl hZ f1 f2 f3 f5 hx
 go_enter Tryz.func37,Tryz.ntmps37
 go_wp2_with fail
 rw[←hX]
 clear hX
 go_loopw [3,18] (fun sv i wr=>∃ j:Nat,j≤4∧i = .int .i64 j∧sv = .string (Wb blockB (Z.take j))∧Hid (Below X.heap.size X wr)) (fun _ i _=>4 - (intOf i).toNat)
 case atStart=>exact⟨0,Nat.zero_le _,rfl,rfl,(Below.refl _ _:Below X.heap.size X X)⟩
 case round=>
  obtain⟨j,hj,rfl,rfl,HBr⟩:=hrel
  by_cases hlt:j<4
  ·have hlk:j<Z.length:=by rw[unhide HZL];exact hlt
   have ccc:=cell_later (unhide HBr) ((unhide HCL) j hlk)
   have ccl:=World.block_lt_of_cell? _ _ ccc
   have hzr:=(unhide HF) Z[j] (List.getElem_mem hlk)
   have hS:=K7 blockB (Z.take j) Z[j]
   rw[←List.take_succ_eq_append_getElem hlk] at hS
   have hTs:(Wb blockB (Z.take j)).size≤200:=by
    have:=W6 blockB (Z.take j) (fun z hz=>(unhide HF) z (List.mem_of_mem_take hz))
    rw[List.length_take] at this
    have e5:blockB.size=5:=rfl
    omega
   obtain⟨z,hz⟩:∃ z,Z[j]=z:=⟨_,rfl⟩
   rw[hz] at ccc hzr hS
   obtain⟨T1,hT1⟩:∃ T1,Wb blockB (Z.take j)=T1:=⟨_,rfl⟩
   rw[hT1] at hS hTs ⊢
   have HS:=hide hS
   have hXs:=X4 z hzr
   have hXs1:((⟨#[32]⟩:ByteArray)++Y6 z).size≤22:=by rw[Gu];omega
   have IT:Hid (∀ w,Env w→Calls Tryz.prog 80 #[.int .i64 z] w fun e w'=>e = .returned (.string (Y6 z))∧Below w.heap.size w w'):=fun w hw=>
    (Tryz.strconv_Itoa z (by omega) (by omega) w hw.tab).mono fun e w' ⟨h1,k,os,h2⟩=>⟨h1,by rw[h2];exact Lib.below_grow _ _ (Nat.le_refl _) k os⟩
   have EE:=hide ((unhide HE) wr (unhide HBr)).envp.env
   have hjI:(j:Int)<4:=by omega
   clear hz hT1 hS hzr
   go_wp2_with fail
   refine ((unhide IT) _ (unhide EE)).mono ?_
   rintro e w3 ⟨rfl,hb3⟩
   have HB3:=hide (bel_on (unhide HBr) hb3)
   clear hb3
   go_wp2
   go_roundw
   case rel=>exact⟨j+1,by omega,by go_num,by rw[unhide HS],HB3⟩
   case measure=>simp[intOf];omega
  ·obtain rfl:j=4:=by omega
   have HR:Hid (Wb blockB (Z.take 4)=Wb blockB Z):=by show _=_;rw[List.take_of_length_le (by rw[unhide HZL];exact Nat.le_refl _)]
   rw[unhide HR]
   have hRs:(Wb blockB Z).size≤200:=by
    have:=W6 blockB Z (unhide HF)
    rw[unhide HZL] at this
    have e5:blockB.size=5:=rfl
    omega
   obtain⟨R,hR⟩:∃ R,Wb blockB Z=R:=⟨_,rfl⟩
   rw[hR] at hRs ⊢
   have h1:=((unhide HBr).block _ (lt_of_block (unhide HX0))).trans (unhide HX0)
   have b4:=Za h1 4 _ rfl
   have bl:=lt_of_block h1
   have HRR:=hide hR
   clear h1 hR HR
   go_wp2
   go_loopw [3,33] (fun sv i wr2=>∃ j:Nat,j≤m∧i = .int .i64 j∧sv = .string ((R++⟨#[10]⟩)++Yf (T.take j))∧Hid (Below X.heap.size X wr2)) (fun _ i _=>m - (intOf i).toNat)
   case atStart=>exact⟨0,Nat.zero_le _,rfl,by congr 1;apply U1;simp[Yf,ByteArray.data_append],HBr⟩
   case round=>
    obtain⟨j,hj2,rfl,rfl,HBs⟩:=hrel
    clear b4 bl
    by_cases hlt:j<m
    ·have hlk:j<T.length:=by rw[unhide HZ];exact hlt
     obtain⟨tb,tof,rfl,_,hct⟩:=((unhide HT) _ (unhide HBs)).2 (by omega)
     have hin:=hct j hlk
     have hck:=(unhide HC) T[j] (List.getElem_mem hlk)
     have hS:=Rk T[j] (T.take j)
     rw[←List.take_succ_eq_append_getElem hlk] at hS
     have hsz:=Vw (T.take j) (fun t ht=>(unhide HC) t (List.mem_of_mem_take ht))
     rw[List.length_take] at hsz
     have hsj:(Zv T[j]).size≤6000:=by
      have:=Vw [T[j]] (fun t ht=>by rw[List.mem_singleton.1 ht];exact hck)
      have e:Yf [T[j]]=Zv T[j]++Yf []:=rfl
      rw[e,ByteArray.size_append] at this
      simp at this
      omega
     obtain⟨t1,I,O,ht⟩:∃ t1 I O,T[j]=(t1,I,O):=⟨_,_,_,rfl⟩
     rw[ht] at hin hck hS hsj
     obtain⟨g0,⟨ai,ni,ci,g1,hI,_⟩,ao,no,co,g2,hO,_⟩:=hin
     simp only at g0 g1 g2 hI hO
     obtain⟨A1,hA1⟩:∃ A1,(R++⟨#[10]⟩)++Yf (T.take j)=A1:=⟨_,rfl⟩
     have hAs:A1.size≤30000:=by
      rw[←hA1,ByteArray.size_append,Ue]
      have:min j T.length≤4:=by omega
      omega
     have HAE:Hid (A1++Zv (t1,I,O)=(R++⟨#[10]⟩)++Yf (T.take (j+1))):=by
      show _=_
      rw[←hA1,hS]
      apply U1
      simp[ByteArray.data_append]
     rw[hA1]
     obtain⟨Y,hY⟩:∃ Y,Y=wr.alloc (.cells #[.int .i64 t1,.slice ai ni ci,.slice ao no co] 74):=⟨_,rfl⟩
     have hbY:Below wr.heap.size wr Y:=by rw[hY];exact bel_new _ _
     have CC:=hide (Kr t1 ai ao ni ci no co I O Y ((unhide HE) Y (bel_on (unhide HBs) hbY)) (hI.later hbY) (hO.later hbY) hck)
     obtain⟨B1,hB1⟩:∃ B1,Zv (t1,I,O)=B1:=⟨_,rfl⟩
     rw[hB1] at CC hsj HAE
     have HBY:=hide (bel_on (unhide HBs) hbY)
     have hjI:(j:Int)<(m:Int):=by omega
     have gl:=World.block_lt_of_cell? _ _ g0
     clear hct hS hsz ht hI hO hA1 hB1 hck hbY
     go_wp2_with fail
     rw[←hY]
     clear hY
     refine (unhide CC).mono ?_
     rintro e w3 ⟨rfl,hb3⟩
     have HB3:=hide (bel_on (unhide HBY) hb3)
     clear hb3 CC
     go_wp2
     go_roundw
     case rel=>
      refine⟨_,_,_,_,_,_,_,_,_,_,_,?_,rfl⟩
      exact⟨j+1,by omega,by go_num,by rw[unhide HAE],HB3⟩
     case measure=>simp[intOf];omega
    ·have HEND:Hid ((R++⟨#[10]⟩)++Yf (T.take j)=Wy (p,h,k,n,T)):=by
      show _=_
      rw[List.take_of_length_le (by rw[unhide HZ];omega),←unhide HRR,←unhide HZE]
      rfl
     have HBF:=hide (bel_on (unhide HB) (unhide HBs))
     go_wp2
     go_ret
     exact⟨Pr (unhide HEND),unhide HBF⟩
theorem Dj(a:Option Addr)(len cap:Nat)(w:World)(h:16<len) :
  Calls Tryz.prog 39 #[.slice a len cap] w fun e w'=>e = .returned (.int .i64 2)∧w=w':=by
 go_enter Tryz.func39,Tryz.ntmps39
 go_wp2
 go_ret
 exact⟨rfl,rfl⟩
theorem Di(a:Option Addr)(cap:Nat)(w:World) :
  Calls Tryz.prog 39 #[.slice a 0 cap] w fun e w'=>e = .returned (.int .i64 0)∧w=w':=by
 go_enter Tryz.func39,Tryz.ntmps39
 go_wp2
 refine wp_loop_rounds 1 ?_
 rw[rounds_succ]
 go_wp2
 go_ret
 exact⟨rfl,rfl⟩
theorem Zbd(k n:Int) :
  (k<1∧Yw (k,n)=4)∨(¬k<1∧13<k∧Yw (k,n)=4) ∨
  (¬k<1∧¬13<k∧n < -1000000∧Yw (k,n)=3)∨(¬k<1∧¬13<k∧¬n < -1000000∧1000000<n∧Yw (k,n)=3) ∨
  (¬k<1∧¬13<k∧¬n < -1000000∧¬1000000<n∧(k != 1)=true∧(n != 0)=true∧Yw (k,n)=3) ∨
  (¬k<1∧¬13<k∧¬n < -1000000∧¬1000000<n∧(k != 1)=true∧(n != 0)=false∧Yw (k,n)=0) ∨
  (¬k<1∧¬13<k∧¬n < -1000000∧¬1000000<n∧(k != 1)=false∧Yw (k,n)=0):=by
 by_cases h1:k<1
 ·exact .inl ⟨h1,by simp[Yw,h1]⟩
 by_cases h2:13<k
 ·exact .inr (.inl ⟨h1,h2,by simp[Yw,h2]⟩)
 by_cases h3:n < -1000000
 ·have hf:fit n=false:=(Px n).2 (.inl h3)
  exact .inr (.inr (.inl ⟨h1,h2,h3,by simp[Yw,h1,h2,hf]⟩))
 by_cases h4:1000000<n
 ·have hf:fit n=false:=(Px n).2 (.inr h4)
  exact .inr (.inr (.inr (.inl ⟨h1,h2,h3,h4,by simp[Yw,h1,h2,hf]⟩)))
 have hf:fit n=true:=(Zu n).2 (by omega)
 by_cases h5:k=1
 ·exact .inr (.inr (.inr (.inr (.inr (.inr ⟨h1,h2,h3,h4,by simp[h5],by simp[Yw,h5,hf]⟩)))))
 by_cases h6:n=0
 ·exact .inr (.inr (.inr (.inr (.inr (.inl ⟨h1,h2,h3,h4,by simp[h5],by simp[h6],by simp[Yw,h1,h2,h6];try decide⟩)))))
 ·exact .inr (.inr (.inr (.inr (.inl ⟨h1,h2,h3,h4,by simp[h5],by simp[h6],by simp[Yw,h1,h2,h5,h6]⟩))))
theorem Dh(b off len cap:Nat)(l:List (Int×Int))(w:World)(h0:len≤16)(hz:l.length=len)
  (hc:∀ i,i<len→w.cell? ⟨b,off+i*2,none⟩=some (.int .i64 (l.getD i (0,0)).1)∧w.cell? ⟨b,off+i*2+1,none⟩=some (.int .i64 (l.getD i (0,0)).2)) (hl:b<w.heap.size) :
  Calls Tryz.prog 39 #[.slice (some ⟨b,off,none⟩) len cap] w fun e w'=>e = .returned (.int .i64 (Vd l))∧Below w.heap.size w w':=by
 have HC:=hide hc
 have HZ:=hide hz
 clear hc hz
 go_enter Tryz.func39,Tryz.ntmps39
 go_wp2
 go_loopw [10] (fun i wr=>∃ k:Nat,k≤len∧i = .int .i64 k∧Vd (l.take k)=0∧Below w.heap.size w wr) (fun i _=>len - (intOf i).toNat)
 case atStart=>exact⟨0,Nat.zero_le _,rfl,rfl,Below.refl _ _⟩
 case round=>
  obtain⟨k,hk,rfl,hok,hb⟩:=hrel
  have HOK:=hide hok
  have HB:=hide hb
  clear hok
  by_cases hlt:k<len
  ·obtain⟨c1,c2⟩:=(unhide HC) k hlt
   rw[←hb.cell (p:=⟨b,off+k*2,none⟩) hl] at c1
   rw[←hb.cell (p:=⟨b,off+k*2+1,none⟩) hl] at c2
   obtain⟨q,hq⟩:∃ q,q=l.getD k (0,0):=⟨_,rfl⟩
   rw[←hq] at c1 c2
   have hlk:k<l.length:=by rw[unhide HZ];exact hlt
   have hq':q=l[k]:=by rw[hq];simp[hlk]
   have HQ:=hide hq'
   have HB2:=hide (hb.trans (((Below.refl wr.heap.size wr).alloc (Nat.le_refl _) (.cells #[.int .i64 q.1,.int .i64 q.2] 148)).mono hb.size))
   clear hb hq hq'
   obtain⟨q1,q2⟩:=q
   obtain⟨x,hx⟩:∃ x,x=Yw (q1,q2):=⟨_,rfl⟩
   have HX:=hide hx
   have hways:=Zbd q1 q2
   rw[←hx] at hways
   clear hx
   rcases hways with ⟨h1,hx0⟩|⟨h1,h2,hx0⟩|⟨h1,h2,h3,hx0⟩|⟨h1,h2,h3,h4,hx0⟩|⟨h1,h2,h3,h4,h5,h6,hx0⟩|⟨h1,h2,h3,h4,h5,h6,hx0⟩|⟨h1,h2,h3,h4,h5,hx0⟩
   all_goals
    subst hx0
    go_wp2
   iterate 5
    go_ret
    refine⟨Rq ?_,unhide HB2⟩
    rw[L4 l k hlk (unhide HOK) (by rw[←unhide HQ,←unhide HX];decide),←unhide HQ,←unhide HX]
   all_goals
    go_roundw
    case rel=>
     refine⟨k+1,by omega,by go_num,?_,unhide HB2⟩
     rw[L0 l k hlk (unhide HOK),←unhide HQ,←unhide HX];rfl
    case measure=>simp[intOf];omega
  ·clear hb
   go_wp2
   go_ret
   have e:k=len:=by omega
   subst e
   refine⟨Rq ?_,unhide HB⟩
   have h1:=unhide HOK
   rw[←unhide HZ,List.take_length] at h1
   exact h1.symm
theorem Qh(a:Option Addr)(len cap:Nat)(l:List (Int×Int))(w:World)(h:OpsAt w a len l) :
  Calls Tryz.prog 39 #[.slice a len cap] w fun e w'=>e = .returned (.int .i64 (chk l))∧Below w.heap.size w w':=by
 obtain⟨hz,hc⟩:=h
 unfold chk
 rw[hz]
 by_cases h1:16<len
 ·rw[if_pos h1]
  exact (Dj a len cap w h1).mono fun e w' ⟨x,y⟩=>⟨x,y ▸ Below.refl _ _⟩
 ·rw[if_neg h1]
  by_cases h2:len=0
  ·subst h2
   have e:l=[]:=List.length_eq_zero_iff.1 hz
   subst e
   exact (Di a cap w).mono fun e w' ⟨x,y⟩=>⟨x,y ▸ Below.refl _ _⟩
  ·obtain⟨b,off,rfl,hcell⟩:=hc (by omega)
   exact Dh b off len cap l w (by omega) hz hcell (World.block_lt_of_cell? _ _ (hcell 0 (by omega)).1)
theorem Qm(n:Int)(w:World)(h1:0≤n)(h2:n≤1000000000) :
  Calls Tryz.prog 33 #[.int .i64 n] w fun e w'=>e = .returned (.bool true)∧w=w':=by
 go_enter Tryz.func33,Tryz.ntmps33
 go_wp2
 go_ret
 exact⟨rfl,rfl⟩
theorem Sn(n:Int)(w:World)(h:n<0∨1000000000<n) :
  Calls Tryz.prog 33 #[.int .i64 n] w fun e w'=>e = .returned (.bool false)∧w=w':=by
 by_cases h1:n<0
 ·go_enter Tryz.func33,Tryz.ntmps33
  go_wp2
  go_ret
  exact⟨rfl,rfl⟩
 ·have h2:1000000000<n:=by omega
  have h3:0≤n:=by omega
  have h4:decide (n≤1000000000)=false:=by simp;omega
  clear h
  go_enter Tryz.func33,Tryz.ntmps33
  go_wp2
  go_ret
  exact⟨rfl,rfl⟩
theorem Kx(a:Option Addr)(len cap:Nat)(Z:List Int)(w:World)(h:RowAt w a len Z) :
  Calls Tryz.prog 79 #[.slice a len cap] w fun e w'=>e = .returned (.tuple #[.int .i64 (sm 0 Z).1,.int .i64 (sm 0 Z).2])∧w=w':=by
 obtain⟨hz,hm,hc⟩:=h
 unfold maxLen at hm
 rcases Nat.eq_zero_or_pos len with h0|h0
 ·subst h0
  have HZ:Hid (Z=[]):=List.eq_nil_of_length_eq_zero hz
  clear hz hc hm
  go_enter Tryz.func79,Tryz.ntmps79
  go_wp2
  refine wp_loop_rounds 1 ?_
  rw[rounds_succ]
  go_wp2
  go_ret2
  rw[HZ.out]
  exact⟨rfl,rfl⟩
 ·obtain⟨b,off,rfl,hcell⟩:=hc h0
  have HC:Hid (∀ i,i<len→w.cell? ⟨b,off+i,none⟩=some (.int .i64 (Z.getD i 0))):=hcell
  clear hc hcell
  go_enter Tryz.func79,Tryz.ntmps79
  go_wp2
  go_loop [4,9] (fun s i=>∃ (k:Nat) (x:Int),k≤len∧i = .int .i64 k∧s = .int .i64 x∧0≤x∧x≤1000000000∧Hid (sm 0 Z=sm x (Z.drop k))) (fun _ i=>len - (intOf i).toNat)
  case atStart=>exact⟨0,0,Nat.zero_le _,rfl,rfl,by decide,by decide,by exact rfl⟩
  case round=>
   obtain⟨k,x,hk,rfl,rfl,hx0,hx1,HS⟩:=hrel
   by_cases hlt:k<len
   ·have hck:=HC.out k hlt
    generalize hv:Z.getD k 0=v at hck
    have HV:Hid (Z.getD k 0=v):=hv
    clear hv
    by_cases hr:v<0∨1000000000<v
    ·go_wp2_with (go_at_call 33;refine (Sn _ _ hr).mono ?_;rintro e w' ⟨rfl,rfl⟩)
     go_ret2
     rw[HS.out,N6 x Z k (by omega) (by rw[HV.out];exact hr)]
     exact⟨rfl,rfl⟩
    ·have hr1:0≤v:=by omega
     have hr2:v≤1000000000:=by omega
     clear hr
     by_cases hf:1000000000<x+v
     ·go_wp2_with (go_at_call 33;refine (Qm _ _ hr1 hr2).mono ?_;rintro e w' ⟨rfl,rfl⟩)
      go_ret2
      rw[HS.out,Cg x Z k (by omega) (by rw[HV.out];exact hr1) (by rw[HV.out];exact hr2) (by rw[HV.out];exact hf)]
      exact⟨rfl,rfl⟩
     ·have hf2:x+v≤1000000000:=by omega
      have hf1:0≤x+v:=by omega
      clear hf
      go_wp2_with (go_at_call 33;refine (Qm _ _ hr1 hr2).mono ?_;rintro e w' ⟨rfl,rfl⟩)
      go_round
      case rel=>
       refine⟨k+1,x+v,by omega,by go_num,rfl,by omega,by omega,?_⟩
       show sm 0 Z=_
       rw[HS.out,Cf x Z k (by omega) (by rw[HV.out];exact hr1) (by rw[HV.out];exact hr2) (by rw[HV.out];exact hf2),HV.out]
      case measure=>simp[intOf];omega
   ·go_wp2
    go_ret2
    rw[HS.out,Zcd x Z k (by omega)]
    exact⟨rfl,rfl⟩
def Xl(q:Int×Int):List (Int×Int)→Nat→Int
 | [],_=>-1
 | y :: r,k=>if q=y then k else Xl q r (k+1)
theorem Lh(q:Int×Int):∀ (l:List (Int×Int)) (k:Nat),decide (0≤Xl q l k)=decide (q∈l)
 | [],_=>by simp[Xl]
 | y :: r,k=>by
  unfold Xl
  by_cases h:q=y
  ·rw[if_pos h];simp[h]
  ·rw[if_neg h,Lh q r (k+1)];simp[h]
theorem Dx(q:Int×Int)(l:List (Int×Int))(k:Nat)(h:k<l.length):Xl q (l.drop k) k=if q=l[k] then (k:Int) else Xl q (l.drop (k+1)) (k+1):=by
 rw[List.drop_eq_getElem_cons h];rfl
theorem My(b off n c:Nat)(l:List (Int×Int))(q1 q2:Int)(w:World)(hn:n≤6)(hz:l.length=n)
  (hc:∀ i,i<n→w.cell? ⟨b,off+i*2,none⟩=some (.int .i64 (l.getD i (0,0)).1)∧w.cell? ⟨b,off+i*2+1,none⟩=some (.int .i64 (l.getD i (0,0)).2)) :
  Calls Tryz.prog 116 #[.slice (some ⟨b,off,none⟩) n c,.agg #[.int .i64 q1,.int .i64 q2]] w fun e w'=>e = .returned (.int .i64 (Xl (q1,q2) l 0))∧Below w.heap.size w w':=by
 obtain⟨X,hX⟩:∃ X,X=w.alloc (.cells #[.int .i64 q1,.int .i64 q2] 86):=⟨_,rfl⟩
 have hbX:Below w.heap.size w X:=by rw[hX];exact bel_new _ _
 have cx:=V6 w (.int .i64 q1) (.int .i64 q2) 86
 rw[←hX] at cx
 obtain⟨x0,x1⟩:=cx
 have HC:Hid (∀ i,i<n→X.cell? ⟨b,off+i*2,none⟩=some (.int .i64 (l.getD i (0,0)).1)∧X.cell? ⟨b,off+i*2+1,none⟩=some (.int .i64 (l.getD i (0,0)).2)):=fun i hi=>⟨cell_later hbX (hc i hi).1,cell_later hbX (hc i hi).2⟩
 have HZ:=hide hz
 have HBX:=hide hbX
 clear hc hz hbX
 go_enter Tryz.func116,Tryz.ntmps116
 go_wp2
 rw[←hX]
 clear hX
 go_loopw [8] (fun i wr=>∃ k m:Nat,k≤n∧i = .int .i64 k∧wr=X.drewN m∧Hid (Xl (q1,q2) l 0=Xl (q1,q2) (l.drop k) k)) (fun i _=>n - (intOf i).toNat)
 case atStart=>exact⟨0,0,Nat.zero_le _,rfl,rfl,rfl⟩
 case round=>
  obtain⟨k,m,hk,rfl,rfl,A⟩:=hrel
  by_cases hlt:k<n
  ·have hlk:k<l.length:=by rw[unhide HZ];exact hlt
   obtain⟨g1,g2⟩:=(unhide HC) k hlt
   have S:=hide (Dx (q1,q2) l k hlk)
   have e1:l.getD k (0,0)=l[k]:=by simp[hlk]
   rw[e1] at g1 g2
   obtain⟨r,hr⟩:∃ r,l[k]=r:=⟨_,rfl⟩
   rw[hr] at g1 g2 S
   obtain⟨r1,r2⟩:=r
   simp only at g1 g2
   clear hr e1
   by_cases he:q1=r1
   ·subst he
    by_cases hf:q2=r2
    ·subst hf
     have R:Hid (Xl (q1,q2) l 0=k):=by show _=_;rw[unhide A,unhide S,if_pos rfl]
     clear S A
     go_wp2
     go_quiet (fail)
     go_wp2
     go_ret
     exact⟨by rw[unhide R];rfl,bel_on (unhide HBX) (by simp only[World.drewN_drewN];exact below_dw _ _)⟩
    ·have R:Hid (Xl (q1,q2) l 0=Xl (q1,q2) (l.drop (k+1)) (k+1)):=by show _=_;rw[unhide A,unhide S,if_neg (fun e=>hf (by injection e))]
     clear S A
     go_wp2
     go_quiet (fail)
     go_wp2
     go_roundw
     case rel=>exact⟨k+1,m+nq,by omega,by go_num,rfl,R⟩
     case measure=>simp[intOf];omega
   ·have R:Hid (Xl (q1,q2) l 0=Xl (q1,q2) (l.drop (k+1)) (k+1)):=by show _=_;rw[unhide A,unhide S,if_neg (fun e=>he (by injection e))]
    clear S A
    go_wp2
    go_quiet (fail)
    go_wp2
    go_roundw
    case rel=>exact⟨k+1,m+nq,by omega,by go_num,rfl,R⟩
    case measure=>simp[intOf];omega
  ·have R:Hid (Xl (q1,q2) l 0 = -1):=by
    show _=_
    rw[unhide A,List.drop_of_length_le (by rw[unhide HZ];omega)];rfl
   clear A
   go_wp2
   go_ret
   exact⟨by rw[unhide R];rfl,bel_on (unhide HBX) (below_dw _ _)⟩
theorem Mz(a:Option Addr)(c:Nat)(q1 q2:Int)(w:World) :
  Calls Tryz.prog 116 #[.slice a 0 c,.agg #[.int .i64 q1,.int .i64 q2]] w fun e w'=>e = .returned (.int .i64 (-1))∧Below w.heap.size w w':=by
 have HB:=hide (bel_new w (.cells #[.int .i64 q1,.int .i64 q2] 86))
 go_enter Tryz.func116,Tryz.ntmps116
 go_wp2
 refine wp_loop_rounds 1 ?_
 rw[rounds_succ]
 go_wp2
 go_ret
 exact⟨rfl,unhide HB⟩
theorem Ki(a:Option Addr)(n c:Nat)(l:List (Int×Int))(q1 q2:Int)(o:Bool)(w:World)(hn:n≤6)(h:OpsAt w a n l)(ho:decide ((q1,q2)∈l)=o) :
  Calls Tryz.prog 78 #[.slice a n c,.agg #[.int .i64 q1,.int .i64 q2]] w fun e w'=>e = .returned (.bool o)∧Below w.heap.size w w':=by
 have hb:=bel_new w (.cells #[.int .i64 q1,.int .i64 q2] 86)
 have C:Calls Tryz.prog 116 #[.slice a n c,.agg #[.int .i64 q1,.int .i64 q2]] (w.alloc (.cells #[.int .i64 q1,.int .i64 q2] 86)) fun e w'=>e = .returned (.int .i64 (Xl (q1,q2) l 0))∧Below (w.alloc (.cells #[.int .i64 q1,.int .i64 q2] 86)).heap.size (w.alloc (.cells #[.int .i64 q1,.int .i64 q2] 86)) w':=by
  by_cases h0:n=0
  ·subst h0
   have e:l=[]:=List.length_eq_zero_iff.1 h.1
   subst e
   exact Mz a c q1 q2 _
  ·obtain⟨b,off,rfl,hc⟩:=(h.later hb).2 (by omega)
   exact My b off n c l q1 q2 _ hn h.1 hc
 have E:Hid (decide (0≤Xl (q1,q2) l 0)=o):=by show _=_;rw[Lh,ho]
 obtain⟨z,hz⟩:∃ z,Xl (q1,q2) l 0=z:=⟨_,rfl⟩
 rw[hz] at C E
 have CC:=hide C
 have HB:=hide hb
 clear C hz h ho hb
 cases o with
 | true=>
  have h0:0≤z:=of_decide_eq_true (unhide E)
  go_enter Tryz.func78,Tryz.ntmps78
  go_wp2_with fail
  refine (unhide CC).mono ?_
  rintro e w' ⟨rfl,hb2⟩
  have HB2:=hide (bel_on (unhide HB) hb2)
  clear hb2
  go_wp2
  go_ret
  exact⟨rfl,unhide HB2⟩
 | false=>
  have h2:decide (0≤z)=false:=unhide E
  have h1:z<0:=by have:=of_decide_eq_false h2;omega
  go_enter Tryz.func78,Tryz.ntmps78
  go_wp2_with fail
  refine (unhide CC).mono ?_
  rintro e w' ⟨rfl,hb2⟩
  have HB2:=hide (bel_on (unhide HB) hb2)
  clear hb2
  go_wp2
  go_ret
  exact⟨rfl,unhide HB2⟩
theorem Sg{w:World}{base:Nat}{v:Value}{n:Nat}{N:List Int}(h:w.ownsRow base 3 1 v n (N.map (Value.int .i64)))(hm:n≤maxLen):∃ a cap,v = .slice a n cap∧RowAt w a n N:=by
 have hl:N.length=n:=by have:=h.1;simpa using this
 rcases h.2 with ⟨rfl,rfl⟩|⟨g,cap,cur,rfl,_,_,h1,h2,_,_⟩
 ·have e:N=[]:=List.length_eq_zero_iff.1 hl
  subst e
  exact⟨none,0,rfl,RowAt.nil _ _⟩
 ·refine⟨_,cap,rfl,hl,hm,fun _=>⟨g,0,rfl,fun i hi=>?_⟩⟩
  rw[Nat.zero_add,World.ownsRow.cellAt h i (by omega)]
  have hi2:i<N.length:=by omega
  simp[hi2]
def Gh(I:List InD):List (Int×Int):=I.map fun x=>(x.1,x.2.1)
theorem Zfc(x:InD)(I:List InD):decide ((x.1,x.2.1)∈Gh I)=I.any (Wa x):=by
 rw[Bool.eq_iff_iff,decide_eq_true_iff,List.any_eq_true]
 unfold Gh Wa
 rw[List.mem_map]
 constructor
 ·rintro ⟨y,hy,e⟩
  injection e with e1 e2
  exact⟨y,hy,by simp[e1,e2]⟩
 ·rintro ⟨y,hy,e⟩
  simp only[Bool.and_eq_true,decide_eq_true_eq] at e
  exact⟨y,hy,by rw[e.1,e.2]⟩
theorem Tryz.infoPoint:(Tryz.prog.info? 86).map (fun i=>(i.zero,i.size,i.bytes))=some (some (.agg #[.int .i64 0,.int .i64 0]),2,16):=by kernel_rfl
theorem Zcs(h:Int)(ai ao:Option Addr)(ni ci no co:Nat)(I:List InD)(O:List Z7)(z:Int)(w:World)(hI:InsAt w ai ni I)(hO:OutsAt w ao no O)(h6i:ni≤6)(h6o:no≤6)(ho0:0<no)(hn:ni=0)(hh1:1≤h)(hh2:h≤1000)(hz:Zn O=z) :
  Calls Tryz.prog 34 #[.agg #[.int .i64 h,.slice ai ni ci,.slice ao no co]] w fun e w'=>e = .returned (.int .i64 z)∧Below w.heap.size w w':=by
 obtain⟨i1,hi1,hy0,hy1,hy2⟩:=info_parts Tryz.infoInt
 have hb:=bel_new w (.cells #[.int .i64 h,.slice ai ni ci,.slice ao no co] 74)
 obtain⟨n0,n1,n2⟩:=Wh w (.int .i64 h) (.slice ai ni ci) (.slice ao no co) 74
 obtain⟨W,hW⟩:∃ W,W=w.alloc (.cells #[.int .i64 h,.slice ai ni ci,.slice ao no co] 74):=⟨_,rfl⟩
 rw[←hW] at hb n0 n1 n2
 have HB:=hide hb
 have HI:=hide (hI.later hb)
 have HO:=hide (hO.later hb)
 have N2:=hide n2
 have q1:¬(6:Int)<(ni:Int):=by omega
 have q2:¬(6:Int)<(no:Int):=by omega
 have q3:((no:Int) == 0)=false:=by simp;omega
 have HZ:=hide hz
 have g1:¬(h<1):=by omega
 have g2:¬(1000<h):=by omega
 subst hn
 clear hI hO hz hb
 go_enter Tryz.func34,Tryz.ntmps34
 go_wp2
 rw[←hW]
 clear hW
 refine wp_loop_rounds 1 ?_
 rw[rounds_succ]
 go_wp2
 have HBX:=hide (Below.refl W.heap.size W)
 have OWN0:Hid (W.ownsRow W.heap.size 3 1 (.slice none 0 0) 0 ((([]:List Int).map (Value.int .i64)))):=⟨rfl,Or.inl ⟨rfl,rfl⟩⟩
 go_loopw [7,100] (fun v i wr=>∃ k:Nat,k≤no∧i = .int .i64 k∧Below W.heap.size W wr∧Hid (wr.ownsRow W.heap.size 3 1 v k (((O.take k).map (·.1)).map (Value.int .i64)))∧Hid (Zx O=Zx (O.drop k))) (fun _ i _=>no - (intOf i).toNat)
 case atStart=>exact⟨0,Nat.zero_le _,rfl,unhide HBX,OWN0,rfl⟩
 case round=>
  obtain⟨k,hk2,rfl,hb,HO2,A⟩:=hrel
  have HB2:=hide hb
  by_cases hlt:k<no
  ·obtain⟨hzO,hcs⟩:=unhide HO
   obtain⟨b,off,rfl,hbl,hc⟩:=hcs (by omega)
   have hlk:k<O.length:=by omega
   have hin:=OutAt.kept _ _ _ _ _ hb (hc k hlk)
   have ST:=hide (Qs O k hlk)
   have SS:=hide (Qt O k hlk)
   have TK:=hide (List.take_succ_eq_append_getElem hlk)
   obtain⟨x,hx⟩:∃ x,O[k]=x:=⟨_,rfl⟩
   rw[hx] at hin ST SS TK
   obtain⟨x1,key⟩:=x
   obtain⟨g1,ka,kn,kc,g3,g4,_⟩:=hin
   simp only at g1 g3 g4
   have hba:=bel_new wr (.cells #[.int .i64 x1,.slice ka kn kc] 84)
   obtain⟨n1,n2⟩:=V6 wr (.int .i64 x1) (.slice ka kn kc) 84
   have KO:=hide (g4.later hba)
   have N1b:=hide n1
   have HBA:=hide hba
   have OWNA:=hide (Y1 (unhide HO2) hba)
   clear hb hx g4 n1 hc hcs
   by_cases hlo:x1<1
   ·have R:Hid (z=3):=by
     have e:Ys (x1,key)=3:=Rg hlo
     have e2:Zx O=3:=by rw[unhide A,(unhide ST) (by rw[e];decide),e]
     show _=_
     rw[←unhide HZ];unfold Zn;rw[e2];rfl
    have HB3:=hide (bel_on (unhide HB2) (unhide HBA))
    clear A ST SS hba
    go_wp2
    go_ret
    exact⟨by rw[unhide R];rfl,bel_on (unhide HB) (unhide HB3)⟩
   ·have CK:=hide (Qh ka kn kc key _ (unhide KO))
    by_cases hk0:chk key=0
    ·have R:Hid (Zx O=Zx (O.drop (k+1))):=by
      have e:Ys (x1,key)=0:=by rw[Vc hlo];exact hk0
      show _=_
      rw[unhide A,(unhide SS) e]
     rw[hk0] at CK
     clear A ST SS hk0 hba
     go_wp2_with fail
     refine (unhide CK).mono ?_
     rintro e w3 ⟨rfl,hb3⟩
     have m1:=cell_later hb3 (unhide N1b)
     have hs3:=World.block_lt_of_cell? _ _ m1
     have hb4:=bel_new w3 (.cells #[.int .i64 x1] 3)
     have OWN4:=hide (Y1 (Y1 (unhide OWNA) hb3) hb4)
     have NEWS:=hide (World.news_of_block (heap_alloc_new w3 (.cells #[.int .i64 x1] 3)))
     have HB4:=hide (bel_on (bel_on (bel_on (unhide HB2) (unhide HBA)) hb3) hb4)
     clear hb3 hb4
     go_wp2_with (at_builtin;refine wpList_append_own _ rfl _ _ 30 rfl W.heap.size 3 i1 (.int .i64 0) 1 8 Tryz.underlying30 hi1 hy0 hy1 hy2 rfl (by decide) _ _ _ rfl (unhide OWN4) ⟨w3.heap.size,0,none⟩ 1 1 [.int .i64 x1] rfl rfl (unhide NEWS) (fun u hu=>by simp at hu;subst hu;rfl) (by unfold maxLen;omega) (by omega) (unhide HB4).size ?_;intro v7 w7 hown7 hgrow7 _)
     have OWN7:Hid (w7.ownsRow W.heap.size 3 1 v7 (k+1) (((O.take (k+1)).map (·.1)).map (Value.int .i64))):=by
      show World.ownsRow _ _ _ _ _ _ _
      rw[unhide TK,List.map_append,List.map_append];exact hown7
     have HB7:=hide ((unhide HB4).grown hgrow7 (unhide HB4).size (own_ge (unhide OWN4)))
     clear hown7 hgrow7
     go_roundw
     case rel=>exact⟨k+1,by omega,by go_num,unhide HB7,OWN7,R⟩
     case measure=>simp[intOf];omega
    ·obtain⟨y,hy⟩:∃ y,chk key=y:=⟨_,rfl⟩
     have R:Hid (z=y):=by
      have e:Ys (x1,key)=chk key:=Vc hlo
      have e2:Zx O=y:=by rw[unhide A,(unhide ST) (by rw[e];exact hk0),e];exact hy
      show _=_
      rw[←unhide HZ];unfold Zn;rw[e2,if_neg (by rw[←hy];exact hk0)]
     rw[hy] at CK
     rw[hy] at hk0
     have gz:(y != 0)=true:=by simp[hk0]
     clear A ST SS hy hk0 hba
     go_wp2_with fail
     refine (unhide CK).mono ?_
     rintro e w3 ⟨rfl,hb3⟩
     have HB3:=hide (bel_on (bel_on (unhide HB2) (unhide HBA)) hb3)
     clear hb3
     go_wp2
     go_ret
     exact⟨by rw[unhide R];rfl,bel_on (unhide HB) (unhide HB3)⟩
  ·have e:k=no:=by omega
   subst e
   have hzO:=(unhide HO).1
   have R:Hid (z=(sm 0 (O.map (·.1))).2):=by
    show _=_
    rw[←unhide HZ];unfold Zn;rw[unhide A,Jd O k (by omega)];rfl
   have ho2:=unhide HO2
   rw[List.take_of_length_le (by omega)] at ho2
   obtain⟨av,cv,rfl,hrow⟩:=Sg ho2 (by unfold maxLen;omega)
   have SM:=hide (Kx av k cv (O.map (·.1)) _ hrow)
   obtain⟨s,hs⟩:∃ s,sm 0 (O.map (·.1))=s:=⟨_,rfl⟩
   rw[hs] at SM R
   obtain⟨s1,s2⟩:=s
   clear A hb ho2 hrow hs hlt hk2
   go_wp2_with fail
   refine (unhide SM).mono ?_
   rintro e w' ⟨rfl,rfl⟩
   go_wp2
   go_ret
   exact⟨by rw[unhide R];rfl,bel_on (unhide HB) (unhide HB2)⟩
end Go.Proofs.YtepmnpapdknocaaGreatDoor
