import Derived.Test.YtpikejjiignchaaGreatDoorG18
import Derived.Test.YtpikejjiignchaaGreatDoorG19
import Derived.Test.YtpikejjiignchaaGreatDoorG17
set_option maxHeartbeats 6400000
set_option maxRecDepth 10000
namespace Go.Proofs.YtpikejjiignchaaGreatDoor
open Go.RowKit
def Zcc:List (InD×Value)→List Value
 | []=>[]
 | x :: r=>.int .i64 x.1.1 :: .int .i64 x.1.2.1 :: x.2 :: Zcc r
def Bp:List (Yc×Value)→List Value
 | []=>[]
 | x :: r=>.int .i64 x.1.1 :: x.2 :: Bp r
theorem Wq{w w':World}{base:Nat}{e:TypeId}{size:Nat}{v:Value}{n:Nat}{xs:List Value}(h:w.ownsRow base e size v n xs)(hk:∀ (k:Nat) (cs:Array Value),w.heap[k]? = some (.cells cs e (0,0))→w'.heap[k]? = w.heap[k]?):w'.ownsRow base e size v n xs:=by
 obtain⟨hl,h0|⟨g,cap,cur,hv,hg,hh,r⟩⟩:=h
 ·exact⟨hl,.inl h0⟩
 ·exact⟨hl,.inr ⟨g,cap,cur,hv,hg,(hk g cur hh).trans hh,r⟩⟩
structure PL(w:World)(q p lb:Nat)(A:Array Value)(h:Int)(wr:World)(v1 v2:Value)(L1:List (InD×Value))(L2:List (Yc×Value)):Prop where
 box:wr.heap[p]? = some (.cells #[.int .i64 h,v1,v2] 52 (0,0))
 res:wr.heap[q]? = some (.cells #[.int .i64 0,.slice none 0 0,.slice none 0 0] 52 (0,0))
 pq:p≠q
 lin:wr.heap[lb]? = some (.cells A 9 (0,0))
 own1:wr.ownsRow w.heap.size 124 3 v1 L1.length (Zcc L1)
 own2:wr.ownsRow w.heap.size 101 2 v2 L2.length (Bp L2)
 keys1:∀ x∈L1,wr.ownsRow w.heap.size 122 2 x.2 x.1.2.2.length (flat x.1.2.2)
 keys2:∀ x∈L2,wr.ownsRow w.heap.size 122 2 x.2 x.1.2.length (flat x.1.2)
 bel:Below w.heap.size w wr
 pge:w.heap.size≤p
theorem PL.later{w:World}{q p lb:Nat}{A:Array Value}{h:Int}{wr w':World}{v1 v2:Value}{L1:List (InD×Value)}{L2:List (Yc×Value)}(s:PL w q p lb A h wr v1 v2 L1 L2)(hb:Below wr.heap.size wr w'):PL w q p lb A h w' v1 v2 L1 L2 where
 box:=(hb.block _ (lt_of_block s.box)).trans s.box
 res:=(hb.block _ (lt_of_block s.res)).trans s.res
 pq:=s.pq
 lin:=(hb.block _ (lt_of_block s.lin)).trans s.lin
 own1:=Xh s.own1 hb
 own2:=Xh s.own2 hb
 keys1:=fun x hx=>Xh (s.keys1 x hx) hb
 keys2:=fun x hx=>Xh (s.keys2 x hx) hb
 bel:=Ze s.bel hb
 pge:=s.pge
theorem Pv{w w':World}{base:Nat}{e:TypeId}{size:Nat}{v:Value}{n:Nat}{xs:List Value}(h:w.ownsRow base e size v n xs)(hg:w.grownBy w' v.ownBlock)(k:Nat)(cs:Array Value)(t:TypeId)(hk:w.heap[k]? = some (.cells cs t (0,0)))(ht:t≠e):w'.heap[k]? = w.heap[k]?:=by
 refine hg.block k (lt_of_block hk) (fun e1=>?_)
 obtain⟨_,⟨rfl,_⟩|⟨g,cap,cur,rfl,_,hh,_⟩⟩:=h
 ·cases e1
 ·have e2:k=g:=by injection e1
  subst e2
  rw[hk] at hh
  injection hh with hh
  injection hh with _ hh
  exact ht hh
theorem PL.alloc{w:World}{q p lb:Nat}{A:Array Value}{h:Int}{wr:World}{v1 v2:Value}{L1:List (InD×Value)}{L2:List (Yc×Value)}(s:PL w q p lb A h wr v1 v2 L1 L2)(o:Obj):PL w q p lb A h (wr.alloc o) v1 v2 L1 L2:=s.later (Zg wr o)
theorem PL.drewN{w:World}{q p lb:Nat}{A:Array Value}{h:Int}{wr:World}{v1 v2:Value}{L1:List (InD×Value)}{L2:List (Yc×Value)}(s:PL w q p lb A h wr v1 v2 L1 L2)(n:Nat):PL w q p lb A h (wr.drewN n) v1 v2 L1 L2:=
 s.later ⟨rfl,rfl,rfl,Nat.le_refl _,fun _ _=>rfl⟩
def hd1(x:List UInt8):Option UInt8:=x.head?
theorem Zec{p h k n:Int}(f:Xx p h k n=true):∀ z∈[p,h,k,n],-10000000000≤z∧z≤10000000000:=by
 simp only[Xx,Bool.and_eq_true,decide_eq_true_eq] at f
 intro z hz
 simp only[List.mem_cons,List.not_mem_nil,or_false] at hz
 rcases hz with rfl|rfl|rfl|rfl <;> omega
theorem Tv(t:TxD):∀ T:List TxD,Yl (T++[t])=Yl T++Zz t
 | []=>by
  apply Qi
  simp[Yl,ByteArray.data_append]
 | u :: T=>by
  show Zz u++Yl (T++[t])=Zz u++Yl T++Zz t
  rw[Tv t T]
  apply Qi
  simp[ByteArray.data_append]
theorem A7(p h k n:Int)(a:Option Addr)(m c:Nat)(T:List TxD)(w:World)(hE:EnvF w)(hT:TxsAt w a m T)(hx:Xb (p,h,k,n,T)=0) :
  Calls Tryz.prog 132 #[.agg #[.int .i64 p,.int .i64 h,.int .i64 k,.int .i64 n,.slice a m c]] w fun e w'=>e = .returned (.string (Ui (p,h,k,n,T)))∧Below w.heap.size w w':=by
 obtain⟨f1,f2,f3,_,f5⟩:=Un hx
 have hz:T.length=m:=hT.1
 obtain⟨X,hX⟩:∃ X,X=(w.alloc (.cells #[.int .i64 p,.int .i64 h,.int .i64 k,.int .i64 n,.slice a m c] 68)).alloc (.cells #[.int .i64 p,.int .i64 h,.int .i64 k,.int .i64 n] 3):=⟨_,rfl⟩
 have hbX:Below w.heap.size w X:=by rw[hX];exact Ze (Zg _ _) (Zg _ _)
 have hX0:X.heap[w.heap.size]? = some (.cells [.int .i64 p,.int .i64 h,.int .i64 k,.int .i64 n,.slice a m c].toArray 68 (0,0)):=by
  rw[hX,Below.heap_alloc _ _ _ (by simp)];exact Yd _ _ _ _ _ _ _
 have hX1:X.heap[w.heap.size+1]? = some (.cells [.int .i64 p,.int .i64 h,.int .i64 k,.int .i64 n].toArray 3 (0,0)):=by
  rw[hX]
  have:=Rm (w.alloc (.cells #[.int .i64 p,.int .i64 h,.int .i64 k,.int .i64 n,.slice a m c] 68)) (.int .i64 p) (.int .i64 h) (.int .i64 k) (.int .i64 n) 3
  rw[show (w.alloc (.cells #[.int .i64 p,.int .i64 h,.int .i64 k,.int .i64 n,.slice a m c] 68)).heap.size=w.heap.size+1 by simp] at this
  exact this
 have HE:=Zb (fun W (hb:Below X.heap.size X W)=>hE.later (Ze hbX hb))
 have HT:=Zb (fun W (hb:Below X.heap.size X W)=>hT.later (Ze hbX hb))
 have HB:=Zb hbX
 have HX0:=Zb hX0
 have HX1:=Zb hX1
 have HZ:=Zb hz
 have HF:=Zb (Zec f1)
 have HC:=Zb f5
 obtain⟨Z,hZ⟩:∃ Z,[p,h,k,n]=Z:=⟨_,rfl⟩
 have hZl:Z.length=4:=by rw[←hZ];rfl
 have hcell:∀ j (hj:j<Z.length),X.cell? ⟨w.heap.size+1,j,none⟩=some (.int .i64 Z[j]):=by
  subst hZ
  intro j hj
  refine Zd hX1 j _ ?_
  match j,hj with
  | 0,_=>rfl
  | 1,_=>rfl
  | 2,_=>rfl
  | 3,_=>rfl
 rw[hZ] at HF
 have HCL:=Zb hcell
 have HZL:=Zb hZl
 have HZE:=Zb hZ
 have hm4:m≤4:=by omega
 clear hE hT hbX hX0 hX1 hz hcell hZl hZ f1 f2 f3 f5 hx
 go_enter Tryz.func132,Tryz.ntmps132
 go_wp2_with fail
 rw[←hX]
 clear hX
 go_loopw [3,18] (fun sv i wr=>∃ j:Nat,j≤4∧i = .int .i64 j∧sv = .string (Ww blockB (Z.take j))∧Hid (Below X.heap.size X wr)) (fun _ i _=>4 - (intOf i).toNat)
 case atStart=>exact⟨0,Nat.zero_le _,rfl,rfl,(Below.refl _ _:Below X.heap.size X X)⟩
 case round=>
  obtain⟨j,hj,rfl,rfl,HBr⟩:=hrel
  by_cases hlt:j<4
  ·have hlk:j<Z.length:=by rw[Za HZL];exact hlt
   have ccc:=Zc (Za HBr) ((Za HCL) j hlk)
   have ccl:=World.block_lt_of_cell? _ _ ccc
   have hzr:=(Za HF) Z[j] (List.getElem_mem hlk)
   have hS:=Ng blockB (Z.take j) Z[j]
   rw[←List.take_succ_eq_append_getElem hlk] at hS
   have hTs:(Ww blockB (Z.take j)).size≤200:=by
    have:=Vr blockB (Z.take j) (fun z hz=>(Za HF) z (List.mem_of_mem_take hz))
    rw[List.length_take] at this
    have e5:blockB.size=5:=rfl
    omega
   obtain⟨z,hz⟩:∃ z,Z[j]=z:=⟨_,rfl⟩
   rw[hz] at ccc hzr hS
   obtain⟨T1,hT1⟩:∃ T1,Ww blockB (Z.take j)=T1:=⟨_,rfl⟩
   rw[hT1] at hS hTs ⊢
   have HS:=Zb hS
   have hXs:=Wu z hzr
   have hXs1:((⟨#[32]⟩:ByteArray)++Xn z).size≤22:=by rw[Kw];omega
   have IT:Hid (∀ w,Env w→Calls Tryz.prog 107 #[.int .i64 z] w fun e w'=>e = .returned (.string (Xn z))∧Below w.heap.size w w'):=fun w hw=>
    (Tryz.strconv_Itoa z (by omega) (by omega) w hw.tab).mono fun e w' ⟨h1,k,os,h2⟩=>⟨h1,by rw[h2];exact Lib.below_grow _ _ (Nat.le_refl _) k os⟩
   have EE:=Zb ((Za HE) wr (Za HBr)).envp.env
   have hjI:(j:Int)<4:=by omega
   clear hz hT1 hS hzr
   go_wp2_with fail
   refine ((Za IT) _ (Za EE)).mono ?_
   rintro e w3 ⟨rfl,hb3⟩
   have HB3:=Zb (Ze (Za HBr) hb3)
   clear hb3
   go_wp2
   go_roundw
   case rel=>exact⟨j+1,by omega,by go_num,by rw[Za HS],HB3⟩
   case measure=>simp[intOf];omega
  ·obtain rfl:j=4:=by omega
   have HR:Hid (Ww blockB (Z.take 4)=Ww blockB Z):=by show _=_;rw[List.take_of_length_le (by rw[Za HZL];exact Nat.le_refl _)]
   rw[Za HR]
   have hRs:(Ww blockB Z).size≤200:=by
    have:=Vr blockB Z (Za HF)
    rw[Za HZL] at this
    have e5:blockB.size=5:=rfl
    omega
   obtain⟨R,hR⟩:∃ R,Ww blockB Z=R:=⟨_,rfl⟩
   rw[hR] at hRs ⊢
   have h1:=((Za HBr).block _ (lt_of_block (Za HX0))).trans (Za HX0)
   have b4:=Zd h1 4 _ rfl
   have bl:=lt_of_block h1
   have HRR:=Zb hR
   clear h1 hR HR
   go_wp2
   go_loopw [3,33] (fun sv i wr2=>∃ j:Nat,j≤m∧i = .int .i64 j∧sv = .string ((R++⟨#[10]⟩)++Yl (T.take j))∧Hid (Below X.heap.size X wr2)) (fun _ i _=>m - (intOf i).toNat)
   case atStart=>exact⟨0,Nat.zero_le _,rfl,by congr 1;apply Qi;simp[Yl,ByteArray.data_append],HBr⟩
   case round=>
    obtain⟨j,hj2,rfl,rfl,HBs⟩:=hrel
    clear b4 bl
    by_cases hlt:j<m
    ·have hlk:j<T.length:=by rw[Za HZ];exact hlt
     obtain⟨tb,tof,rfl,_,hct⟩:=((Za HT) _ (Za HBs)).2 (by omega)
     have hin:=hct j hlk
     have hck:=(Za HC) T[j] (List.getElem_mem hlk)
     have hS:=Tv T[j] (T.take j)
     rw[←List.take_succ_eq_append_getElem hlk] at hS
     have hsz:=Ug (T.take j) (fun t ht=>(Za HC) t (List.mem_of_mem_take ht))
     rw[List.length_take] at hsz
     have hsj:(Zz T[j]).size≤6000:=by
      have:=Ug [T[j]] (fun t ht=>by rw[List.mem_singleton.1 ht];exact hck)
      have e:Yl [T[j]]=Zz T[j]++Yl []:=rfl
      rw[e,ByteArray.size_append] at this
      simp at this
      omega
     obtain⟨t1,I,O,ht⟩:∃ t1 I O,T[j]=(t1,I,O):=⟨_,_,_,rfl⟩
     rw[ht] at hin hck hS hsj
     obtain⟨g0,⟨ai,ni,ci,g1,hI,_⟩,ao,no,co,g2,hO,_⟩:=hin
     simp only at g0 g1 g2 hI hO
     obtain⟨A1,hA1⟩:∃ A1,(R++⟨#[10]⟩)++Yl (T.take j)=A1:=⟨_,rfl⟩
     have hAs:A1.size≤30000:=by
      rw[←hA1,ByteArray.size_append,Ur]
      have:min j T.length≤4:=by omega
      omega
     have HAE:Hid (A1++Zz (t1,I,O)=(R++⟨#[10]⟩)++Yl (T.take (j+1))):=by
      show _=_
      rw[←hA1,hS]
      apply Qi
      simp[ByteArray.data_append]
     rw[hA1]
     obtain⟨Y,hY⟩:∃ Y,Y=wr.alloc (.cells #[.int .i64 t1,.slice ai ni ci,.slice ao no co] 52):=⟨_,rfl⟩
     have hbY:Below wr.heap.size wr Y:=by rw[hY];exact Zg _ _
     have CC:=Zb (M6 t1 ai ao ni ci no co I O Y ((Za HE) Y (Ze (Za HBs) hbY)) (hI.later hbY) (hO.later hbY) hck)
     obtain⟨B1,hB1⟩:∃ B1,Zz (t1,I,O)=B1:=⟨_,rfl⟩
     rw[hB1] at CC hsj HAE
     have HBY:=Zb (Ze (Za HBs) hbY)
     have hjI:(j:Int)<(m:Int):=by omega
     have gl:=World.block_lt_of_cell? _ _ g0
     clear hct hS hsz ht hI hO hA1 hB1 hck hbY
     go_wp2_with fail
     rw[←hY]
     clear hY
     refine (Za CC).mono ?_
     rintro e w3 ⟨rfl,hb3⟩
     have HB3:=Zb (Ze (Za HBY) hb3)
     clear hb3 CC
     go_wp2
     go_roundw
     case rel=>
      refine⟨_,_,_,_,_,_,_,_,_,_,_,?_,rfl⟩
      exact⟨j+1,by omega,by go_num,by rw[Za HAE],HB3⟩
     case measure=>simp[intOf];omega
    ·have HEND:Hid ((R++⟨#[10]⟩)++Yl (T.take j)=Ui (p,h,k,n,T)):=by
      show _=_
      rw[List.take_of_length_le (by rw[Za HZ];omega),←Za HRR,←Za HZE]
      rfl
     have HBF:=Zb (Ze (Za HB) (Za HBs))
     go_wp2
     go_ret
     exact⟨Hk (Za HEND),Za HBF⟩
theorem A6(a:Option Addr)(len cap:Nat)(w:World)(h:16<len) :
  Calls Tryz.prog 69 #[.slice a len cap] w fun e w'=>e = .returned (.int .i64 2)∧w=w':=by
 go_enter Tryz.func69,Tryz.ntmps69
 go_wp2
 go_ret
 exact⟨rfl,rfl⟩
theorem Az(a:Option Addr)(cap:Nat)(w:World) :
  Calls Tryz.prog 69 #[.slice a 0 cap] w fun e w'=>e = .returned (.int .i64 0)∧w=w':=by
 go_enter Tryz.func69,Tryz.ntmps69
 go_wp2
 refine wp_loop_rounds 1 ?_
 rw[rounds_succ]
 go_wp2
 go_ret
 exact⟨rfl,rfl⟩
theorem Zek(k n:Int) :
  (k<1∧Xc (k,n)=4)∨(¬k<1∧13<k∧Xc (k,n)=4) ∨
  (¬k<1∧¬13<k∧n < -1000000∧Xc (k,n)=3)∨(¬k<1∧¬13<k∧¬n < -1000000∧1000000<n∧Xc (k,n)=3) ∨
  (¬k<1∧¬13<k∧¬n < -1000000∧¬1000000<n∧(k != 1)=true∧(n != 0)=true∧Xc (k,n)=3) ∨
  (¬k<1∧¬13<k∧¬n < -1000000∧¬1000000<n∧(k != 1)=true∧(n != 0)=false∧Xc (k,n)=0) ∨
  (¬k<1∧¬13<k∧¬n < -1000000∧¬1000000<n∧(k != 1)=false∧Xc (k,n)=0):=by
 by_cases h1:k<1
 ·exact .inl ⟨h1,by simp[Xc,h1]⟩
 by_cases h2:13<k
 ·exact .inr (.inl ⟨h1,h2,by simp[Xc,h2]⟩)
 by_cases h3:n < -1000000
 ·have hf:fit n=false:=(Hp n).2 (.inl h3)
  exact .inr (.inr (.inl ⟨h1,h2,h3,by simp[Xc,h1,h2,hf]⟩))
 by_cases h4:1000000<n
 ·have hf:fit n=false:=(Hp n).2 (.inr h4)
  exact .inr (.inr (.inr (.inl ⟨h1,h2,h3,h4,by simp[Xc,h1,h2,hf]⟩)))
 have hf:fit n=true:=(Z0 n).2 (by omega)
 by_cases h5:k=1
 ·exact .inr (.inr (.inr (.inr (.inr (.inr ⟨h1,h2,h3,h4,by simp[h5],by simp[Xc,h5,hf]⟩)))))
 by_cases h6:n=0
 ·exact .inr (.inr (.inr (.inr (.inr (.inl ⟨h1,h2,h3,h4,by simp[h5],by simp[h6],by simp[Xc,h1,h2,h6];try decide⟩)))))
 ·exact .inr (.inr (.inr (.inr (.inl ⟨h1,h2,h3,h4,by simp[h5],by simp[h6],by simp[Xc,h1,h2,h5,h6]⟩))))
theorem Ay(b off len cap:Nat)(l:List (Int×Int))(w:World)(h0:len≤16)(hz:l.length=len)
  (hc:∀ i,i<len→w.cell? ⟨b,off+i*2,none⟩=some (.int .i64 (l.getD i (0,0)).1)∧w.cell? ⟨b,off+i*2+1,none⟩=some (.int .i64 (l.getD i (0,0)).2)) (hl:b<w.heap.size) :
  Calls Tryz.prog 69 #[.slice (some ⟨b,off,none⟩) len cap] w fun e w'=>e = .returned (.int .i64 (Vv l))∧Below w.heap.size w w':=by
 have HC:=Zb hc
 have HZ:=Zb hz
 clear hc hz
 go_enter Tryz.func69,Tryz.ntmps69
 go_wp2
 go_loopw [10] (fun i wr=>∃ k:Nat,k≤len∧i = .int .i64 k∧Vv (l.take k)=0∧Below w.heap.size w wr) (fun i _=>len - (intOf i).toNat)
 case atStart=>exact⟨0,Nat.zero_le _,rfl,rfl,Below.refl _ _⟩
 case round=>
  obtain⟨k,hk,rfl,hok,hb⟩:=hrel
  have HOK:=Zb hok
  have HB:=Zb hb
  clear hok
  by_cases hlt:k<len
  ·obtain⟨c1,c2⟩:=(Za HC) k hlt
   rw[←hb.cell (p:=⟨b,off+k*2,none⟩) hl] at c1
   rw[←hb.cell (p:=⟨b,off+k*2+1,none⟩) hl] at c2
   obtain⟨q,hq⟩:∃ q,q=l.getD k (0,0):=⟨_,rfl⟩
   rw[←hq] at c1 c2
   have hlk:k<l.length:=by rw[Za HZ];exact hlt
   have hq':q=l[k]:=by rw[hq];simp[hlk]
   have HQ:=Zb hq'
   have HB2:=Zb (hb.trans (((Below.refl wr.heap.size wr).alloc (Nat.le_refl _) (.cells #[.int .i64 q.1,.int .i64 q.2] 122)).mono hb.size))
   clear hb hq hq'
   obtain⟨q1,q2⟩:=q
   obtain⟨x,hx⟩:∃ x,x=Xc (q1,q2):=⟨_,rfl⟩
   have HX:=Zb hx
   have hways:=Zek q1 q2
   rw[←hx] at hways
   clear hx
   rcases hways with ⟨h1,hx0⟩|⟨h1,h2,hx0⟩|⟨h1,h2,h3,hx0⟩|⟨h1,h2,h3,h4,hx0⟩|⟨h1,h2,h3,h4,h5,h6,hx0⟩|⟨h1,h2,h3,h4,h5,h6,hx0⟩|⟨h1,h2,h3,h4,h5,hx0⟩
   all_goals
    subst hx0
    go_wp2
   iterate 5
    go_ret
    refine⟨Sa ?_,Za HB2⟩
    rw[Dd l k hlk (Za HOK) (by rw[←Za HQ,←Za HX];decide),←Za HQ,←Za HX]
   all_goals
    go_roundw
    case rel=>
     refine⟨k+1,by omega,by go_num,?_,Za HB2⟩
     rw[Dc l k hlk (Za HOK),←Za HQ,←Za HX];rfl
    case measure=>simp[intOf];omega
  ·clear hb
   go_wp2
   go_ret
   have e:k=len:=by omega
   subst e
   refine⟨Sa ?_,Za HB⟩
   have h1:=Za HOK
   rw[←Za HZ,List.take_length] at h1
   exact h1.symm
theorem Q7(a:Option Addr)(len cap:Nat)(l:List (Int×Int))(w:World)(h:OpsAt w a len l) :
  Calls Tryz.prog 69 #[.slice a len cap] w fun e w'=>e = .returned (.int .i64 (chk l))∧Below w.heap.size w w':=by
 obtain⟨hz,hc⟩:=h
 unfold chk
 rw[hz]
 by_cases h1:16<len
 ·rw[if_pos h1]
  exact (A6 a len cap w h1).mono fun e w' ⟨x,y⟩=>⟨x,y ▸ Below.refl _ _⟩
 ·rw[if_neg h1]
  by_cases h2:len=0
  ·subst h2
   have e:l=[]:=List.length_eq_zero_iff.1 hz
   subst e
   exact (Az a cap w).mono fun e w' ⟨x,y⟩=>⟨x,y ▸ Below.refl _ _⟩
  ·obtain⟨b,off,rfl,hcell⟩:=hc (by omega)
   exact Ay b off len cap l w (by omega) hz hcell (World.block_lt_of_cell? _ _ (hcell 0 (by omega)).1)
theorem Jf(n:Int)(w:World)(h1:0≤n)(h2:n≤1000000000) :
  Calls Tryz.prog 78 #[.int .i64 n] w fun e w'=>e = .returned (.bool true)∧w=w':=by
 go_enter Tryz.func78,Tryz.ntmps78
 go_wp2
 go_ret
 exact⟨rfl,rfl⟩
theorem Gm(n:Int)(w:World)(h:n<0∨1000000000<n) :
  Calls Tryz.prog 78 #[.int .i64 n] w fun e w'=>e = .returned (.bool false)∧w=w':=by
 by_cases h1:n<0
 ·go_enter Tryz.func78,Tryz.ntmps78
  go_wp2
  go_ret
  exact⟨rfl,rfl⟩
 ·have h2:1000000000<n:=by omega
  have h3:0≤n:=by omega
  have h4:decide (n≤1000000000)=false:=by simp;omega
  clear h
  go_enter Tryz.func78,Tryz.ntmps78
  go_wp2
  go_ret
  exact⟨rfl,rfl⟩
theorem Nc(a:Option Addr)(len cap:Nat)(Z:List Int)(w:World)(h:RowAt w a len Z) :
  Calls Tryz.prog 105 #[.slice a len cap] w fun e w'=>e = .returned (.tuple #[.int .i64 (sm 0 Z).1,.int .i64 (sm 0 Z).2])∧w=w':=by
 obtain⟨hz,hm,hc⟩:=h
 unfold maxLen at hm
 rcases Nat.eq_zero_or_pos len with h0|h0
 ·subst h0
  have HZ:Hid (Z=[]):=List.eq_nil_of_length_eq_zero hz
  clear hz hc hm
  go_enter Tryz.func105,Tryz.ntmps105
  go_wp2
  refine wp_loop_rounds 1 ?_
  rw[rounds_succ]
  go_wp2
  go_ret2
  rw[HZ.out]
  exact⟨rfl,rfl⟩
 ·obtain⟨b,off,rfl,hcell⟩:=hc h0
  have HC:Hid (∀ i,i<len→w.cell? ⟨b,off+i,none⟩=some (.int .i64 (Z.getD i 0))):=hcell
  clear hc hcell
  go_enter Tryz.func105,Tryz.ntmps105
  go_wp2
  go_loop [4,9] (fun s i=>∃ (k:Nat) (x:Int),k≤len∧i = .int .i64 k∧s = .int .i64 x∧0≤x∧x≤1000000000∧Hid (sm 0 Z=sm x (Z.drop k))) (fun _ i=>len - (intOf i).toNat)
  case atStart=>exact⟨0,0,Nat.zero_le _,rfl,rfl,by decide,by decide,by exact rfl⟩
  case round=>
   obtain⟨k,x,hk,rfl,rfl,hx0,hx1,HS⟩:=hrel
   by_cases hlt:k<len
   ·have hck:=HC.out k hlt
    generalize hv:Z.getD k 0=v at hck
    have HV:Hid (Z.getD k 0=v):=hv
    clear hv
    by_cases hr:v<0∨1000000000<v
    ·go_wp2_with (go_at_call 78;refine (Gm _ _ hr).mono ?_;rintro e w' ⟨rfl,rfl⟩)
     go_ret2
     rw[HS.out,Aj x Z k (by omega) (by rw[HV.out];exact hr)]
     exact⟨rfl,rfl⟩
    ·have hr1:0≤v:=by omega
     have hr2:v≤1000000000:=by omega
     clear hr
     by_cases hf:1000000000<x+v
     ·go_wp2_with (go_at_call 78;refine (Jf _ _ hr1 hr2).mono ?_;rintro e w' ⟨rfl,rfl⟩)
      go_ret2
      rw[HS.out,Zbm x Z k (by omega) (by rw[HV.out];exact hr1) (by rw[HV.out];exact hr2) (by rw[HV.out];exact hf)]
      exact⟨rfl,rfl⟩
     ·have hf2:x+v≤1000000000:=by omega
      have hf1:0≤x+v:=by omega
      clear hf
      go_wp2_with (go_at_call 78;refine (Jf _ _ hr1 hr2).mono ?_;rintro e w' ⟨rfl,rfl⟩)
      go_round
      case rel=>
       refine⟨k+1,x+v,by omega,by go_num,rfl,by omega,by omega,?_⟩
       show sm 0 Z=_
       rw[HS.out,Zbl x Z k (by omega) (by rw[HV.out];exact hr1) (by rw[HV.out];exact hr2) (by rw[HV.out];exact hf2),HV.out]
      case measure=>simp[intOf];omega
   ·go_wp2
    go_ret2
    rw[HS.out,Zfu x Z k (by omega)]
    exact⟨rfl,rfl⟩
def X4(q:Int×Int):List (Int×Int)→Nat→Int
 | [],_=>-1
 | y :: r,k=>if q=y then k else X4 q r (k+1)
theorem Nn(q:Int×Int):∀ (l:List (Int×Int)) (k:Nat),decide (0≤X4 q l k)=decide (q∈l)
 | [],_=>by simp[X4]
 | y :: r,k=>by
  unfold X4
  by_cases h:q=y
  ·rw[if_pos h];simp[h]
  ·rw[if_neg h,Nn q r (k+1)];simp[h]
theorem Bl(q:Int×Int)(l:List (Int×Int))(k:Nat)(h:k<l.length):X4 q (l.drop k) k=if q=l[k] then (k:Int) else X4 q (l.drop (k+1)) (k+1):=by
 rw[List.drop_eq_getElem_cons h];rfl
theorem Fc(b off n c:Nat)(l:List (Int×Int))(q1 q2:Int)(w:World)(hn:n≤6)(hz:l.length=n)
  (hc:∀ i,i<n→w.cell? ⟨b,off+i*2,none⟩=some (.int .i64 (l.getD i (0,0)).1)∧w.cell? ⟨b,off+i*2+1,none⟩=some (.int .i64 (l.getD i (0,0)).2)) :
  Calls Tryz.prog 145 #[.slice (some ⟨b,off,none⟩) n c,.agg #[.int .i64 q1,.int .i64 q2]] w fun e w'=>e = .returned (.int .i64 (X4 (q1,q2) l 0))∧Below w.heap.size w w':=by
 obtain⟨X,hX⟩:∃ X,X=w.alloc (.cells #[.int .i64 q1,.int .i64 q2] 99):=⟨_,rfl⟩
 have hbX:Below w.heap.size w X:=by rw[hX];exact Zg _ _
 have cx:=Uj w (.int .i64 q1) (.int .i64 q2) 99
 rw[←hX] at cx
 obtain⟨x0,x1⟩:=cx
 have HC:Hid (∀ i,i<n→X.cell? ⟨b,off+i*2,none⟩=some (.int .i64 (l.getD i (0,0)).1)∧X.cell? ⟨b,off+i*2+1,none⟩=some (.int .i64 (l.getD i (0,0)).2)):=fun i hi=>⟨Zc hbX (hc i hi).1,Zc hbX (hc i hi).2⟩
 have HZ:=Zb hz
 have HBX:=Zb hbX
 clear hc hz hbX
 go_enter Tryz.func145,Tryz.ntmps145
 go_wp2
 rw[←hX]
 clear hX
 go_loopw [8] (fun i wr=>∃ k m:Nat,k≤n∧i = .int .i64 k∧wr=X.drewN m∧Hid (X4 (q1,q2) l 0=X4 (q1,q2) (l.drop k) k)) (fun i _=>n - (intOf i).toNat)
 case atStart=>exact⟨0,0,Nat.zero_le _,rfl,rfl,rfl⟩
 case round=>
  obtain⟨k,m,hk,rfl,rfl,A⟩:=hrel
  by_cases hlt:k<n
  ·have hlk:k<l.length:=by rw[Za HZ];exact hlt
   obtain⟨g1,g2⟩:=(Za HC) k hlt
   have S:=Zb (Bl (q1,q2) l k hlk)
   have e1:l.getD k (0,0)=l[k]:=by simp[hlk]
   rw[e1] at g1 g2
   obtain⟨r,hr⟩:∃ r,l[k]=r:=⟨_,rfl⟩
   rw[hr] at g1 g2 S
   obtain⟨r1,r2⟩:=r
   simp only at g1 g2
   clear hr e1
   by_cases he:q1=r1
   ·subst he
    by_cases hf:q2=r2
    ·subst hf
     have R:Hid (X4 (q1,q2) l 0=k):=by show _=_;rw[Za A,Za S,if_pos rfl]
     clear S A
     go_wp2
     go_quiet (fail)
     go_wp2
     go_ret
     exact⟨by rw[Za R];rfl,Ze (Za HBX) (by simp only[World.drewN_drewN];exact Pc _ _)⟩
    ·have R:Hid (X4 (q1,q2) l 0=X4 (q1,q2) (l.drop (k+1)) (k+1)):=by show _=_;rw[Za A,Za S,if_neg (fun e=>hf (by injection e))]
     clear S A
     go_wp2
     go_quiet (fail)
     go_wp2
     go_roundw
     case rel=>exact⟨k+1,m+nq,by omega,by go_num,rfl,R⟩
     case measure=>simp[intOf];omega
   ·have R:Hid (X4 (q1,q2) l 0=X4 (q1,q2) (l.drop (k+1)) (k+1)):=by show _=_;rw[Za A,Za S,if_neg (fun e=>he (by injection e))]
    clear S A
    go_wp2
    go_quiet (fail)
    go_wp2
    go_roundw
    case rel=>exact⟨k+1,m+nq,by omega,by go_num,rfl,R⟩
    case measure=>simp[intOf];omega
  ·have R:Hid (X4 (q1,q2) l 0 = -1):=by
    show _=_
    rw[Za A,List.drop_of_length_le (by rw[Za HZ];omega)];rfl
   clear A
   go_wp2
   go_ret
   exact⟨by rw[Za R];rfl,Ze (Za HBX) (Pc _ _)⟩
theorem Fd(a:Option Addr)(c:Nat)(q1 q2:Int)(w:World) :
  Calls Tryz.prog 145 #[.slice a 0 c,.agg #[.int .i64 q1,.int .i64 q2]] w fun e w'=>e = .returned (.int .i64 (-1))∧Below w.heap.size w w':=by
 have HB:=Zb (Zg w (.cells #[.int .i64 q1,.int .i64 q2] 99))
 go_enter Tryz.func145,Tryz.ntmps145
 go_wp2
 refine wp_loop_rounds 1 ?_
 rw[rounds_succ]
 go_wp2
 go_ret
 exact⟨rfl,Za HB⟩
theorem Mr(a:Option Addr)(n c:Nat)(l:List (Int×Int))(q1 q2:Int)(o:Bool)(w:World)(hn:n≤6)(h:OpsAt w a n l)(ho:decide ((q1,q2)∈l)=o) :
  Calls Tryz.prog 104 #[.slice a n c,.agg #[.int .i64 q1,.int .i64 q2]] w fun e w'=>e = .returned (.bool o)∧Below w.heap.size w w':=by
 have hb:=Zg w (.cells #[.int .i64 q1,.int .i64 q2] 99)
 have C:Calls Tryz.prog 145 #[.slice a n c,.agg #[.int .i64 q1,.int .i64 q2]] (w.alloc (.cells #[.int .i64 q1,.int .i64 q2] 99)) fun e w'=>e = .returned (.int .i64 (X4 (q1,q2) l 0))∧Below (w.alloc (.cells #[.int .i64 q1,.int .i64 q2] 99)).heap.size (w.alloc (.cells #[.int .i64 q1,.int .i64 q2] 99)) w':=by
  by_cases h0:n=0
  ·subst h0
   have e:l=[]:=List.length_eq_zero_iff.1 h.1
   subst e
   exact Fd a c q1 q2 _
  ·obtain⟨b,off,rfl,hc⟩:=(h.later hb).2 (by omega)
   exact Fc b off n c l q1 q2 _ hn h.1 hc
 have E:Hid (decide (0≤X4 (q1,q2) l 0)=o):=by show _=_;rw[Nn,ho]
 obtain⟨z,hz⟩:∃ z,X4 (q1,q2) l 0=z:=⟨_,rfl⟩
 rw[hz] at C E
 have CC:=Zb C
 have HB:=Zb hb
 clear C hz h ho hb
 cases o with
 | true=>
  have h0:0≤z:=of_decide_eq_true (Za E)
  go_enter Tryz.func104,Tryz.ntmps104
  go_wp2_with fail
  refine (Za CC).mono ?_
  rintro e w' ⟨rfl,hb2⟩
  have HB2:=Zb (Ze (Za HB) hb2)
  clear hb2
  go_wp2
  go_ret
  exact⟨rfl,Za HB2⟩
 | false=>
  have h2:decide (0≤z)=false:=Za E
  have h1:z<0:=by have:=of_decide_eq_false h2;omega
  go_enter Tryz.func104,Tryz.ntmps104
  go_wp2_with fail
  refine (Za CC).mono ?_
  rintro e w' ⟨rfl,hb2⟩
  have HB2:=Zb (Ze (Za HB) hb2)
  clear hb2
  go_wp2
  go_ret
  exact⟨rfl,Za HB2⟩
theorem Gd{w:World}{base:Nat}{v:Value}{n:Nat}{N:List Int}(h:w.ownsRow base 3 1 v n (N.map (Value.int .i64)))(hm:n≤maxLen):∃ a cap,v = .slice a n cap∧RowAt w a n N:=by
 have hl:N.length=n:=by have:=h.1;simpa using this
 rcases h.2 with ⟨rfl,rfl⟩|⟨g,cap,cur,rfl,_,_,h1,h2,_,_⟩
 ·have e:N=[]:=List.length_eq_zero_iff.1 hl
  subst e
  exact⟨none,0,rfl,RowAt.nil _ _⟩
 ·refine⟨_,cap,rfl,hl,hm,fun _=>⟨g,0,rfl,fun i hi=>?_⟩⟩
  rw[Nat.zero_add,World.ownsRow.cellAt h i (by omega)]
  have hi2:i<N.length:=by omega
  simp[hi2]
def Kj(I:List InD):List (Int×Int):=I.map fun x=>(x.1,x.2.1)
theorem Zjd(x:InD)(I:List InD):decide ((x.1,x.2.1)∈Kj I)=I.any (Wv x):=by
 rw[Bool.eq_iff_iff,decide_eq_true_iff,List.any_eq_true]
 unfold Kj Wv
 rw[List.mem_map]
 constructor
 ·rintro ⟨y,hy,e⟩
  injection e with e1 e2
  exact⟨y,hy,by simp[e1,e2]⟩
 ·rintro ⟨y,hy,e⟩
  simp only[Bool.and_eq_true,decide_eq_true_eq] at e
  exact⟨y,hy,by rw[e.1,e.2]⟩
theorem Tryz.infoPoint:(Tryz.prog.info? 99).map (fun i=>(i.zero,i.size,i.bytes))=some (some (.agg #[.int .i64 0,.int .i64 0]),2,16):=by kernel_rfl
theorem Zgi(h:Int)(ai ao:Option Addr)(ni ci no co:Nat)(I:List InD)(O:List Yc)(z:Int)(w:World)(hI:InsAt w ai ni I)(hO:OutsAt w ao no O)(h6i:ni≤6)(h6o:no≤6)(ho0:0<no)(hn:ni=0)(hh1:1≤h)(hh2:h≤1000)(hz:Zr O=z) :
  Calls Tryz.prog 57 #[.agg #[.int .i64 h,.slice ai ni ci,.slice ao no co]] w fun e w'=>e = .returned (.int .i64 z)∧Below w.heap.size w w':=by
 obtain⟨i1,hi1,hy0,hy1,hy2⟩:=info_parts Tryz.infoInt
 have hb:=Zg w (.cells #[.int .i64 h,.slice ai ni ci,.slice ao no co] 52)
 obtain⟨n0,n1,n2⟩:=Wy w (.int .i64 h) (.slice ai ni ci) (.slice ao no co) 52
 obtain⟨W,hW⟩:∃ W,W=w.alloc (.cells #[.int .i64 h,.slice ai ni ci,.slice ao no co] 52):=⟨_,rfl⟩
 rw[←hW] at hb n0 n1 n2
 have HB:=Zb hb
 have HI:=Zb (hI.later hb)
 have HO:=Zb (hO.later hb)
 have N2:=Zb n2
 have q1:¬(6:Int)<(ni:Int):=by omega
 have q2:¬(6:Int)<(no:Int):=by omega
 have q3:((no:Int) == 0)=false:=by simp;omega
 have HZ:=Zb hz
 have g1:¬(h<1):=by omega
 have g2:¬(1000<h):=by omega
 subst hn
 clear hI hO hz hb
 go_enter Tryz.func57,Tryz.ntmps57
 go_wp2
 rw[←hW]
 clear hW
 refine wp_loop_rounds 1 ?_
 rw[rounds_succ]
 go_wp2
 have HBX:=Zb (Below.refl W.heap.size W)
 have OWN0:Hid (W.ownsRow W.heap.size 3 1 (.slice none 0 0) 0 ((([]:List Int).map (Value.int .i64)))):=⟨rfl,Or.inl ⟨rfl,rfl⟩⟩
 go_loopw [7,100] (fun v i wr=>∃ k:Nat,k≤no∧i = .int .i64 k∧Below W.heap.size W wr∧Hid (wr.ownsRow W.heap.size 3 1 v k (((O.take k).map (·.1)).map (Value.int .i64)))∧Hid (Zx O=Zx (O.drop k))) (fun _ i _=>no - (intOf i).toNat)
 case atStart=>exact⟨0,Nat.zero_le _,rfl,Za HBX,OWN0,rfl⟩
 case round=>
  obtain⟨k,hk2,rfl,hb,HO2,A⟩:=hrel
  have HB2:=Zb hb
  by_cases hlt:k<no
  ·obtain⟨hzO,hcs⟩:=Za HO
   obtain⟨b,off,rfl,hbl,hc⟩:=hcs (by omega)
   have hlk:k<O.length:=by omega
   have hin:=OutAt.kept _ _ _ _ _ hb (hc k hlk)
   have ST:=Zb (Jn O k hlk)
   have SS:=Zb (Jo O k hlk)
   have TK:=Zb (List.take_succ_eq_append_getElem hlk)
   obtain⟨x,hx⟩:∃ x,O[k]=x:=⟨_,rfl⟩
   rw[hx] at hin ST SS TK
   obtain⟨x1,key⟩:=x
   obtain⟨g1,ka,kn,kc,g3,g4,_⟩:=hin
   simp only at g1 g3 g4
   have hba:=Zg wr (.cells #[.int .i64 x1,.slice ka kn kc] 101)
   obtain⟨n1,n2⟩:=Uj wr (.int .i64 x1) (.slice ka kn kc) 101
   have KO:=Zb (g4.later hba)
   have N1b:=Zb n1
   have HBA:=Zb hba
   have OWNA:=Zb (Xh (Za HO2) hba)
   clear hb hx g4 n1 hc hcs
   by_cases hlo:x1<1
   ·have R:Hid (z=3):=by
     have e:Yw (x1,key)=3:=Tn hlo
     have e2:Zx O=3:=by rw[Za A,(Za ST) (by rw[e];decide),e]
     show _=_
     rw[←Za HZ];unfold Zr;rw[e2];rfl
    have HB3:=Zb (Ze (Za HB2) (Za HBA))
    clear A ST SS hba
    go_wp2
    go_ret
    exact⟨by rw[Za R];rfl,Ze (Za HB) (Za HB3)⟩
   ·have CK:=Zb (Q7 ka kn kc key _ (Za KO))
    by_cases hk0:chk key=0
    ·have R:Hid (Zx O=Zx (O.drop (k+1))):=by
      have e:Yw (x1,key)=0:=by rw[Vu hlo];exact hk0
      show _=_
      rw[Za A,(Za SS) e]
     rw[hk0] at CK
     clear A ST SS hk0 hba
     go_wp2_with fail
     refine (Za CK).mono ?_
     rintro e w3 ⟨rfl,hb3⟩
     have m1:=Zc hb3 (Za N1b)
     have hs3:=World.block_lt_of_cell? _ _ m1
     have hb4:=Zg w3 (.cells #[.int .i64 x1] 3)
     have OWN4:=Zb (Xh (Xh (Za OWNA) hb3) hb4)
     have NEWS:=Zb (World.news_of_block (heap_alloc_new w3 (.cells #[.int .i64 x1] 3)))
     have HB4:=Zb (Ze (Ze (Ze (Za HB2) (Za HBA)) hb3) hb4)
     clear hb3 hb4
     go_wp2_with (at_builtin;refine wpList_append_own _ rfl _ _ 25 rfl W.heap.size 3 i1 (.int .i64 0) 1 8 Tryz.underlying25 hi1 hy0 hy1 hy2 rfl (by decide) _ _ _ rfl (Za OWN4) ⟨w3.heap.size,0,none⟩ 1 1 [.int .i64 x1] rfl rfl (Za NEWS) (fun u hu=>by simp at hu;subst hu;rfl) (by unfold maxLen;omega) (by omega) (Za HB4).size ?_;intro v7 w7 hown7 hgrow7 _)
     have OWN7:Hid (w7.ownsRow W.heap.size 3 1 v7 (k+1) (((O.take (k+1)).map (·.1)).map (Value.int .i64))):=by
      show World.ownsRow _ _ _ _ _ _ _
      rw[Za TK,List.map_append,List.map_append];exact hown7
     have HB7:=Zb ((Za HB4).grown hgrow7 (Za HB4).size (Ut (Za OWN4)))
     clear hown7 hgrow7
     go_roundw
     case rel=>exact⟨k+1,by omega,by go_num,Za HB7,OWN7,R⟩
     case measure=>simp[intOf];omega
    ·obtain⟨y,hy⟩:∃ y,chk key=y:=⟨_,rfl⟩
     have R:Hid (z=y):=by
      have e:Yw (x1,key)=chk key:=Vu hlo
      have e2:Zx O=y:=by rw[Za A,(Za ST) (by rw[e];exact hk0),e];exact hy
      show _=_
      rw[←Za HZ];unfold Zr;rw[e2,if_neg (by rw[←hy];exact hk0)]
     rw[hy] at CK
     rw[hy] at hk0
     have gz:(y != 0)=true:=by simp[hk0]
     clear A ST SS hy hk0 hba
     go_wp2_with fail
     refine (Za CK).mono ?_
     rintro e w3 ⟨rfl,hb3⟩
     have HB3:=Zb (Ze (Ze (Za HB2) (Za HBA)) hb3)
     clear hb3
     go_wp2
     go_ret
     exact⟨by rw[Za R];rfl,Ze (Za HB) (Za HB3)⟩
  ·have e:k=no:=by omega
   subst e
   have hzO:=(Za HO).1
   have R:Hid (z=(sm 0 (O.map (·.1))).2):=by
    show _=_
    rw[←Za HZ];unfold Zr;rw[Za A,Ra O k (by omega)];rfl
   have ho2:=Za HO2
   rw[List.take_of_length_le (by omega)] at ho2
   obtain⟨av,cv,rfl,hrow⟩:=Gd ho2 (by unfold maxLen;omega)
   have SM:=Zb (Nc av k cv (O.map (·.1)) _ hrow)
   obtain⟨s,hs⟩:∃ s,sm 0 (O.map (·.1))=s:=⟨_,rfl⟩
   rw[hs] at SM R
   obtain⟨s1,s2⟩:=s
   clear A hb ho2 hrow hs hlt hk2
   go_wp2_with fail
   refine (Za SM).mono ?_
   rintro e w' ⟨rfl,rfl⟩
   go_wp2
   go_ret
   exact⟨by rw[Za R];rfl,Ze (Za HB) (Za HB2)⟩
end Go.Proofs.YtpikejjiignchaaGreatDoor
