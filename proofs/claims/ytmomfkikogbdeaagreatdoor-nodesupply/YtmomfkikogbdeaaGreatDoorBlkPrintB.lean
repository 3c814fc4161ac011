/- The contract of block.Print. -/
import Derived.Test.YtmomfkikogbdeaaGreatDoorLockPrintToBlkPrint
set_option maxHeartbeats 6400000
set_option maxRecDepth 10000
namespace Go.Proofs.YtmomfkikogbdeaaGreatDoor
open Go.RowKit
theorem At(p h k n:Int)(e:Xy p h k n=true):(Vd blockB [p,h,k,n]).size≤100:=by
 have:=Px e
 have h1:=Vj blockB [p,h,k,n] (fun z hz=>by
  simp only[List.mem_cons,List.not_mem_nil,or_false] at hz
  rcases hz with rfl|rfl|rfl|rfl <;> omega)
 have h2:blockB.size=5:=rfl
 simp only[List.length_cons,List.length_nil] at h1
 omega
theorem Vf(p h k n:Int)(a:Option Addr)(m c:Nat)(T:List TxD)(w:World)(hE:Env w)(hT:TxsAt w a m T)(hx:Yg (p,h,k,n,T)=0) :
  Calls Tryz.prog 36 #[.agg #[.int .i64 p,.int .i64 h,.int .i64 k,.int .i64 n,.slice a m c]] w fun e w'=>e = .returned (.tuple #[.string (Vc (p,h,k,n,T)),.int .i64 0])∧Below w.heap.size w w':=by
 obtain⟨f1,f2,f3,_,f5⟩:=Vn hx
 have hz:T.length=m:=hT.1
 have hr:=Px f1
 have hsz:=At p h k n f1
 have hts:=Qo T f5
 obtain⟨X,hX⟩:∃ X,X=w.alloc (.cells #[.int .i64 p,.int .i64 h,.int .i64 k,.int .i64 n,.slice a m c] 39):=⟨_,rfl⟩
 have hbX:Below w.heap.size w X:=by rw[hX];exact bel_new _ _
 have hX1:X.heap[w.heap.size]? = some (.cells [.int .i64 p,.int .i64 h,.int .i64 k,.int .i64 n,.slice a m c].toArray 39 (0,0)):=by rw[hX];exact Zl _ _ _ _ _ _ _
 have C1:=hide (Wn p h k n a m c T 0 X (hT.later hbX) hx)
 have HX1:=hide hX1
 have HBX:=hide hbX
 have HE:=hide (hE.later hbX)
 obtain⟨b,off,rfl,_,hcell⟩:=(hT.later hbX).2 (by omega)
 have PT:=hide (fun W (hb:Below X.heap.size X W)=>V9 b off m c T W ((unhide HE).later hb) hz (by omega) f5 (fun i hi=>TxAt.kept _ _ _ _ _ hb (hcell i hi)))
 have HO:=hide (fun W=>Py p h k n (some ⟨b,off,none⟩) m c W)
 obtain⟨r,hrr⟩:∃ r,Vd blockB [p,h,k,n]=r:=⟨_,rfl⟩
 obtain⟨s,hss⟩:∃ s,Xm T=s:=⟨_,rfl⟩
 have PR:=hide (fun W bh (hb:Below X.heap.size X W) (hh:W.heap[bh]? = some (.cells [.int .i64 p,.int .i64 h,.int .i64 k,.int .i64 n].toArray 187 (0,0)))=>Ve blockB bh 0 4 4 [p,h,k,n] W ((unhide HE).later hb) (by decide) (by decide) rfl (lt_of_block hh) (fun i hi=>by
  rcases (by omega:i=0∨i=1∨i=2∨i=3) with rfl|rfl|rfl|rfl
  ·exact Za hh 0 _ rfl
  ·exact Za hh 1 _ rfl
  ·exact Za hh 2 _ rfl
  ·exact Za hh 3 _ rfl) (fun z hz=>by
  simp only[List.mem_cons,List.not_mem_nil,or_false] at hz
  rcases hz with rfl|rfl|rfl|rfl <;> omega))
 have JN:=hide (fun W bt (hl:bt<W.heap.size) (hcs:∀ i,i<m→W.cell? ⟨bt,i,none⟩=some (txV T i))=>(show Calls Tryz.prog 106 #[.slice (some ⟨bt,0,none⟩) m m,.string ⟨#[]⟩] W fun e w'=>e = .returned (.string (Xm T))∧Below W.heap.size W w' by
  have hlm:(T.map Ya).length=m:=by rw[List.length_map];exact hz
  have q:=Tryz.strings_Join bt 0 m (T.map Ya) ⟨#[]⟩ W (fun j x hj=>by
   have hjl:j<T.length:=by
    rcases Nat.lt_or_ge j T.length with h|h
    ·exact h
    ·rw[List.getElem?_eq_none (by simpa using h)] at hj;cases hj
   rw[Nat.zero_add,hcs j (by omega)]
   simp[hjl] at hj
   simp[txV,hjl,hj]) hl (by omega) (by omega) (by
    have:(Lib.join ((T.map Ya).map (·.data.toList)) []).length=(Xm T).size:=by rw[←Pt T];rfl
    show (Lib.join ((T.map Ya).map (·.data.toList)) []).length≤_
    omega)
  rw[hlm] at q
  change Calls _ _ _ _ fun e w'=>e = .returned (.string ⟨(Lib.join ((T.map Ya).map (·.data.toList)) []).toArray⟩)∧_ at q
  rw[Pt] at q
  exact q))
 have HTX:Hid (Vc (p,h,k,n,T)=(r++⟨#[10]⟩)++s):=by show _=_;unfold Vc;simp only;rw[hrr,hss]
 rw[hrr] at PR hsz
 rw[hss] at JN hts
 have hs1:(r++(⟨#[10]⟩:ByteArray)).size=r.size+1:=Vi r 10
 clear hrr hss hE hT hx hX1 hbX hcell hr f1 f5 f2
 obtain⟨r2,hr2⟩:∃ r2,r++(⟨#[10]⟩:ByteArray)=r2:=⟨_,rfl⟩
 rw[hr2] at hs1 HTX
 go_enter Tryz.func36,Tryz.ntmps36
 go_wp2_with fail
 rw[←hX]
 clear hX
 refine (unhide C1).mono ?_
 rintro e w1 ⟨rfl,hb1⟩
 have hx1:=(hb1.block _ (lt_of_block (unhide HX1))).trans (unhide HX1)
 have c0:=Za hx1 0 _ rfl
 have c1:=Za hx1 1 _ rfl
 have c2:=Za hx1 2 _ rfl
 have c3:=Za hx1 3 _ rfl
 have c4:=Za hx1 4 _ rfl
 have cl:=lt_of_block hx1
 have HB1:=hide hb1
 clear hb1 hx1 C1
 go_wp2_with fail
 refine ((unhide HO) _).mono ?_
 rintro e w2 ⟨rfl,hb2⟩
 obtain⟨Y,hY⟩:∃ Y,Y=w2.alloc (.cells #[.int .i64 p,.int .i64 h,.int .i64 k,.int .i64 n] 187):=⟨_,rfl⟩
 have hbY:Below w2.heap.size w2 Y:=by rw[hY];exact bel_new _ _
 have hY1:Y.heap[w2.heap.size]? = some (.cells [.int .i64 p,.int .i64 h,.int .i64 k,.int .i64 n].toArray 187 (0,0)):=by rw[hY];exact Jv _ _ _ _ _ _
 have HBY:=hide (bel_on (bel_on (unhide HB1) hb2) hbY)
 have hxY:=((unhide HBY).block _ (lt_of_block (unhide HX1))).trans (unhide HX1)
 have d4:=Za hxY 4 _ rfl
 have dl:=lt_of_block hxY
 have yl:=lt_of_block hY1
 have HY1:=hide hY1
 have HXY:=hide hxY
 clear hb2 hbY hY1 hxY c0 c1 c2 c3 c4 cl
 go_wp2_with fail
 rw[←hY]
 clear hY
 go_region_with (first
  | (go_at_call 105;refine ((unhide PR) _ w2.heap.size (bel_on (unhide HBY) (Ze _)) (unhide HY1)).mono ?_;rintro e w3 ⟨rfl,hb3⟩;have e4:w3.cell? ⟨w.heap.size,4,none⟩=some (.slice (some ⟨b,off,none⟩) m c):=cell_later hb3 (cell_later (Ze _) d4);have el:w.heap.size<w3.heap.size:=World.block_lt_of_cell? _ _ e4;have HB3:=hide (bel_on (bel_on (unhide HBY) (Ze _)) hb3);clear hb3)
  | (go_at_call 87;refine ((unhide PT) _ (unhide HB3)).mono ?_;rintro e w4 ⟨rfl,hf4⟩;have HF4:=hide hf4;have HB4:=hide (bel_on (unhide HB3) hf4.bel);clear hf4)
  | (go_at_call 106;refine ((unhide JN) _ _ (unhide HF4).lt (fun i hi=>(unhide HF4).cells (Nat.le_refl _) i hi)).mono ?_;rintro e w5 ⟨rfl,hb5⟩;have HB5:=hide (bel_on (unhide HB4) hb5);clear hb5))
 all_goals
  go_wp2
  go_ret2
  exact⟨by rw[unhide HTX];rfl,bel_on (unhide HBX) (unhide HB5)⟩
theorem Vv(p h k n:Int)(a:Option Addr)(m c:Nat)(T:List TxD)(x:Int)(w:World)(hT:TxsAt w a m T)(hx:Yg (p,h,k,n,T)=x)(h0:x≠0) :
  Calls Tryz.prog 36 #[.agg #[.int .i64 p,.int .i64 h,.int .i64 k,.int .i64 n,.slice a m c]] w fun e w'=>e = .returned (.tuple #[.string ⟨#[]⟩,.int .i64 x])∧Below w.heap.size w w':=by
 obtain⟨X,hX⟩:∃ X,X=w.alloc (.cells #[.int .i64 p,.int .i64 h,.int .i64 k,.int .i64 n,.slice a m c] 39):=⟨_,rfl⟩
 have hbX:Below w.heap.size w X:=by rw[hX];exact bel_new _ _
 have C1:=hide (Wn p h k n a m c T x X (hT.later hbX) hx)
 have HBX:=hide hbX
 have gx:(x != 0)=true:=by simp[h0]
 clear hT hx h0 hbX
 go_enter Tryz.func36,Tryz.ntmps36
 go_wp2_with fail
 rw[←hX]
 clear hX
 refine (unhide C1).mono ?_
 rintro e w1 ⟨rfl,hb1⟩
 have HB1:=hide (bel_on (unhide HBX) hb1)
 clear hb1
 go_wp2
 go_ret2
 exact⟨rfl,unhide HB1⟩
theorem Lu(p h k n:Int)(a:Option Addr)(m c:Nat)(T:List TxD)(t:ByteArray)(x:Int)(w:World)(hE:Env w)(hT:TxsAt w a m T)(hx:Yg (p,h,k,n,T)=x)(ht:Zap (p,h,k,n,T)=t) :
  Calls Tryz.prog 36 #[.agg #[.int .i64 p,.int .i64 h,.int .i64 k,.int .i64 n,.slice a m c]] w fun e w'=>e = .returned (.tuple #[.string t,.int .i64 x])∧Below w.heap.size w w':=by
 unfold Zap at ht
 by_cases h0:x=0
 ·subst h0
  rw[if_pos hx] at ht
  subst ht
  exact Vf p h k n a m c T w hE hT hx
 ·rw[if_neg (by rw[hx];exact h0)] at ht
  subst ht
  exact Vv p h k n a m c T x w hT hx h0
end Go.Proofs.YtmomfkikogbdeaaGreatDoor
