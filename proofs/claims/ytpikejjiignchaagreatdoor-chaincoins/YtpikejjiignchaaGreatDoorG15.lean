import Derived.Test.YtpikejjiignchaaGreatDoorG14
set_option maxHeartbeats 6400000
set_option maxRecDepth 10000
namespace Go.Proofs.YtpikejjiignchaaGreatDoor
open Go.RowKit
theorem Zgd(p h k n:Int)(e:Xx p h k n=true):(Ww blockB [p,h,k,n]).size≤100:=by
 have:=Nx e
 have h1:=Vr blockB [p,h,k,n] (fun z hz=>by
  simp only[List.mem_cons,List.not_mem_nil,or_false] at hz
  rcases hz with rfl|rfl|rfl|rfl <;> omega)
 have h2:blockB.size=5:=rfl
 simp only[List.length_cons,List.length_nil] at h1
 omega
theorem Mz(p h k n:Int)(a:Option Addr)(m c:Nat)(T:List TxD)(w:World)(hE:Env w)(hT:TxsAt w a m T)(hx:Xb (p,h,k,n,T)=0) :
  Calls Tryz.prog 79 #[.agg #[.int .i64 p,.int .i64 h,.int .i64 k,.int .i64 n,.slice a m c]] w fun e w'=>e = .returned (.tuple #[.string (Ui (p,h,k,n,T)),.int .i64 0])∧Below w.heap.size w w':=by
 obtain⟨f1,f2,f3,_,f5⟩:=Un hx
 have hz:T.length=m:=hT.1
 have hr:=Nx f1
 have hsz:=Zgd p h k n f1
 have hts:=Ug T f5
 obtain⟨X,hX⟩:∃ X,X=w.alloc (.cells #[.int .i64 p,.int .i64 h,.int .i64 k,.int .i64 n,.slice a m c] 68):=⟨_,rfl⟩
 have hbX:Below w.heap.size w X:=by rw[hX];exact Zg _ _
 have hX1:X.heap[w.heap.size]? = some (.cells [.int .i64 p,.int .i64 h,.int .i64 k,.int .i64 n,.slice a m c].toArray 68 (0,0)):=by rw[hX];exact Yd _ _ _ _ _ _ _
 have C1:=Zb (Jp p h k n a m c T 0 X (hT.later hbX) hx)
 have HX1:=Zb hX1
 have HBX:=Zb hbX
 have HE:=Zb (hE.later hbX)
 obtain⟨b,off,rfl,_,hcell⟩:=(hT.later hbX).2 (by omega)
 have PT:=Zb (fun W (hb:Below X.heap.size X W)=>Ge b off m c T W ((Za HE).later hb) hz (by omega) f5 (fun i hi=>TxAt.kept _ _ _ _ _ hb (hcell i hi)))
 have HO:=Zb (fun W=>Ny p h k n (some ⟨b,off,none⟩) m c W)
 obtain⟨r,hrr⟩:∃ r,Ww blockB [p,h,k,n]=r:=⟨_,rfl⟩
 obtain⟨s,hss⟩:∃ s,Yl T=s:=⟨_,rfl⟩
 have PR:=Zb (fun W bh (hb:Below X.heap.size X W) (hh:W.heap[bh]? = some (.cells [.int .i64 p,.int .i64 h,.int .i64 k,.int .i64 n].toArray 201 (0,0)))=>Qe blockB bh 0 4 4 [p,h,k,n] W ((Za HE).later hb) (by decide) (by decide) rfl (lt_of_block hh) (fun i hi=>by
  rcases (by omega:i=0∨i=1∨i=2∨i=3) with rfl|rfl|rfl|rfl
  ·exact Zd hh 0 _ rfl
  ·exact Zd hh 1 _ rfl
  ·exact Zd hh 2 _ rfl
  ·exact Zd hh 3 _ rfl) (fun z hz=>by
  simp only[List.mem_cons,List.not_mem_nil,or_false] at hz
  rcases hz with rfl|rfl|rfl|rfl <;> omega))
 have JN:=Zb (fun W bt (hl:bt<W.heap.size) (hcs:∀ i,i<m→W.cell? ⟨bt,i,none⟩=some (txV T i))=>(show Calls Tryz.prog 127 #[.slice (some ⟨bt,0,none⟩) m m,.string ⟨#[]⟩] W fun e w'=>e = .returned (.string (Yl T))∧Below W.heap.size W w' by
  have hlm:(T.map Zz).length=m:=by rw[List.length_map];exact hz
  have q:=Tryz.strings_Join bt 0 m (T.map Zz) ⟨#[]⟩ W (fun j x hj=>by
   have hjl:j<T.length:=by
    rcases Nat.lt_or_ge j T.length with h|h
    ·exact h
    ·rw[List.getElem?_eq_none (by simpa using h)] at hj;cases hj
   rw[Nat.zero_add,hcs j (by omega)]
   simp[hjl] at hj
   simp[txV,hjl,hj]) hl (by omega) (by omega) (by
    have:(Lib.join ((T.map Zz).map (·.data.toList)) []).length=(Yl T).size:=by rw[←Nu T];rfl
    show (Lib.join ((T.map Zz).map (·.data.toList)) []).length≤_
    omega)
  rw[hlm] at q
  change Calls _ _ _ _ fun e w'=>e = .returned (.string ⟨(Lib.join ((T.map Zz).map (·.data.toList)) []).toArray⟩)∧_ at q
  rw[Nu] at q
  exact q))
 have HTX:Hid (Ui (p,h,k,n,T)=(r++⟨#[10]⟩)++s):=by show _=_;unfold Ui;simp only;rw[hrr,hss]
 rw[hrr] at PR hsz
 rw[hss] at JN hts
 have hs1:(r++(⟨#[10]⟩:ByteArray)).size=r.size+1:=Ur r 10
 clear hrr hss hE hT hx hX1 hbX hcell hr f1 f5 f2
 obtain⟨r2,hr2⟩:∃ r2,r++(⟨#[10]⟩:ByteArray)=r2:=⟨_,rfl⟩
 rw[hr2] at hs1 HTX
 go_enter Tryz.func79,Tryz.ntmps79
 go_wp2_with fail
 rw[←hX]
 clear hX
 refine (Za C1).mono ?_
 rintro e w1 ⟨rfl,hb1⟩
 have hx1:=(hb1.block _ (lt_of_block (Za HX1))).trans (Za HX1)
 have c0:=Zd hx1 0 _ rfl
 have c1:=Zd hx1 1 _ rfl
 have c2:=Zd hx1 2 _ rfl
 have c3:=Zd hx1 3 _ rfl
 have c4:=Zd hx1 4 _ rfl
 have cl:=lt_of_block hx1
 have HB1:=Zb hb1
 clear hb1 hx1 C1
 go_wp2_with fail
 refine ((Za HO) _).mono ?_
 rintro e w2 ⟨rfl,hb2⟩
 obtain⟨Y,hY⟩:∃ Y,Y=w2.alloc (.cells #[.int .i64 p,.int .i64 h,.int .i64 k,.int .i64 n] 201):=⟨_,rfl⟩
 have hbY:Below w2.heap.size w2 Y:=by rw[hY];exact Zg _ _
 have hY1:Y.heap[w2.heap.size]? = some (.cells [.int .i64 p,.int .i64 h,.int .i64 k,.int .i64 n].toArray 201 (0,0)):=by rw[hY];exact Rm _ _ _ _ _ _
 have HBY:=Zb (Ze (Ze (Za HB1) hb2) hbY)
 have hxY:=((Za HBY).block _ (lt_of_block (Za HX1))).trans (Za HX1)
 have d4:=Zd hxY 4 _ rfl
 have dl:=lt_of_block hxY
 have yl:=lt_of_block hY1
 have HY1:=Zb hY1
 have HXY:=Zb hxY
 clear hb2 hbY hY1 hxY c0 c1 c2 c3 c4 cl
 go_wp2_with fail
 rw[←hY]
 clear hY
 go_region_with (first
  | (go_at_call 126;refine ((Za PR) _ w2.heap.size (Ze (Za HBY) (Zh _)) (Za HY1)).mono ?_;rintro e w3 ⟨rfl,hb3⟩;have e4:w3.cell? ⟨w.heap.size,4,none⟩=some (.slice (some ⟨b,off,none⟩) m c):=Zc hb3 (Zc (Zh _) d4);have el:w.heap.size<w3.heap.size:=World.block_lt_of_cell? _ _ e4;have HB3:=Zb (Ze (Ze (Za HBY) (Zh _)) hb3);clear hb3)
  | (go_at_call 81;refine ((Za PT) _ (Za HB3)).mono ?_;rintro e w4 ⟨rfl,hf4⟩;have HF4:=Zb hf4;have HB4:=Zb (Ze (Za HB3) hf4.bel);clear hf4)
  | (go_at_call 127;refine ((Za JN) _ _ (Za HF4).lt (fun i hi=>(Za HF4).cells (Nat.le_refl _) i hi)).mono ?_;rintro e w5 ⟨rfl,hb5⟩;have HB5:=Zb (Ze (Za HB4) hb5);clear hb5))
 all_goals
  go_wp2
  go_ret2
  exact⟨by rw[Za HTX];rfl,Ze (Za HBX) (Za HB5)⟩
theorem Fz(p h k n:Int)(a:Option Addr)(m c:Nat)(T:List TxD)(x:Int)(w:World)(hT:TxsAt w a m T)(hx:Xb (p,h,k,n,T)=x)(h0:x≠0) :
  Calls Tryz.prog 79 #[.agg #[.int .i64 p,.int .i64 h,.int .i64 k,.int .i64 n,.slice a m c]] w fun e w'=>e = .returned (.tuple #[.string ⟨#[]⟩,.int .i64 x])∧Below w.heap.size w w':=by
 obtain⟨X,hX⟩:∃ X,X=w.alloc (.cells #[.int .i64 p,.int .i64 h,.int .i64 k,.int .i64 n,.slice a m c] 68):=⟨_,rfl⟩
 have hbX:Below w.heap.size w X:=by rw[hX];exact Zg _ _
 have C1:=Zb (Jp p h k n a m c T x X (hT.later hbX) hx)
 have HBX:=Zb hbX
 have gx:(x != 0)=true:=by simp[h0]
 clear hT hx h0 hbX
 go_enter Tryz.func79,Tryz.ntmps79
 go_wp2_with fail
 rw[←hX]
 clear hX
 refine (Za C1).mono ?_
 rintro e w1 ⟨rfl,hb1⟩
 have HB1:=Zb (Ze (Za HBX) hb1)
 clear hb1
 go_wp2
 go_ret2
 exact⟨rfl,Za HB1⟩
end Go.Proofs.YtpikejjiignchaaGreatDoor
