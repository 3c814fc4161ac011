/- The contract of Disconnect, every way. -/
import Derived.Test.YtepmnpapdknocaaGreatDoorBlkDis
import Derived.Test.YtepmnpapdknocaaGreatDoorCoinSpendBToBlkPrint
import Derived.Test.YtepmnpapdknocaaGreatDoorTxCheckBToTxParts
import Derived.Test.YtepmnpapdknocaaGreatDoorCoinTakeToBlkHead
import Derived.Deep.RegionHeld3
import Derived.Deep.RegionLaw
import Derived.DeepKeys
import Derived.Laws.StructEq
import Derived.Test.YtepmnpapdknocaaGreatDoorCoinBackMToRefNames
import Derived.Test.YtepmnpapdknocaaGreatDoorRefReverted
import Derived.Deep.AppendLies
import Derived.Test.YtepmnpapdknocaaGreatDoorCoinCopyCToBlkReward
set_option maxHeartbeats 6400000
namespace Go.Proofs.YtepmnpapdknocaaGreatDoor
open Go.RowKit
theorem Zhj{K:List ByteArray}{C:List Zb}{b:Uo}{N:List Int}(h:nfD K C b=(N,0)):N.length=b.2.2.2.2.length∧0<b.2.2.2.2.length∧b.2.2.2.2.length≤4:=by
 obtain⟨_,hb,X,n,N',hN,hN2⟩:=D9 (by rw[h])
 rw[h] at hN2
 have e:=(Uh hN).2.2.2.2.1
 obtain⟨h0,h4,_,_⟩:=Un hb
 have hN3:N=N':=hN2
 rw[hN3]
 exact⟨by rw[e];simp,h0,h4⟩
set_option maxRecDepth 100000 in
theorem Lu(ka:Option Addr)(kn kc:Nat)(K:List ByteArray)(la:Option Addr)(ln lc:Nat)(C0:List Zb)(p h k0 n:Int)(a:Option Addr)(m c:Nat)(L:List TxD)(ua:Option Addr)(un uc:Nat)(N:List Int)(x y:Int)(w:World)(hE:Env w)(hK:Bk.TextsAt w ka kn K)(hC:CoinsAt w la ln C0)(hL:TxsAt w a m L)(hnf:nfD K C0 (p,h,k0,n,L)=(N,x))(hy:(x≠0∧y=x)∨(x=0∧un≠m∧y=4)) :
  Calls Tryz.prog 7 #[.agg #[.slice ka kn kc],.slice la ln lc,.agg #[.int .i64 p,.int .i64 h,.int .i64 k0,.int .i64 n,.slice a m c],.slice ua un uc] w fun e w'=>RvR w w' y [] e:=by
 obtain⟨X,hX⟩:∃ X,X=(((((w.alloc (.cells #[.slice ka kn kc] 24)).alloc (.cells #[.slice la ln lc] 25)).alloc (.cells #[.int .i64 p,.int .i64 h,.int .i64 k0,.int .i64 n,.slice a m c] 28)).alloc (.cells #[.slice ua un uc] 29)).alloc (.cells #[.slice none 0 0] 25)).alloc (.cells #[.int .i64 0] 31):=⟨_,rfl⟩
 obtain⟨hbX,hXs,x1,x2,x3,x4,x5,x6⟩:=Kz w _ _ _ _ _ _ X hX
 have NF:=hide (Q9 ka kn kc K la ln lc C0 p h k0 n a m c L N x X (hE.later hbX) (hK.later hbX) (hC.later hbX) (hL.later hbX) hnf)
 have c1:=Za (X:=[.slice ka kn kc]) x1 0 _ rfl
 have c2:=Za (X:=[.slice la ln lc]) x2 0 _ rfl
 have c30:=Za (X:=[.int .i64 p,.int .i64 h,.int .i64 k0,.int .i64 n,.slice a m c]) x3 0 _ rfl
 have c31:=Za (X:=[.int .i64 p,.int .i64 h,.int .i64 k0,.int .i64 n,.slice a m c]) x3 1 _ rfl
 have c32:=Za (X:=[.int .i64 p,.int .i64 h,.int .i64 k0,.int .i64 n,.slice a m c]) x3 2 _ rfl
 have c33:=Za (X:=[.int .i64 p,.int .i64 h,.int .i64 k0,.int .i64 n,.slice a m c]) x3 3 _ rfl
 have c34:=Za (X:=[.int .i64 p,.int .i64 h,.int .i64 k0,.int .i64 n,.slice a m c]) x3 4 _ rfl
 have hs1:=lt_of_block x1
 have hs2:=lt_of_block x2
 have hs3:=lt_of_block x3
 have HBX:=hide hbX
 have HX3:=hide x3
 have HX4:=hide x4
 have HX5:=hide x5
 have HX6:=hide x6
 have HXS:=hide hXs
 clear hE hK hC hL hnf hbX x1 x2 x3 x4 x5 x6 hXs
 go_enter Tryz.func7,Tryz.ntmps7
 go_wp2_with fail
 rw[←hX]
 clear hX
 refine (unhide NF).mono ?_
 rintro e w1 ⟨na,nn,nc,rfl,hN,hnc,hb1⟩
 obtain⟨Y,hY⟩:∃ Y,Y=(w1.alloc (.cells #[.slice na nn nc] 30)).alloc (.cells #[.int .i64 x] 31):=⟨_,rfl⟩
 have hbY:Below w1.heap.size w1 Y:=by rw[hY];exact bel_on (bel_new _ _) (bel_new _ _)
 have y11:Y.heap[w1.heap.size+1]? = some (.cells [.int .i64 x].toArray 31 (0,0)):=by
  rw[hY]
  have:=heap_alloc_new (w1.alloc (.cells #[.slice na nn nc] 30)) (.cells #[.int .i64 x] 31)
  rw[show (w1.alloc (.cells #[.slice na nn nc] 30)).heap.size=w1.heap.size+1 by simp] at this
  exact this
 have hs1':=hb1.size
 have hXs:=unhide HXS
 have hXY:=bel_on hb1 hbY
 have d3:=(hb1.block _ (lt_of_block (unhide HX3))).trans (unhide HX3)
 have d34:=Za (X:=[.int .i64 p,.int .i64 h,.int .i64 k0,.int .i64 n,.slice a m c]) d3 4 _ rfl
 have d3l:=lt_of_block d3
 have d4:=(hb1.block _ (lt_of_block (unhide HX4))).trans (unhide HX4)
 have d40:=Za (X:=[.slice ua un uc]) d4 0 _ rfl
 have d4l:=lt_of_block d4
 have d2l:w.heap.size+1<w1.heap.size:=by omega
 have d1l:w.heap.size<w1.heap.size:=by omega
 have d8:=(hXY.block _ (lt_of_block (unhide HX5))).trans (unhide HX5)
 have d9:=(hXY.block _ (lt_of_block (unhide HX6))).trans (unhide HX6)
 have o8:=(hb1.block _ (lt_of_block (unhide HX5))).trans (unhide HX5)
 have o9:=(hb1.block _ (lt_of_block (unhide HX6))).trans (unhide HX6)
 have O8:=hide o8
 have O9:=hide o9
 have c8w:=Za (X:=[.slice none 0 0]) o8 0 _ rfl
 have f8w:=Zd o8 0
 have l8w:=lt_of_block o8
 have c9w:=Za (X:=[.int .i64 0]) o9 0 _ rfl
 have f9w:=Zd o9 0
 have l9w:=lt_of_block o9
 have n98:¬w.heap.size+1+1+1+1+1=w.heap.size+1+1+1+1:=by omega
 have c8:=Za (X:=[.slice none 0 0]) d8 0 _ rfl
 have f8:=Zd d8 0
 have l8:=lt_of_block d8
 have c9:=Za (X:=[.int .i64 0]) d9 0 _ rfl
 have f9:=Zd d9 0
 have l9:=lt_of_block d9
 have c11:=Za y11 0 _ rfl
 have l11:=lt_of_block y11
 have n89:¬w.heap.size+1+1+1+1=w.heap.size+1+1+1+1+1:=by omega
 have n811:¬w1.heap.size+1=w.heap.size+1+1+1+1:=by omega
 have HW1:=hide (bel_on (unhide HBX) hb1)
 have HF:Hid (∀ V v5 v6,V=(Y.drew.setCell ⟨w.heap.size+1+1+1+1,0,none⟩ v5).setCell ⟨w.heap.size+1+1+1+1+1,0,none⟩ v6∨V=(Y.setCell ⟨w.heap.size+1+1+1+1,0,none⟩ v5).setCell ⟨w.heap.size+1+1+1+1+1,0,none⟩ v6∨V=((Y.setCell ⟨w.heap.size+1+1+1+1,0,none⟩ v5).setCell ⟨w.heap.size+1+1+1+1+1,0,none⟩ v6).drew→Below w.heap.size w V):=by
  intro V v5 v6 hV
  have hb:=bel_on (unhide HBX) hXY
  rcases hV with rfl|rfl|rfl
  ·exact ((bel_on hb (Zc Y)).setCell (p:=⟨w.heap.size+1+1+1+1,0,none⟩) (by show w.heap.size≤w.heap.size+1+1+1+1;omega) _).setCell (p:=⟨w.heap.size+1+1+1+1+1,0,none⟩) (by show w.heap.size≤w.heap.size+1+1+1+1+1;omega) _
  ·exact (hb.setCell (p:=⟨w.heap.size+1+1+1+1,0,none⟩) (by show w.heap.size≤w.heap.size+1+1+1+1;omega) _).setCell (p:=⟨w.heap.size+1+1+1+1+1,0,none⟩) (by show w.heap.size≤w.heap.size+1+1+1+1+1;omega) _
  ·exact bel_on ((hb.setCell (p:=⟨w.heap.size+1+1+1+1,0,none⟩) (by show w.heap.size≤w.heap.size+1+1+1+1;omega) _).setCell (p:=⟨w.heap.size+1+1+1+1+1,0,none⟩) (by show w.heap.size≤w.heap.size+1+1+1+1+1;omega) _) (Zc _)
 clear hN hb1 hbY y11 hXY d3 d4 d8 d9 o8 o9 hs1' hXs NF c1 c2 c30 c31 c32 c33 c34 hs1 hs2 hs3
 have HZ:Hid (∀ (v:Value) (o1 o2:Obj),((((w1.setCell ⟨w.heap.size+1+1+1+1,0,none⟩ (.slice none 0 0)).setCell ⟨w.heap.size+1+1+1+1+1,0,none⟩ v).alloc o1).alloc o2).cell? ⟨w.heap.size+1+1+1+1,0,none⟩=some (.slice none 0 0)∧((((w1.setCell ⟨w.heap.size+1+1+1+1,0,none⟩ (.slice none 0 0)).setCell ⟨w.heap.size+1+1+1+1+1,0,none⟩ v).alloc o1).alloc o2).cell? ⟨w.heap.size+1+1+1+1+1,0,none⟩=some v):=by
  intro v o1 o2
  have g4:=(Gr.refl w1 (fun q=>q=w.heap.size+1+1+1+1)).set (p:=⟨w.heap.size+1+1+1+1,0,none⟩) (.inl rfl) (.slice none 0 0)
  have e8:=Xo (u:=.slice none 0 0) (unhide O8)
  have e9:=g4.heap (unhide O9) n98
  have g5:=(Gr.refl (w1.setCell ⟨w.heap.size+1+1+1+1,0,none⟩ (.slice none 0 0)) (fun q=>q=w.heap.size+1+1+1+1+1)).set (p:=⟨w.heap.size+1+1+1+1+1,0,none⟩) (.inl rfl) v
  have k9:=Xo (u:=v) e9
  have k8:=g5.heap e8 n89
  have hb:=bel_on (bel_new ((w1.setCell ⟨w.heap.size+1+1+1+1,0,none⟩ (.slice none 0 0)).setCell ⟨w.heap.size+1+1+1+1+1,0,none⟩ v) o1) (bel_new _ o2)
  exact⟨cell_later hb (Za (X:=[.slice none 0 0]) k8 0 _ rfl),cell_later hb (Za (X:=[v]) k9 0 _ rfl)⟩
 rcases hy with ⟨hx,rfl⟩|⟨rfl,hu,rfl⟩
 ·have gx:(y != 0)=true:=by simp[hx]
  go_wp2
  rw[←hY]
  clear hY
  go_region
  go_wp2
  (try simp only[Exit.inBlock,Exit.then])
  refine bodyPost_ret (v:=.tuple #[.slice none 0 0,.int .i64 y]) ?_ rfl ?_
  ·simp[results,Tryz.f7,go_sem,c8,c9]
  ·refine Xg rfl ((unhide HF) _ (.slice none 0 0) (.int .i64 y) ?_)
   first|exact .inl rfl|exact .inr (.inl rfl)|exact .inr (.inr rfl)
 ·have gu:((un:Int) != (m:Int))=true:=by simp;omega
  go_wp2
  (try simp only[Exit.inBlock,Exit.then])
  refine bodyPost_ret (v:=.tuple #[.slice none 0 0,.int .i64 4]) ?_ rfl ?_
  ·obtain⟨z8,z9⟩:=(unhide HZ) (.int .i64 4) (.cells #[.slice na nn nc] 30) (.cells #[.int .i64 0] 31)
   simp[results,Tryz.f7,go_sem,z8,z9]
  ·exact Xg rfl (bel_on (((unhide HW1).setCell (p:=⟨w.heap.size+1+1+1+1,0,none⟩) (by show w.heap.size≤w.heap.size+1+1+1+1;omega) _).setCell (p:=⟨w.heap.size+1+1+1+1+1,0,none⟩) (by show w.heap.size≤w.heap.size+1+1+1+1+1;omega) _) (bel_on (bel_new _ _) (bel_new _ _)))
theorem Vh(ka:Option Addr)(kn kc:Nat)(K:List ByteArray)(la:Option Addr)(ln lc:Nat)(C0:List Zb)(p h k0 n:Int)(a:Option Addr)(m c:Nat)(L:List TxD)(ua:Option Addr)(un uc:Nat)(S:List (List Zb))(x:Int)(C':List Zb)(w:World)(hE:Env w)(hK:Bk.TextsAt w ka kn K)(hC:CoinsAt w la ln C0)(sC:SlOk la ln lc)(hL:TxsAt w a m L)(hU:UndosAt w ua un S)(hx:R9 K C0 (p,h,k0,n,L) S=(x,C')) :
  Calls Tryz.prog 7 #[.agg #[.slice ka kn kc],.slice la ln lc,.agg #[.int .i64 p,.int .i64 h,.int .i64 k0,.int .i64 n,.slice a m c],.slice ua un uc] w fun e w'=>RvR w w' x C' e:=by
 obtain⟨⟨N,z⟩,hnf⟩:∃ r,nfD K C0 (p,h,k0,n,L)=r:=⟨_,rfl⟩
 have hLl:L.length=m:=hL.1
 unfold R9 at hx
 rw[hnf] at hx
 by_cases hz:z=0
 ·subst hz
  rw[if_neg (fun q=>q rfl)] at hx
  by_cases hl:S.length=L.length
  ·rw[if_neg (fun q=>q hl)] at hx
   obtain⟨e1,e2,e3⟩:=Zhj hnf
   have hum:un=m:=by rw[←hU.1,hl,hLl]
   subst hum
   have e1:N.length=un:=by rw[←hLl];exact e1
   have hx:Uu L N S L.length C0=(x,C'):=hx
   rw[hLl] at hx
   exact Zed ka kn kc K la ln lc C0 p h k0 n a un c L ua uc S N x C' w hE hK hC sC hL hU (by rw[←hLl];exact e3) (by rw[←hLl];exact e2) hnf e1 hx
  ·rw[if_pos hl] at hx
   obtain⟨rfl,rfl⟩:=Prod.mk.inj hx
   exact Lu ka kn kc K la ln lc C0 p h k0 n a m c L ua un uc N 0 4 w hE hK hC hL hnf (.inr ⟨rfl,fun q=>hl (by rw[hU.1,hLl];exact q),rfl⟩)
 ·rw[if_pos hz] at hx
  obtain⟨rfl,rfl⟩:=Prod.mk.inj hx
  exact Lu ka kn kc K la ln lc C0 p h k0 n a m c L ua un uc N z z w hE hK hC hL hnf (.inl ⟨hz,rfl⟩)
theorem Xf{P:Program}{ops:Array Oper}{o:Oper}{a:Act}{w:World}{K:Act→World→Prop}{Q:Exit→Act→World→Prop}{E:Prop}
  (hw:Region.wanted o (yielded ops a.tmps)=true) (f:FuncId) (vs:Array Value) (he:(execOp a.eval o).run P w = .ok (.enter f vs) w) {R:Ending→World→Prop} (hc:Calls P f vs w R) (h:∀ e w',R e w'→∃ v,e = .returned v∧K (a.put o.dst v) w') :
  if Region.wanted o (yielded ops a.tmps)=true then Oper.wp P o a w K Q else E:=by
 rw[if_pos hw]
 unfold Oper.wp
 rw[he,Oper.upon_enter]
 refine hc.mono ?_
 intro e w' hr
 obtain⟨v,rfl,hk⟩:=h e w' hr
 exact hk
def Ra(m k:Nat):List Int:=(List.range k).map fun j=>(((m - j) % m:Nat):Int)
theorem Rv(m k:Nat):(Ra m k).length=k:=by simp[Ra]
theorem Zag(m k:Nat):Ra m (k+1)=Ra m k++[(((m - k) % m:Nat):Int)]:=by simp[Ra,List.range_succ]
theorem Zfh(m k j:Nat)(h:j<k):(Ra m k)[j]'(by rw[Rv];exact h)=(((m - j) % m:Nat):Int):=by simp[Ra]
theorem Zci{L S M:List Zb}{t:TxD}{name:Int}(h:rvD L t name S=(0,M)):Zs M:=by
 unfold rvD at h
 split at h
 ·rename_i q;injection h with e _;exact absurd e q
 split at h
 ·injection h with e _;exact absurd e (by decide)
 split at h
 ·rename_i q;injection h with e _;exact absurd e q
 split at h
 ·rename_i q;injection h with e _;exact absurd e q
 split at h
 ·rename_i q;injection h with e _;exact absurd e q
 ·rename_i q
  injection h with _ e
  rw[←e]
  exact (Z6 _).1 (Decidable.not_not.1 q)
set_option maxRecDepth 10000 in
theorem Ew(ka:Option Addr)(kn kc:Nat)(K:List ByteArray)(la:Option Addr)(ln lc:Nat)(C0:List Zb)(p h k0 n:Int)(a:Option Addr)(m c:Nat)(T:List TxD)(ua:Option Addr)(uc:Nat)(S:List (List Zb))(X1:List ByteArray)(nm1:Int)(N:List Int)(x:Int)(C':List Zb)(w:World)(hE:EnvF w)(hK:Bk.TextsAt w ka kn K)(sK:Bk.SlOk ka kn kc)(hR:Bk.Right K)(hC:CoinsAt w la ln C0)(sC:SlOk la ln lc)(hRC:Zs C0)(hT:TxsAt w a m T)(hU:UndosAt w ua m S)(hnm:Wn K (p,h,k0,n,T)=(X1,nm1,N,0))(hx:Uu T N S m C0=(x,C')) :
  Calls Tryz.prog 16 #[.slice ka kn kc,.slice la ln lc,.agg #[.int .i64 p,.int .i64 h,.int .i64 k0,.int .i64 n,.slice a m c],.slice ua m uc] w fun e w'=>RvR w w' x C' e:=by
 obtain⟨X,hX⟩:∃ X,X=w.alloc (.cells #[.int .i64 p,.int .i64 h,.int .i64 k0,.int .i64 n,.slice a m c] 28):=⟨_,rfl⟩
 have hbX:Below w.heap.size w X:=by rw[hX];exact bel_new _ _
 have hXb:X.heap[w.heap.size]? = some (.cells [.int .i64 p,.int .i64 h,.int .i64 k0,.int .i64 n,.slice a m c].toArray 28 (0,0)):=by rw[hX];exact Yd _ _ _ _ _ _ _
 have NF:=hide (W7 ka kn kc K p h k0 n a m c T X1 nm1 N 0 X (hE.later hbX) (hK.later hbX) sK hR (hT.later hbX) hnm)
 have hb0:=(Uh hnm).1
 obtain⟨hm0,hm4,_,_⟩:=Un hb0
 have zT:T.length=m:=hT.1
 rw[show (p,h,k0,n,T).2.2.2.2=T from rfl,zT] at hm0 hm4
 have zS:S.length=m:=hU.1
 have zN:N.length=m:=by rw[(Uh hnm).2.2.2.2.1];simpa using zT
 have hck:∀ t∈T,Zj t=0:=(Ve hb0).2.2.2.2
 obtain⟨i0,hi,hz0,hz1,hz2⟩:=info_parts Tryz.infoInt
 have x0:=Za hXb 0 _ rfl
 have x1:=Za hXb 1 _ rfl
 have x2:=Za hXb 2 _ rfl
 have x3:=Za hXb 3 _ rfl
 have x4:=Za hXb 4 _ rfl
 have xl:=lt_of_block hXb
 have HBX:=hide hbX
 have HXB:=hide hXb
 have HC:=hide (hC.later hbX)
 have HT:=hide (hT.later hbX)
 have HU:=hide (hU.later hbX)
 have HCK:=hide hck
 have HRC:=hide hRC
 have HX:=hide hx
 have ZT:=hide zT
 have ZS:=hide zS
 have ZN:=hide zN
 have gm:((m:Int) != (m:Int))=false:=by simp
 clear hE hK sK hR hC hRC hT hU hnm hx hbX hXb hb0 hck zT zS zN
 go_enter Tryz.func16,Tryz.ntmps16
 go_wp2_with fail
 rw[←hX]
 clear hX
 (try go_wp2_with fail)
 refine (unhide NF).mono ?_
 rintro e w1 ⟨a',n',c',na,nn,nc,rfl,_,_,hN,hb1⟩
 have y4:=cell_later hb1 x4
 have yl:=World.block_lt_of_cell? _ _ y4
 obtain⟨Y,hY⟩:∃ Y,Y=w1.alloc (.cells #[.int .i64 0] 3):=⟨_,rfl⟩
 have hbY:Below w1.heap.size w1 Y:=by rw[hY];exact bel_new _ _
 have hYs:Y.heap[w1.heap.size]? = some (.cells #[.int .i64 0] 3 (0,0)):=by rw[hY];exact heap_alloc_new _ _
 have OW:Hid (Y.ownsRow w1.heap.size 3 1 (.slice (some ⟨w1.heap.size,0,none⟩) 1 1) (Ra m 1).length ((Ra m 1).map (Value.int .i64))):=by
  show World.ownsRow _ _ _ _ _ _ _
  have e:(Ra m 1).map (Value.int .i64)=[.int .i64 0]:=by simp[Ra,List.range_succ]
  rw[e,Rv]
  exact⟨rfl,.inr ⟨w1.heap.size,1,_,rfl,Nat.le_refl _,hYs,Nat.le_refl _,by unfold maxLen;omega,rfl,rfl⟩⟩
 have HN:=hide hN
 have HB1:=hide hb1
 have HBY:=hide (bel_on hb1 hbY)
 have HY1:=hide hbY
 clear hN hb1 hbY hYs NF x0 x1 x2 x3 x4 xl
 have hm1:((m:Int) - 1)=((m - 1:Nat):Int):=by omega
 go_wp2_with fail
 rw[←hY]
 clear hY
 (try go_wp2_with fail)
 go_loopw [14,15] (fun ov iv wr=>∃ (k:Nat) (oc:Nat) (g:Nat),1≤k∧k≤m∧ov = .slice (some ⟨g,0,none⟩) k oc∧iv = .int .i64 ((m - k:Nat):Int)∧Hid (wr.ownsRow w1.heap.size 3 1 (.slice (some ⟨g,0,none⟩) k oc) k ((Ra m k).map (Value.int .i64)))∧Hid (Below w1.heap.size w1 wr)) (fun _ iv _=>(intOf iv).toNat)
 case atStart=>
  have o1:=unhide OW
  rw[Rv] at o1
  exact⟨1,1,w1.heap.size,Nat.le_refl _,hm0,rfl,by rw[←hm1],o1,HY1⟩
 case round=>
  obtain⟨k,oc,g,hk1,hkm,rfl,rfl,HO,HB⟩:=hrel
  clear OW HY1 HBY
  by_cases hlt:k<m
  ·obtain⟨d,hd⟩:∃ d,m - k=d:=⟨_,rfl⟩
   have hd0:0<d:=by omega
   have hdI:(0:Int)<(d:Int):=by omega
   rw[hd]
   have hbn:=bel_new wr (.cells #[.int .i64 (d:Int)] 3)
   have OWN5:=hide ((Gr.of (S:=fun _=>False) hbn).own (unhide HO) (fun _ _ q=>q))
   have NEWS:=hide (World.news_of_block (heap_alloc_new wr (.cells #[.int .i64 (d:Int)] 3)))
   have HB6:=hide (bel_on (unhide HB) hbn)
   have HOL:Hid (Ra m (k+1)=Ra m k++[(d:Int)]):=by show _=_;rw[Zag,Nat.mod_eq_of_lt (show m - k<m by omega),hd]
   have HD:=hide hd
   have hdm:d<m:=by omega
   clear hbn hd
   go_wp2_with (at_builtin;refine wpList_append_lies _ rfl _ _ 30 rfl w1.heap.size 3 i0 (.int .i64 0) 1 8 Tryz.underlying30 hi hz0 hz1 hz2 rfl (by decide) _ _ _ rfl (unhide OWN5) ⟨wr.heap.size,0,none⟩ 1 1 [.int .i64 (d:Int)] rfl rfl (unhide NEWS) (fun u hu=>by simp at hu;subst hu;rfl) (by decide) (by unfold maxLen;omega) (by omega) (unhide HB6).size _ rfl ?_;intro g7 cap7 w7 hown7 hgrow7 hor7 _)
   have OWN7:Hid (w7.ownsRow w1.heap.size 3 1 (.slice (some ⟨g7,0,none⟩) (k+1) cap7) (k+1) ((Ra m (k+1)).map (Value.int .i64))):=by
    show World.ownsRow _ _ _ _ _ _ _
    rw[unhide HOL,List.map_append]
    exact hown7
   have HB7:=hide ((unhide HB6).grown hgrow7 (unhide HB6).size (fun k hk=>((unhide OWN5).lt k hk).1))
   clear hown7 hgrow7 hor7
   have hwd:IntKind.i64.wrap ((d:Int) - 1)=((m - (k+1):Nat):Int):=by have:=unhide HD;rw[IntKind.wrap_i64];omega
   go_wp2
   go_roundw
   case rel=>exact⟨k+1,cap7,g7,by omega,by omega,rfl,by have:=unhide HD;go_num,OWN7,HB7⟩
   case measure=>have:=unhide HD;simp[intOf];omega
  ·have hkm2:m=k:=by omega
   subst hkm2
   have hd0:((m - m:Nat):Int)=0:=by omega
   rw[hd0]
   clear hkm hk1 hlt hd0 hi hz0 hz1 hz2 hm1
   obtain⟨ra,rcap,hre,hrow⟩:=J7 (unhide HO)
   cases hre
   obtain⟨rb,ro,hre,hrc⟩:=hrow.2.2 hm0
   cases hre
   have ROWC:Hid (∀ V,Below wr.heap.size wr V→∀ i,i<m→V.cell? ⟨g,i,none⟩=some (.int .i64 (((m - i) % m:Nat):Int))):=fun V hb i hi=>by
    have q:=cell_later hb (hrc i hi)
    rw[Nat.zero_add,List.getD_eq_getElem?_getD,List.getElem?_eq_getElem (by rw[Rv];exact hi),Zfh m m i hi] at q
    exact q
   clear hrow hrc
   have HBX1:=hide (bel_on (unhide HB1) (unhide HB))
   have HCR:=hide ((unhide HC).later (unhide HBX1))
   clear HO
   obtain⟨Z,hZ⟩:∃ Z,Z=wr:=⟨_,rfl⟩
   subst hZ
   go_wp2_with fail
   go_loopw [1,13,49] (fun lv ev iv V=>∃ (k:Nat) (oa:Option Addr) (oon oc:Nat) (C:List Zb),k≤m∧lv = .slice oa oon oc∧ev = .int .i64 0∧iv = .int .i64 k∧Hid (CoinsAt V oa oon C∧SlOk oa oon oc∧Zs C)∧Hid (Uu T N S (m - k) C=(x,C'))∧Hid (Below Z.heap.size Z V)) (fun _ _ iv _=>m - (intOf iv).toNat)
   case atStart=>exact⟨0,la,ln,lc,C0,Nat.zero_le _,rfl,rfl,rfl,(⟨unhide HCR,sC,unhide HRC⟩:CoinsAt Z la ln C0∧SlOk la ln lc∧Zs C0),HX,(⟨rfl,rfl,rfl,Nat.le_refl _,fun _ _=>rfl⟩:Below Z.heap.size Z Z)⟩
   case round=>
    obtain⟨k,oa,oon,oc,C,hk,rfl,rfl,rfl,HO,HQ,HV⟩:=hrel
    clear HCR HX HRC HC
    have HBV:=hide (bel_on (unhide HBX1) (unhide HV))
    have hxb:=((unhide HBV).block _ (lt_of_block (unhide HXB))).trans (unhide HXB)
    have v4:=Za hxb 4 _ rfl
    have vl:=lt_of_block hxb
    clear hxb
    by_cases hlt:k<m
    ·have hil:(m - k) % m<m:=Nat.mod_lt _ hm0
     have ok:=(unhide ROWC) wr (unhide HV) k hlt
     have okl:=World.block_lt_of_cell? _ _ ok
     obtain⟨i,hi⟩:∃ i,(m - k) % m=i:=⟨_,rfl⟩
     rw[hi] at hil ok
     have hmk:m - k=(m - (k+1))+1:=by omega
     have hiT:i<T.length:=by rw[unhide ZT];exact hil
     have hiN:i<N.length:=by rw[unhide ZN];exact hil
     have hiS:i<S.length:=by rw[unhide ZS];exact hil
     obtain⟨t1,I,O,ht⟩:∃ t1 I O,T[i]=(t1,I,O):=⟨_,_,_,rfl⟩
     obtain⟨nm,hnm⟩:∃ nm,N[i]=nm:=⟨_,rfl⟩
     obtain⟨s,hs⟩:∃ s,S[i]=s:=⟨_,rfl⟩
     obtain⟨y,M,hrv⟩:∃ y M,rvD C (t1,I,O) nm s=(y,M):=⟨_,_,rfl⟩
     have HEQ:=unhide HQ
     rw[hmk,Fu (i:=i) (by rw[unhide ZT,←hmk];exact hi) (t:=(t1,I,O)) (by rw[List.getD_eq_getElem?_getD,List.getElem?_eq_getElem hiT];exact ht) (nm:=nm) (by rw[List.getD_eq_getElem?_getD,List.getElem?_eq_getElem hiN];exact hnm) (s:=s) (by rw[List.getD_eq_getElem?_getD,List.getElem?_eq_getElem hiS];exact hs) hrv] at HEQ
     have HEQ:=hide HEQ
     obtain⟨tb,tof,rfl,_,htc⟩:=(unhide HT).2 hm0
     have tc:=htc i hiT
     have hck:=(unhide HCK) T[i] (List.getElem_mem hiT)
     rw[ht] at tc hck
     obtain⟨c0,⟨ai,ni,ci,c1,hIn,sIn⟩,ao,no2,co,c2,hOut,sOut⟩:=tc
     obtain⟨ub,uo,rfl,_,huc⟩:=(unhide HU).2 hm0
     obtain⟨sa,ns,cs,c3,hSp,sSp⟩:=huc i hiS
     rw[hs] at hSp
     have hnn:nn=m:=(unhide HN).1.symm.trans (unhide ZN)
     obtain⟨nb,no,rfl,hcn⟩:=(unhide HN).2 (by omega)
     have c4:=hcn i hiN
     rw[hnm] at c4
     simp only at c0 c1 c2 hIn hOut
     have RV:Hid (∀ U,Below wr.heap.size wr U→Calls Tryz.prog 44 #[.slice oa oon oc,.agg #[.int .i64 t1,.slice ai ni ci,.slice ao no2 co],.int .i64 nm,.agg #[.slice sa ns cs]] U fun e w'=>RvR U w' y M e):=fun U hb=>
      have hx:=bel_on (unhide HBV) hb
      Mm oa oon oc C t1 ai ao ni ci no2 co I O nm sa ns cs s y M U ((unhide HO).1.later hb) (unhide HO).2.1 (hIn.later hx) (hOut.later hx) (hSp.later hx) (unhide HO).2.2 hck hrv
     have KS:Hid (∀ U,Below wr.heap.size wr U→Below wr.heap.size wr U∧U.cell? ⟨w.heap.size,4,none⟩=some (.slice (some ⟨tb,tof,none⟩) m c)∧U.cell? ⟨tb,tof+i*3,none⟩=some (.int .i64 t1)∧U.cell? ⟨tb,tof+i*3+1,none⟩=some (.slice ai ni ci)∧U.cell? ⟨tb,tof+i*3+2,none⟩=some (.slice ao no2 co)∧U.cell? ⟨nb,no+i,none⟩=some (.int .i64 nm)∧U.cell? ⟨ub,uo+i,none⟩=some (.slice sa ns cs)):=fun U hb=>by
      have hx:=bel_on (unhide HBV) hb
      have h1:=bel_on (bel_on (unhide HB) (unhide HV)) hb
      exact⟨hb,cell_later hb v4,cell_later hx c0,cell_later hx c1,cell_later hx c2,cell_later h1 c4,cell_later hx c3⟩
     have HRV:=hide hrv
     have hkI:(k:Int)<(m:Int):=by omega
     have hiI:(i:Int)<(m:Int):=by omega
     have hi0:¬((i:Int)<0):=by omega
     subst hnn
     clear c0 c1 c2 c3 c4 hIn hOut hSp hcn huc htc hs hnm ht hck sIn sOut sSp hrv hi hmk HQ hiT hiN hiS v4 vl
     go_wp2_with fail
     refine wp_region_held_drew (S:=fun U=>Below wr.heap.size wr U∧U.cell? ⟨w.heap.size,4,none⟩=some (.slice (some ⟨tb,tof,none⟩) nn c)∧U.cell? ⟨tb,tof+i*3,none⟩=some (.int .i64 t1)∧U.cell? ⟨tb,tof+i*3+1,none⟩=some (.slice ai ni ci)∧U.cell? ⟨tb,tof+i*3+2,none⟩=some (.slice ao no2 co)∧U.cell? ⟨nb,no+i,none⟩=some (.int .i64 nm)∧U.cell? ⟨ub,uo+i,none⟩=some (.slice sa ns cs)) (by kernel_rfl) ((unhide KS) _ (Zc _)) (fun hHeld=>?_)
     refine wpAnyH_take (i:=0) (oi:=⟨some 54,.move (.tmp 1),25, "second.go:300",#[],none⟩) (v:=?_) rfl (by kernel_rfl) (by kernel_rfl) (by kernel_rfl) (fun _ _ _ h=>h) (Or.inl ⟨by rfl,?_⟩) hHeld ?_
     rotate_left
     ·(intro W hSw;(try dsimp only at hSw);go_simp;first|done|with_reducible rfl)
     (try simp only[Act.put,ZA,ZB,ZC])
     refine wpAnyH_take (i:=1) (oi:=⟨some 55,.fieldAddr 28 (.tmp 6) 4,0, "second.go:300",#[],none⟩) (v:=?_) rfl (by kernel_rfl) (by kernel_rfl) (by kernel_rfl) (fun _ _ _ h=>h) (Or.inl ⟨by rfl,?_⟩) hHeld ?_
     rotate_left
     ·(intro W hSw;(try dsimp only at hSw);go_simp;first|done|with_reducible rfl)
     (try simp only[Act.put,ZA,ZB,ZC])
     refine wpAnyH_take (i:=2) (oi:=⟨some 56,.load 26 (.tmp 55),26, "second.go:300",#[⟨1,.data⟩],none⟩) (v:=?_) rfl (by kernel_rfl) (by kernel_rfl) (by kernel_rfl) (fun _ _ _ h=>h) (Or.inl ⟨by rfl,?_⟩) hHeld ?_
     rotate_left
     ·(intro W hSw;(try dsimp only at hSw);go_simp;first|done|with_reducible rfl)
     (try simp only[Act.put,ZA,ZB,ZC])
     refine wpAnyH_take (i:=3) (oi:=⟨some 57,.move (.tmp 17),3, "second.go:300",#[],none⟩) (v:=?_) rfl (by kernel_rfl) (by kernel_rfl) (by kernel_rfl) (fun _ _ _ h=>h) (Or.inl ⟨by rfl,?_⟩) hHeld ?_
     rotate_left
     ·(intro W hSw;(try dsimp only at hSw);go_simp;first|done|with_reducible rfl)
     (try simp only[Act.put,ZA,ZB,ZC])
     refine wpAnyH_take (i:=4) (oi:=⟨some 58,.indexAddr 26 (.tmp 56) (.tmp 57),0, "second.go:300",#[⟨2,.data⟩,⟨3,.data⟩],none⟩) (v:=?_) rfl (by kernel_rfl) (by kernel_rfl) (by kernel_rfl) (fun _ _ _ h=>h) (Or.inl ⟨by rfl,?_⟩) hHeld ?_
     rotate_left
     ·(intro W hSw;(try dsimp only at hSw);go_simp;first|done|with_reducible rfl)
     (try simp only[Act.put,ZA,ZB,ZC])
     refine wpAnyH_take (i:=5) (oi:=⟨some 59,.load 74 (.tmp 58),74, "second.go:300",#[⟨4,.data⟩],none⟩) (v:=?_) rfl (by kernel_rfl) (by kernel_rfl) (by kernel_rfl) (fun _ _ _ h=>h) (Or.inl ⟨by rfl,?_⟩) hHeld ?_
     rotate_left
     ·(intro W hSw;(try dsimp only at hSw);go_simp;first|done|with_reducible rfl)
     (try simp only[Act.put,ZA,ZB,ZC])
     refine wpAnyH_take (i:=6) (oi:=⟨some 60,.move (.tmp 12),30, "second.go:300",#[],none⟩) (v:=?_) rfl (by kernel_rfl) (by kernel_rfl) (by kernel_rfl) (fun _ _ _ h=>h) (Or.inl ⟨by rfl,?_⟩) hHeld ?_
     rotate_left
     ·(intro W hSw;(try dsimp only at hSw);go_simp;first|done|with_reducible rfl)
     (try simp only[Act.put,ZA,ZB,ZC])
     refine wpAnyH_take (i:=7) (oi:=⟨some 61,.move (.tmp 17),3, "second.go:300",#[],none⟩) (v:=?_) rfl (by kernel_rfl) (by kernel_rfl) (by kernel_rfl) (fun _ _ _ h=>h) (Or.inl ⟨by rfl,?_⟩) hHeld ?_
     rotate_left
     ·(intro W hSw;(try dsimp only at hSw);go_simp;first|done|with_reducible rfl)
     (try simp only[Act.put,ZA,ZB,ZC])
     refine wpAnyH_take (i:=8) (oi:=⟨some 62,.indexAddr 30 (.tmp 60) (.tmp 61),0, "second.go:300",#[⟨6,.data⟩,⟨7,.data⟩],none⟩) (v:=?_) rfl (by kernel_rfl) (by kernel_rfl) (by kernel_rfl) (fun _ _ _ h=>h) (Or.inl ⟨by rfl,?_⟩) hHeld ?_
     rotate_left
     ·(intro W hSw;(try dsimp only at hSw);go_simp;first|done|with_reducible rfl)
     (try simp only[Act.put,ZA,ZB,ZC])
     refine wpAnyH_take (i:=9) (oi:=⟨some 63,.load 3 (.tmp 62),3, "second.go:300",#[⟨8,.data⟩],none⟩) (v:=?_) rfl (by kernel_rfl) (by kernel_rfl) (by kernel_rfl) (fun _ _ _ h=>h) (Or.inl ⟨by rfl,?_⟩) hHeld ?_
     rotate_left
     ·(intro W hSw;(try dsimp only at hSw);go_simp;first|done|with_reducible rfl)
     (try simp only[Act.put,ZA,ZB,ZC])
     refine wpAnyH_take (i:=10) (oi:=⟨some 64,.move (.tmp 3),29, "second.go:300",#[],none⟩) (v:=?_) rfl (by kernel_rfl) (by kernel_rfl) (by kernel_rfl) (fun _ _ _ h=>h) (Or.inl ⟨by rfl,?_⟩) hHeld ?_
     rotate_left
     ·(intro W hSw;(try dsimp only at hSw);go_simp;first|done|with_reducible rfl)
     (try simp only[Act.put,ZA,ZB,ZC])
     refine wpAnyH_take (i:=11) (oi:=⟨some 65,.move (.tmp 17),3, "second.go:300",#[],none⟩) (v:=?_) rfl (by kernel_rfl) (by kernel_rfl) (by kernel_rfl) (fun _ _ _ h=>h) (Or.inl ⟨by rfl,?_⟩) hHeld ?_
     rotate_left
     ·(intro W hSw;(try dsimp only at hSw);go_simp;first|done|with_reducible rfl)
     (try simp only[Act.put,ZA,ZB,ZC])
     refine wpAnyH_take (i:=12) (oi:=⟨some 66,.indexAddr 29 (.tmp 64) (.tmp 65),0, "second.go:300",#[⟨10,.data⟩,⟨11,.data⟩],none⟩) (v:=?_) rfl (by kernel_rfl) (by kernel_rfl) (by kernel_rfl) (fun _ _ _ h=>h) (Or.inl ⟨by rfl,?_⟩) hHeld ?_
     rotate_left
     ·(intro W hSw;(try dsimp only at hSw);go_simp;first|done|with_reducible rfl)
     (try simp only[Act.put,ZA,ZB,ZC])
     refine wpAnyH_take (i:=13) (oi:=⟨some 67,.load 68 (.tmp 66),68, "second.go:300",#[⟨12,.data⟩],none⟩) (v:=?_) rfl (by kernel_rfl) (by kernel_rfl) (by kernel_rfl) (fun _ _ _ h=>h) (Or.inl ⟨by rfl,?_⟩) hHeld ?_
     rotate_left
     ·(intro W hSw;(try dsimp only at hSw);go_simp;first|done|with_reducible rfl)
     (try simp only[Act.put,ZA,ZB,ZC])
     refine wpAnyH_ready (rs:=[14]) (by kernel_rfl) (by simp) ?_
     refine AllReadyH.cons (o:=⟨some 68,.call { callee:=Callee.value (.func 44),args:=#[.tmp 54,.tmp 59,.tmp 63,.tmp 67],argTypes:=#[25,74,3,68] },36, "second.go:300",#[⟨0,.data⟩,⟨5,.data⟩,⟨9,.data⟩,⟨13,.data⟩],none⟩) rfl (fun K hK=>?_) AllReadyH.nil
     refine Xf (by kernel_rfl) 44 #[.slice oa oon oc,.agg #[.int .i64 t1,.slice ai ni ci,.slice ao no2 co],.int .i64 nm,.agg #[.slice sa ns cs]] (by kernel_rfl) ((unhide RV) _ hHeld.1) ?_
     rintro e w6 ⟨am,nm6,cm,rfl,hM6,sM6,hbc⟩
     refine⟨_,rfl,?_⟩
     have HM6:=hide hM6
     have SM6:=hide sM6
     have HB6:=hide (bel_on hHeld.1 hbc)
     clear hM6 sM6 hbc
     refine hK.out _ _ ((unhide KS) _ (unhide HB6)) (fun hHeld2=>?_)
     clear hK K hHeld
     have hHeld:=hHeld2
     clear hHeld2
     (try simp only[Act.put,ZA,ZB,ZC])
     refine wpAnyH_take (i:=15) (oi:=⟨some 53,.move (.tmp 68),36, "second.go:300",#[⟨14,.data⟩],none⟩) (v:=?_) rfl (by kernel_rfl) (by kernel_rfl) (by kernel_rfl) (fun _ _ _ h=>h) (Or.inl ⟨by rfl,?_⟩) hHeld ?_
     rotate_left
     ·(intro W hSw;(try dsimp only at hSw);go_simp;first|done|with_reducible rfl)
     (try simp only[Act.put,ZA,ZB,ZC])
     refine wpAnyH_take (i:=16) (oi:=⟨some 69,.extract (.tmp 53) 0,25, "second.go:300",#[⟨15,.data⟩],none⟩) (v:=?_) rfl (by kernel_rfl) (by kernel_rfl) (by kernel_rfl) (fun _ _ _ h=>h) (Or.inl ⟨by rfl,?_⟩) hHeld ?_
     rotate_left
     ·(intro W hSw;(try dsimp only at hSw);go_simp;first|done|with_reducible rfl)
     (try simp only[Act.put,ZA,ZB,ZC])
     refine wpAnyH_take (i:=17) (oi:=⟨some 70,.extract (.tmp 53) 1,31, "second.go:300",#[⟨15,.data⟩,⟨18,.gcOnly .lateStores⟩],none⟩) (v:=?_) rfl (by kernel_rfl) (by kernel_rfl) (by kernel_rfl) (fun _ _ _ h=>h) (Or.inl ⟨by rfl,?_⟩) hHeld ?_
     rotate_left
     ·(intro W hSw;(try dsimp only at hSw);go_simp;first|done|with_reducible rfl)
     (try simp only[Act.put,ZA,ZB,ZC])
     refine wpAnyH_take (i:=18) (oi:=⟨some 1,.assign (.tmp 69),25, "second.go:300",#[⟨16,.data⟩,⟨14,.chain⟩,⟨0,.phase⟩,⟨1,.phase⟩,⟨2,.phase⟩,⟨3,.phase⟩,⟨4,.phase⟩,⟨5,.phase⟩,⟨6,.phase⟩,⟨7,.phase⟩,⟨8,.phase⟩,⟨9,.phase⟩,⟨10,.phase⟩,⟨11,.phase⟩,⟨12,.phase⟩,⟨13,.phase⟩,⟨14,.phase⟩,⟨15,.phase⟩,⟨16,.phase⟩,⟨17,.textOnly .lateStores⟩],none⟩) (v:=?_) rfl (by kernel_rfl) (by kernel_rfl) (by kernel_rfl) (fun _ _ _ h=>h) (Or.inl ⟨by rfl,?_⟩) hHeld ?_
     rotate_left
     ·(intro W hSw;(try dsimp only at hSw);go_simp;first|done|with_reducible rfl)
     (try simp only[Act.put,ZA,ZB,ZC])
     refine wpAnyH_take (i:=19) (oi:=⟨some 13,.assign (.tmp 70),31, "second.go:300",#[⟨17,.data⟩,⟨18,.chain⟩,⟨0,.phase⟩,⟨1,.phase⟩,⟨2,.phase⟩,⟨3,.phase⟩,⟨4,.phase⟩,⟨5,.phase⟩,⟨6,.phase⟩,⟨7,.phase⟩,⟨8,.phase⟩,⟨9,.phase⟩,⟨10,.phase⟩,⟨11,.phase⟩,⟨12,.phase⟩,⟨13,.phase⟩,⟨14,.phase⟩,⟨15,.phase⟩,⟨16,.phase⟩,⟨17,.phase⟩,⟨18,.phase⟩],none⟩) (v:=?_) rfl (by kernel_rfl) (by kernel_rfl) (by kernel_rfl) (fun _ _ _ h=>h) (Or.inl ⟨by rfl,?_⟩) hHeld ?_
     rotate_left
     ·(intro W hSw;(try dsimp only at hSw);go_simp;first|done|with_reducible rfl)
     (try simp only[Act.put,ZA,ZB,ZC])
     refine wpAnyH_done (by kernel_rfl) ?_ _
     have HBW:=hide (bel_on (unhide HV) (unhide HB6))
     have HWW:=hide (bel_on (unhide HBX) (bel_on (unhide HBV) (unhide HB6)))
     clear hHeld KS RV
     by_cases ey:y=0
     ·subst ey
      have HQ2:Hid (Uu T N S (nn - (k+1)) M=(x,C')):=by have e:=unhide HEQ;rw[if_neg (by decide)] at e;exact e
      have HR2:=hide (Zci (unhide HRV))
      go_wp2
      go_roundw
      case rel=>exact⟨k+1,am,nm6,cm,M,by omega,rfl,rfl,by go_num,(⟨unhide HM6,unhide SM6,unhide HR2⟩:CoinsAt w6 am nm6 M∧SlOk am nm6 cm∧Zs M),HQ2,HBW⟩
      case measure=>simp[intOf];omega
     ·have g:(y != 0)=true:=by simp[ey]
      have HE2:Hid ((x,C')=(y,([]:List Zb))):=by have e:=unhide HEQ;rw[if_pos ey] at e;exact e.symm
      go_wp2
      go_ret2
      exact Xg (unhide HE2) (unhide HWW)
    ·have hkm2:m=k:=by omega
     subst hkm2
     have HE2:Hid ((0,C)=(x,C')):=by have e:=unhide HQ;rw[Nat.sub_self] at e;exact e
     have HWW:=hide (bel_on (unhide HBX) (unhide HBV))
     clear HQ hlt
     go_wp2
     go_ret2
     obtain⟨e1,e2⟩:=Prod.mk.inj (unhide HE2)
     subst e1 e2
     exact⟨oa,oon,oc,rfl,(unhide HO).1,(unhide HO).2.1,unhide HWW⟩
set_option maxRecDepth 10000 in
theorem Ap(h r:Int)(w:World)(h1:1≤h)(h2:h≤1000)(hr:rwD h=(r,0)) :
  Calls Tryz.prog 41 #[.int .i64 h] w fun e w'=>e = .returned (.int .i64 r)∧Below w.heap.size w w':=by
 have e:r=(rwN ((h - 1).toNat / 8):Nat):=by
  unfold rwD at hr
  rw[if_pos (by simp only[Bool.and_eq_true,decide_eq_true_eq];omega)] at hr
  injection hr with e _
  exact e.symm
 have HE:=hide e
 clear hr e
 go_enter Tryz.func41,Tryz.ntmps41
 go_wp2
 go_loopw [3,4] (fun nv hv wr=>∃ k q:Nat,nv = .int .i64 q∧hv = .int .i64 ((8:Int)+8*k)∧(8:Int)*k<h∧Hid (q=rwN k)∧wr=w) (fun _ hv _=>(h+8 - intOf hv).toNat)
 case atStart=>exact⟨0,64,rfl,rfl,by omega,rfl,rfl⟩
 case round=>
  obtain⟨k,q,rfl,rfl,hk,HQ,rfl⟩:=hrel
  have hq:q≤64:=by rw[unhide HQ];exact Tk k
  have hqi:(0:Int)≤(q:Int):=by omega
  have hqj:(q:Int)≤64:=by omega
  by_cases hlt:(8:Int)+8*k<h
  ·have hw1:IntKind.i64.wrap ((8:Int)+8*k+8)=(8:Int)+8*k+8:=by rw[IntKind.wrap_i64];omega
   have Q2:Hid (q / 2=rwN (k+1)):=by show _=rwN k / 2;rw[unhide HQ]
   go_wp2
   go_roundw
   case rel=>exact⟨k+1,q / 2,by go_num,by go_num,by omega,Q2,by first|rfl|trivial⟩
   case measure=>simp[intOf];omega
  ·have R:Hid (r=(q:Int)):=by
    show _=_
    rw[unhide HE,unhide HQ]
    congr 2
    omega
   go_wp2
   go_ret
   exact⟨by rw[unhide R];rfl,Below.refl _ _⟩
end Go.Proofs.YtepmnpapdknocaaGreatDoor
