/- The contract of checkBlocks. -/
import Derived.Test.YtmomfkikogbdeaaGreatDoorNodReadToNodM
namespace Go.Proofs.YtmomfkikogbdeaaGreatDoor
open Go.RowKit
section
variable {Z : Nat → Prop} {w : World} {d bm : Nat} {ka na ba pa : Option Addr} {kn kc nn nc bn bc pn pc : Nat} {K : List ByteArray} {N : List Int} {T : List Zg} {P : List TxD} {tip : Int}
structure CbS(Z:Nat→Prop)(w wr:World)(d bm:Nat)(ka:Option Addr)(kn kc:Nat)(K:List ByteArray)(na:Option Addr)(nn nc:Nat)(N:List Int)(ba:Option Addr)(bn bc:Nat)(T:List Zg)(pa:Option Addr)(pn pc:Nat)(P:List TxD)(tip:Int)(β : Int→List Zd)(k:Nat):Prop where
 gr:Gr w wr (fun q=>q=bm)
 all:∃ f γ,DeskAt Z wr d bm k ka kn kc K na nn nc N ba bn bc T pa pn pc P tip f γ∧Xf K N T β = Xf K (N.drop k) (T.drop k) γ
set_option maxRecDepth 10000 in
set_option maxHeartbeats 6400000 in
theorem My{f:Int→Value}{β : Int→List Zd}(h:DeskAt Z w d bm 0 ka kn kc K na nn nc N ba bn bc T pa pn pc P tip f β)(win:World)(hwin:Below win.heap.size win w)(hbm:win.heap.size≤bm)(hE:Env win)(hl:N.length=T.length)(h24:N.length≤24)(hN:∀ x∈N,(Lit.int .i64 x).wf=true)(hT:∀ b∈T,(Lit.int .i64 b.1).wf=true)(x:Int)(γ : Int→List Zd)(hx:Xf K N T β = (x,γ)) :
  Calls Tryz.prog 172 #[.pointer (some ⟨d,0,none⟩)] w fun e w'=>e = .returned (.int .i64 x)∧Gr w w' (fun q=>q=bm)∧(x=0→∃ f',DeskAt Z w' d bm N.length ka kn kc K na nn nc N ba bn bc T pa pn pc P tip f' γ):=by
 have hnn:N.length=nn:=h.now.n.1
 have hbn:T.length=bn:=h.now.b.1
 have ST:Hid (CbS Z w w d bm ka kn kc K na nn nc N ba bn bc T pa pn pc P tip β 0):=⟨Gr.refl _ _,f,β,h,rfl⟩
 have HX:=hide hx
 have HE:=hide hE
 have HWIN:=hide hwin
 have HNN:=hide hnn
 have HBN:=hide hbn
 have HL:=hide hl
 have HN:=hide hN
 have HTT:=hide hT
 have d1:=Za h.box 1 _ rfl
 have dl:=lt_of_block h.box
 have hne:=h.ne
 have hnl:nn≤24:=by omega
 clear h hx hE hwin hnn hbn hN hT
 go_enter Tryz.func172,Tryz.ntmps172
 go_wp2
 go_loopw [14] (fun i wr=>∃ k:Nat,k≤nn∧i = .int .i64 k∧Hid (CbS Z w wr d bm ka kn kc K na nn nc N ba bn bc T pa pn pc P tip β k)) (fun i _=>nn - (intOf i).toNat)
 case atStart=>exact⟨0,Nat.zero_le _,rfl,ST⟩
 case round=>
  obtain⟨k,hk,rfl,HS⟩:=hrel
  by_cases hlt:k<nn
  ·obtain⟨hg,g,δ,hD,hC⟩:=unhide HS
   have hkN:k<N.length:=by rw[unhide HNN];exact hlt
   have hkT:k<T.length:=by rw[←unhide HL];exact hkN
   have hkb:k<bn:=by rw[←unhide HBN];exact hkT
   have hin:Below win.heap.size win wr:=hg.below (unhide HWIN) (unhide HWIN).size (fun q e=>by have e:q=bm:=e;omega)
   obtain⟨nb,no,rfl,_,hnc⟩:=hD.now.n.2 (by omega)
   obtain⟨bb,bo,rfl,hbl,hbr⟩:=hD.now.b.2 (by rw[←unhide HBN];omega)
   have n0:=hnc k hkN
   obtain⟨b0,b1,b2,b3,ta,tn,tc,b4,hTx,sTx⟩:=hbr k hkT
   have hwN:=(unhide HN) _ (List.getElem_mem hkN)
   have hwT:=(unhide HTT) _ (List.getElem_mem hkT)
   rw[Zbb hkN hkT] at hC
   obtain⟨s,hs⟩:∃ s,N[k]=s:=⟨_,rfl⟩
   obtain⟨⟨bp,bh,bw,bon,bT⟩,hb⟩:∃ b,T[k]=b:=⟨_,rfl⟩
   rw[hs] at n0 hwN hC
   rw[hb] at b0 b1 b2 b3 hTx hwT hC
   simp only at b0 b1 b2 b3 hTx hwT hC
   obtain⟨y,hy⟩:∃ y,kbD K s (bp,bh,bw,bon,bT)=y:=⟨_,rfl⟩
   obtain⟨⟨z,C',U'⟩,hz⟩:∃ r,Uh K (δ bp) (bp,bh,bw,bon,bT)=r:=⟨_,rfl⟩
   rw[hy,hz] at hC
   simp only at hC
   have nl:=World.block_lt_of_cell? _ _ n0
   have dd2:=Za hD.box 2 _ rfl
   have ddl:=lt_of_block hD.box
   obtain⟨Y,hY⟩:∃ Y,Y=wr.alloc (.cells #[.int .i64 bp,.int .i64 bh,.int .i64 bw,.int .i64 bon,.slice ta tn tc] 39):=⟨_,rfl⟩
   have hbY:Below wr.heap.size wr Y:=by rw[hY];exact bel_new _ _
   have hY0:Y.heap[wr.heap.size]? = some (.cells [.int .i64 bp,.int .i64 bh,.int .i64 bw,.int .i64 bon,.slice ta tn tc].toArray 39 (0,0)):=by rw[hY];exact Zl _ _ _ _ _ _ _
   have CK:=hide (Fi d K s bp bh bw bon ta tn tc bT y Y ((unhide HE).later (bel_on hin hbY)) (hD.later hbY).book (hTx.later hbY) sTx hy)
   have CC:=hide (fun V (hv:Below wr.heap.size wr V)=>Rb (hD.later hv) s bp bh bw bon ta tn tc bT z C' U' ((unhide HE).later (bel_on hin hv)) (hTx.later hv) (by omega) hwN hwT hz)
   have y0:=Za hY0 0 _ rfl
   have y1:=Za hY0 1 _ rfl
   have y2:=Za hY0 2 _ rfl
   have y3:=Za hY0 3 _ rfl
   have y4:=Za hY0 4 _ rfl
   have yl:=lt_of_block hY0
   have HG:=hide hg
   have HBY:=hide hbY
   have HY0:=hide hY0
   have HC:=hide hC
   clear hg hD hC hin hnc hbr hTx sTx hwN hwT hs hb hy hz hbY hY0 HS
   go_wp2_with fail
   rw[←hY]
   clear hY
   (try go_wp2_with fail)
   refine (unhide CK).mono ?_
   rintro e w2 ⟨rfl,hb2⟩
   have hw2:=bel_on (unhide HBY) hb2
   have D2:=hide ((unhide CC) w2 hw2)
   have q20:=(hb2.block _ (lt_of_block (unhide HY0))).trans (unhide HY0)
   have y0:=Za q20 0 _ rfl
   have y1:=Za q20 1 _ rfl
   have y2:=Za q20 2 _ rfl
   have y3:=Za q20 3 _ rfl
   have y4:=Za q20 4 _ rfl
   have yl:=lt_of_block q20
   have HG2:=hide ((unhide HG).on hw2)
   clear hb2 hw2 CK CC q20 n0 b0 b1 b2 b3 b4 dd2
   cases y
   ·have HXE:Hid (x=5):=by have q:=unhide HC;rw[if_pos rfl,unhide HX] at q;injection q with q _
    clear HC
    go_wp2
    go_ret
    exact⟨by rw[unhide HXE];rfl,unhide HG2,fun q=>absurd ((unhide HXE).symm.trans q) (by decide)⟩
   ·go_wp2_with fail
    refine (unhide D2).mono ?_
    rintro e w3 ⟨rfl,g',hD3,hg3⟩
    have HG3:=hide ((unhide HG2).trans hg3)
    have HD3:=hide hD3
    clear hD3 hg3 D2
    by_cases z0:z=0
    ·have REL:Hid (CbS Z w w3 d bm ka kn kc K (some ⟨nb,no,none⟩) nn nc N (some ⟨bb,bo,none⟩) bn bc T pa pn pc P tip β (k+1)):=by
      refine⟨unhide HG3,g',Qn δ s C',unhide HD3,?_⟩
      have q:=unhide HC
      rw[if_neg (by decide),if_neg (fun r=>r z0)] at q
      exact q
     subst z0
     clear HC HG3 HD3
     go_wp2
     go_roundw
     case rel=>exact⟨k+1,by omega,by go_num,REL⟩
     case measure=>simp[intOf];omega
    ·have gz:(z != 0)=true:=by simp[z0]
     have HXE:Hid (x=z):=by have q:=unhide HC;rw[if_neg (by decide),if_pos z0,unhide HX] at q;injection q with q _
     clear HC
     go_wp2
     go_ret
     exact⟨by rw[unhide HXE];rfl,unhide HG3,fun q=>absurd ((unhide HXE).symm.trans q) z0⟩
  ·have ek:k=nn:=by omega
   subst ek
   obtain⟨hg,g,δ,hD,hC⟩:=unhide HS
   rw[Cj (by rw[unhide HNN];exact Nat.le_refl _),unhide HX] at hC
   have HXE:Hid (x=0 ∧ γ = δ):=by injection hC with q1 q2;exact⟨q1,q2⟩
   have HG:=hide hg
   have HD:=hide hD
   clear hg hD hC HS
   go_wp2
   go_ret
   refine⟨by rw[(unhide HXE).1];rfl,unhide HG,fun _=>⟨g,?_⟩⟩
   rw[(unhide HXE).2,unhide HNN]
   exact unhide HD
end
end Go.Proofs.YtmomfkikogbdeaaGreatDoor
