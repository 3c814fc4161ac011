/- The contracts of the reference's NamedAll and of the law's closed fact. -/
import Derived.Test.YtepmnpapdknocaaGreatDoorRefBlkToBookRef
import Derived.Deep.AppendLies
import Derived.Test.YtepmnpapdknocaaGreatDoorBookAllWToLockFlat
import Derived.Test.YtepmnpapdknocaaGreatDoorCoinCheckBToCoinInsert
import Derived.Test.YtepmnpapdknocaaGreatDoorTxStateToRefCheckA
import Derived.Test.YtepmnpapdknocaaGreatDoorCoinSpendBToBlkPrint
import Derived.Test.YtepmnpapdknocaaGreatDoorLockMathToLockFill
set_option maxHeartbeats 3200000
set_option maxRecDepth 10000
namespace Go.Proofs.YtepmnpapdknocaaGreatDoor.Bk
open Go.RowKit Go.Maps
theorem So{w:World}{base:Nat}{v:Value}{n:Nat}{N:List Int}(h:w.ownsRow base 3 1 v n (N.map (Value.int .i64))):∃ a cap,v = .slice a n cap∧SlOk a n cap∧IntsAt w a n N:=by
 have hl:N.length=n:=by have:=h.1;simpa using this
 rcases h.2 with ⟨rfl,rfl⟩|⟨g,cap,cur,rfl,_,_,h1,h2,_,_⟩
 ·have e:N=[]:=List.length_eq_zero_iff.1 hl
  subst e
  exact⟨none,0,rfl,SlOk.nil,IntsAt.nil _ _⟩
 ·refine⟨_,cap,rfl,⟨h1,h2,fun e=>by cases e⟩,hl,fun _=>⟨g,0,rfl,fun i hi=>?_⟩⟩
  rw[Nat.zero_add,World.ownsRow.cellAt h i (by omega)]
  simp[hi]
theorem namedAll_is(a al:Option Addr)(n c nl cl:Nat)(L l M:List ByteArray)(N:List Int)(x:Int)(w:World)(hR:Right L)(h:TextsAt w a n L)(hs:SlOk a n c)(hl:TextsAt w al nl l)(hnl:nl≤17592186044416)(hx:nmGo L [] l=(M,N,x)) :
  Calls Tryz.prog 38 #[.slice a n c,.slice al nl cl] w fun e w'=>(∃ a' n' c' a2 n2 c2,e = .returned (.tuple #[.slice a' n' c',.slice a2 n2 c2,.int .i64 x])∧TextsAt w' a' n' M∧SlOk a' n' c'∧IntsAt w' a2 n2 N∧n2≤nl∧n2≤c2)∧Below w.heap.size w w':=by
 obtain⟨i0,hi,hz0,hz1,hz2⟩:=info_parts Tryz.infoInt
 have HT:=hide h
 have HS:=hide hs
 have HLL:=hide hl
 have HNL:=hide hnl
 have HX:=hide hx
 have HR:=hide hR
 have OWN0:Hid (w.ownsRow w.heap.size 3 1 (.slice none 0 0) 0 (([]:List Int).map (Value.int .i64))):=⟨rfl,Or.inl ⟨rfl,rfl⟩⟩
 clear h hs hl hx hR
 go_enter Tryz.func38,Tryz.ntmps38
 go_wp2
 go_loopw [0,7,15] (fun t v i wr=>∃ (j:Nat) (L':List ByteArray) (N':List Int) (a':Option Addr) (n' c':Nat),j≤nl∧i = .int .i64 j∧t = .slice a' n' c'∧Below w.heap.size w wr∧Hid (TextsAt wr a' n' L'∧SlOk a' n' c')∧Hid (n'=0∨∀ y,a'=some y→v.ownBlock≠some y.block)∧Hid (wr.ownsRow w.heap.size 3 1 v j (N'.map (Value.int .i64)))∧Hid (Right L'∧nmGo L' N' (l.drop j)=(M,N,x))) (fun _ _ i _=>nl - (intOf i).toNat)
 case atStart=>exact⟨0,L,[],a,n,c,Nat.zero_le _,rfl,rfl,Below.refl _ _,⟨unhide HT,unhide HS⟩,(Or.inr (fun y _ e=>by cases e)),OWN0,⟨unhide HR,unhide HX⟩⟩
 case round=>
  obtain⟨j,L',N',a',n',c',hk,rfl,rfl,hbw,HT',HAP,HO,HN⟩:=hrel
  have HB:=hide hbw
  by_cases hlt:j<nl
  ·obtain⟨hz,hcs⟩:=unhide HLL
   obtain⟨b,off,rfl,hc⟩:=hcs (by omega)
   have hlj:j<l.length:=by omega
   have f:=cell_later hbw (hc j hlj)
   obtain⟨q2,q3⟩:=unhide HN
   rw[Cr hlj] at q3
   obtain⟨s,hs⟩:∃ s,l[j]=s:=⟨_,rfl⟩
   rw[hs] at f q3
   obtain⟨r,hr⟩:∃ r,nm L' s=r:=⟨_,rfl⟩
   rw[hr] at q3
   obtain⟨M',k',e'⟩:=r
   simp only at q3
   have CN:=hide (Zdi a' n' c' L' M' s k' e' _ q2.1 (unhide HT').1 (unhide HT').2 hr)
   have NR:Hid (e'=0→Right M'):=fun h=>by
    have:=Gv (L:=L') (s:=s) q2
    rw[hr] at this
    exact this h
   clear hs hc hcs hbw hr hz
   by_cases he:e'=0
   ·subst he
    rw[if_pos rfl] at q3
    have Q3:=hide q3
    have NR2:Hid (Right M'):=(unhide NR) rfl
    clear q3 q2 NR
    obtain⟨av,cv,rfl,sv,-⟩:=So (unhide HO)
    go_wp2_with fail
    refine (unhide CN).mono ?_
    rintro y w5 ⟨⟨a5,n5,c5,rfl,t1,t2,t3⟩,hb5⟩
    have AP5:Hid (n5=0∨∀ y,a5=some y→(Value.slice av j cv).ownBlock≠some y.block):=by
     rcases t3 with ⟨h1,h2⟩|h
     ·rw[h1,h2];exact unhide HAP
     ·refine Or.inr (fun y e e2=>?_)
      have h3:=((unhide HO).lt _ e2).2
      have h4:=h y e
      omega
    have T5:=hide t1
    have S5:=hide t2
    have HB5:=hide (bel_on (unhide HB) hb5)
    have hb6:=bel_new w5 (.cells #[.int .i64 k'] 3)
    have OWN5:=hide (own_type (own_type (unhide HO) (fun k cs _ hk=>hb5.block k (lt_of_block hk))) (fun k cs _ hk=>hb6.block k (lt_of_block hk)))
    have NEWS:=hide (World.news_of_block (heap_alloc_new w5 (.cells #[.int .i64 k'] 3)))
    have HB6:=hide (bel_on (unhide HB5) hb6)
    have T6:=hide ((unhide T5).later hb6)
    clear t1 t2 t3 hb5 hb6 sv
    go_wp2_with (at_builtin;refine wpList_append_lies _ rfl _ _ 30 rfl w.heap.size 3 i0 (.int .i64 0) 1 8 Tryz.underlying30 hi hz0 hz1 hz2 rfl (by decide) _ _ _ rfl (unhide OWN5) ⟨w5.heap.size,0,none⟩ 1 1 [.int .i64 k'] rfl rfl (unhide NEWS) (fun u hu=>by simp at hu;subst hu;rfl) (by decide) (by have:=unhide HNL;unfold maxLen;omega) (by have:=unhide HNL;omega) (unhide HB6).size _ rfl ?_;intro g7 cap7 w7 hown7 hgrow7 hor7 _)
    have OWN7:Hid (w7.ownsRow w.heap.size 3 1 (.slice (some ⟨g7,0,none⟩) (j+1) cap7) (j+1) ((N'++[k']).map (Value.int .i64))):=by
     show World.ownsRow _ _ _ _ _ _ _
     rw[List.map_append];exact hown7
    have hb7:=(unhide HB6).grown hgrow7 (unhide HB6).size (own_ge (unhide OWN5))
    have HB7:=hide hb7
    have T7:Hid (TextsAt w7 a5 n5 M'):=by
     refine⟨(unhide T6).1,fun h0=>?_⟩
     obtain⟨b',off',e',hc'⟩:=(unhide T6).2 h0
     refine⟨b',off',e',fun i hi=>?_⟩
     have h2:=hc' i hi
     rw[World.cell?_of_block (hgrow7.block b' (World.block_lt_of_cell? _ _ h2) (fun e=>by
      rcases unhide AP5 with h|h
      ·omega
      ·exact h _ e' e.symm))]
     exact h2
    have AP7:Hid (n5=0∨∀ y,a5=some y→(Value.slice (some ⟨g7,0,none⟩) (j+1) cap7).ownBlock≠some y.block):=by
     rcases Nat.eq_zero_or_pos n5 with h0|h0
     ·exact Or.inl h0
     ·refine Or.inr (fun y e e2=>?_)
      have e3:g7=y.block:=by injection e2
      rcases hor7 with h|h
      ·rcases unhide AP5 with h5|h5
       ·omega
       ·exact h5 y e (h.trans (by rw[e3]))
      ·have:=(unhide T6).lt y e h0
       omega
    clear hown7 hgrow7 hor7 hb7
    refine⟨⟨j+1,M',N'++[k'],a5,n5,c5,by omega,by go_num,rfl,unhide HB7,⟨unhide T7,unhide S5⟩,AP7,OWN7,⟨unhide NR2,unhide Q3⟩⟩,?_⟩
    simp[intOf];omega
   ·rw[if_neg he] at q3
    have e1:M=[]:=by injection q3 with q3 _;exact q3.symm
    have e2:N=[]:=by injection q3 with _ q3;injection q3 with q3 _;exact q3.symm
    have e3:x=e':=by injection q3 with _ q3;injection q3 with _ q3;exact q3.symm
    subst e1 e2 e3
    have g5:(x != 0)=true:=by simp[he]
    clear q3 q2
    go_wp2_with fail
    refine (unhide CN).mono ?_
    rintro y w5 ⟨⟨a5,n5,c5,rfl,-,-⟩,hb5⟩
    have HB5:=hide (bel_on (unhide HB) hb5)
    clear hb5
    go_wp2
    go_ret3
    exact⟨⟨_,_,_,_,_,_,rfl,TextsAt.nil _ _,SlOk.nil,IntsAt.nil _ _,Nat.zero_le _,Nat.le_refl _⟩,unhide HB5⟩
  ·have e:j=nl:=by omega
   subst e
   obtain⟨q2,q3⟩:=unhide HN
   rw[D8 (by rw[(unhide HLL).1];exact Nat.le_refl _)] at q3
   have e1:M=L':=by injection q3 with q3 _;exact q3.symm
   have e2:N=N':=by injection q3 with _ q3;injection q3 with q3 _;exact q3.symm
   have e3:x=0:=by injection q3 with _ q3;injection q3 with _ q3;exact q3.symm
   subst e1 e2 e3
   obtain⟨av,cv,rfl,sv,iv⟩:=So (unhide HO)
   have hsv1:=sv.1
   have IV:=hide iv
   clear q2 q3 iv sv hbw
   go_wp2
   go_ret3
   exact⟨⟨_,_,_,_,_,_,rfl,(unhide HT').1,(unhide HT').2,unhide IV,Nat.le_refl _,hsv1⟩,unhide HB⟩
end Go.Proofs.YtepmnpapdknocaaGreatDoor.Bk
namespace Go.Proofs.YtepmnpapdknocaaGreatDoor
open Go.RowKit
theorem Gw:∀ (l:List ByteArray) (L:List ByteArray) (N:List Int) (M:List ByteArray) (N':List Int),Bk.nmGo L N l=(M,N',0)→N'.length=N.length+l.length
 | [],L,N,M,N',h=>by
  unfold Bk.nmGo at h
  injection h with _ h
  injection h with h _
  subst h
  rfl
 | s :: r,L,N,M,N',h=>by
  unfold Bk.nmGo at h
  split at h
  ·have:=Gw r _ _ M N' h
   rw[this,List.length_append,List.length_cons,List.length_cons,List.length_nil]
   omega
  ·rename_i q
   injection h with _ h
   injection h with _ h
   exact absurd h q
theorem F8{L l M:List ByteArray}{N:List Int}(h:Bk.allR L l=(M,N,0)):N.length=l.length:=by
 unfold Bk.allR at h
 split at h
 ·have:=Gw l L [] M N h
  rw[this]
  simp
 ·rename_i q
  injection h with _ h
  injection h with _ h
  exact absurd h q
theorem V9(ka:Option Addr)(kn kc:Nat)(L:List ByteArray)(p h k n:Int)(a:Option Addr)(m c:Nat)(T:List TxD)(M:List ByteArray)(nm:Int)(N:List Int)(x:Int)(w:World)(hE:Env w)(hL:Bk.TextsAt w ka kn L)(hT:TxsAt w a m T)(hx:Wn L (p,h,k,n,T)=(M,nm,N,x)) :
  Calls Tryz.prog 5 #[.agg #[.slice ka kn kc],.agg #[.int .i64 p,.int .i64 h,.int .i64 k,.int .i64 n,.slice a m c]] w fun e w'=>NmR w w' M nm N x e:=by
 have hz:T.length=m:=hT.1
 unfold Wn at hx
 by_cases h0:Xq (p,h,k,n,T)=0
 ·rw[if_neg (by rw[h0];decide)] at hx
  obtain⟨⟨M',N',x'⟩,hr⟩:∃ r,Bk.allR L (Yy (p,h,k,n,T))=r:=⟨_,rfl⟩
  rw[hr] at hx
  simp only[hz] at hx
  have hlen:x'=0→N'.length=m+1:=fun e=>by
   subst e
   rw[F8 hr]
   unfold Yy
   simp[hz]
  by_cases hx0:x'=0
  ·subst hx0
   rw[if_neg (by decide)] at hx
   injection hx with e1 e2
   injection e2 with e2 e3
   injection e3 with e3 e4
   subst e1 e2 e3 e4
   exact Gx ka kn kc L p h k n a m c T M' N' 0 w hE hL hT h0 hr hlen _ _ _ (if_pos rfl)
  ·rw[if_pos hx0] at hx
   injection hx with e1 e2
   injection e2 with e2 e3
   injection e3 with e3 e4
   subst e1 e2 e3 e4
   exact Gx ka kn kc L p h k n a m c T M' N' x' w hE hL hT h0 hr hlen _ _ _ (if_neg hx0)
 ·rw[if_pos h0] at hx
  injection hx with e1 e2
  injection e2 with e2 e3
  injection e3 with e3 e4
  subst e1 e2 e3
  exact Zam ka kn kc p h k n a m c T x w hT e4 (by rw[←e4];exact h0)
def nfD(K:List ByteArray)(C:List Zb)(b:Uo):List Int×Int:=if Zh C≠0 then ([],Zh C) else ((Wn K b).2.2.1,(Wn K b).2.2.2)
def NfR(w w':World)(N:List Int)(x:Int)(e:Ending):Prop:=∃ a n c,e = .returned (.tuple #[.slice a n c,.int .i64 x])∧Bk.IntsAt w' a n N∧n≤c∧Below w.heap.size w w'
theorem Q9(ka:Option Addr)(kn kc:Nat)(L:List ByteArray)(la:Option Addr)(ln lc:Nat)(C:List Zb)(p h k n:Int)(a:Option Addr)(m c:Nat)(T:List TxD)(N:List Int)(x:Int)(w:World)(hE:Env w)(hL:Bk.TextsAt w ka kn L)(hC:CoinsAt w la ln C)(hT:TxsAt w a m T)(hx:nfD L C (p,h,k,n,T)=(N,x)) :
  Calls Tryz.prog 27 #[.agg #[.slice ka kn kc],.slice la ln lc,.agg #[.int .i64 p,.int .i64 h,.int .i64 k,.int .i64 n,.slice a m c]] w fun e w'=>NfR w w' N x e:=by
 obtain⟨X,hX⟩:∃ X,X=(w.alloc (.cells #[.slice ka kn kc] 24)).alloc (.cells #[.int .i64 p,.int .i64 h,.int .i64 k,.int .i64 n,.slice a m c] 28):=⟨_,rfl⟩
 have hbX:Below w.heap.size w X:=by rw[hX];exact bel_on (bel_new _ _) (bel_new _ _)
 have hX1:X.heap[w.heap.size]? = some (.cells [.slice ka kn kc].toArray 24 (0,0)):=by
  rw[hX,Below.heap_alloc _ _ _ (by simp)];exact Y3 _ _ _
 have hX2:X.heap[w.heap.size+1]? = some (.cells [.int .i64 p,.int .i64 h,.int .i64 k,.int .i64 n,.slice a m c].toArray 28 (0,0)):=by
  rw[hX]
  have:=Yd (w.alloc (.cells #[.slice ka kn kc] 24)) (.int .i64 p) (.int .i64 h) (.int .i64 k) (.int .i64 n) (.slice a m c) 28
  rw[show (w.alloc (.cells #[.slice ka kn kc] 24)).heap.size=w.heap.size+1 by simp] at this
  exact this
 obtain⟨y,hy⟩:∃ y,Zh C=y:=⟨_,rfl⟩
 have CK:=hide (Qd la ln lc C y X (hC.later hbX) hy)
 have HX1:=hide hX1
 have HX2:=hide hX2
 have HBX:=hide hbX
 unfold nfD at hx
 rw[hy] at hx
 by_cases hy0:y=0
 ·subst hy0
  rw[if_neg (by decide)] at hx
  obtain⟨⟨M,nm,N',x'⟩,hr⟩:∃ r,Wn L (p,h,k,n,T)=r:=⟨_,rfl⟩
  rw[hr] at hx
  injection hx with e1 e2
  simp only at e1 e2
  subst e1 e2
  have NA:=hide (fun W (hb:Below X.heap.size X W)=>V9 ka kn kc L p h k n a m c T M nm N' x' W ((hE.later hbX).later hb) ((hL.later hbX).later hb) ((hT.later hbX).later hb) hr)
  clear hE hL hC hT hy hr hX1 hX2 hbX
  go_enter Tryz.func27,Tryz.ntmps27
  go_wp2_with fail
  rw[←hX]
  clear hX
  refine (unhide CK).mono ?_
  rintro e w1 ⟨rfl,hb1⟩
  have h1:=(hb1.block _ (lt_of_block (unhide HX1))).trans (unhide HX1)
  have h2:=(hb1.block _ (lt_of_block (unhide HX2))).trans (unhide HX2)
  have k0:=Za h1 0 _ rfl
  have b0:=Za h2 0 _ rfl
  have b1:=Za h2 1 _ rfl
  have b2:=Za h2 2 _ rfl
  have b3:=Za h2 3 _ rfl
  have b4:=Za h2 4 _ rfl
  have l1:=lt_of_block h1
  have l2:=lt_of_block h2
  have N1:=hide ((unhide NA) w1 hb1)
  have HB1:=hide (bel_on (unhide HBX) hb1)
  clear hb1 h1 h2 CK NA
  go_wp2_with fail
  refine (unhide N1).mono ?_
  rintro e w2 ⟨a',n',c',a2,n2,c2,rfl,_,_,hI,hc,hb2⟩
  have HF:Hid (NfR w (w2.alloc (.cells #[.slice a' n' c'] 24)) N' x' (.returned (.tuple #[.slice a2 n2 c2,.int .i64 x']))):=⟨a2,n2,c2,rfl,hI.later (bel_new _ _),hc,bel_on (bel_on (unhide HB1) hb2) (bel_new _ _)⟩
  clear hI hc hb2
  go_wp2
  go_ret2
  exact unhide HF
 ·rw[if_pos hy0] at hx
  injection hx with e1 e2
  subst e1 e2
  have gy:(y != 0)=true:=by simp[hy0]
  clear hE hL hC hT hy hX1 hX2 hbX hy0
  go_enter Tryz.func27,Tryz.ntmps27
  go_wp2_with fail
  rw[←hX]
  clear hX
  refine (unhide CK).mono ?_
  rintro e w1 ⟨rfl,hb1⟩
  have HF:Hid (NfR w w1 [] y (.returned (.tuple #[.slice none 0 0,.int .i64 y]))):=⟨none,0,0,rfl,Bk.IntsAt.nil _ _,Nat.le_refl _,bel_on (unhide HBX) hb1⟩
  clear hb1
  go_wp2
  go_ret2
  exact unhide HF
theorem Sl:∀ (l L:List ByteArray) (N:List Int) (M:List ByteArray) (N':List Int),Bk.nmGo L N l=(M,N',0)→N'=N++l.map (fun s=>(Bk.place s M:Int))∧∀ s∈l,0<Bk.place s M∧s.size≤4000
 | [],L,N,M,N',h=>by
  unfold Bk.nmGo at h
  injection h with _ h
  injection h with h _
  exact⟨by simp[h],fun s hs=>by cases hs⟩
 | s :: r,L,N,M,N',h=>by
  rw[Bk.nmGo] at h
  split at h
  ·next q=>
   obtain⟨p1,p2,p3⟩:=Bk.nm_place q
   obtain⟨X,hX⟩:=Bk.nmGo_grows r (Bk.nm L s).1 (N++[(Bk.nm L s).2.1]) (by rw[h])
   rw[h] at hX
   simp only at hX
   obtain⟨h1,h2⟩:=Sl r _ _ M N' h
   have e:Bk.place s M=Bk.place s (Bk.nm L s).1:=by rw[hX];exact Bk.place_stays X p2
   refine⟨?_,fun z hz=>?_⟩
   ·rw[h1,List.append_assoc,p1,←e]
    rfl
   ·rcases List.mem_cons.1 hz with rfl|hz
    ·exact⟨by rw[e];exact p2,p3⟩
    ·exact h2 z hz
  ·next q=>
   injection h with _ h
   injection h with _ h
   exact absurd h q
theorem Md{K l X:List ByteArray}{N:List Int}(h:Bk.allR K l=(X,N,0)):Bk.Right K∧Bk.nmGo K [] l=(X,N,0):=by
 unfold Bk.allR at h
 split at h
 ·next q=>exact⟨(Bk.right_iff K).1 q,h⟩
 ·next q=>
  injection h with _ h
  injection h with _ h
  exact absurd h q
theorem Ca{K l X:List ByteArray}{N:List Int}(h:Bk.allR K l=(X,N,0)):Bk.Right X∧∃ M,X=K++M:=by
 obtain⟨h1,h2⟩:=Md h
 have r:=Bk.nmGo_right l K [] h1 (by rw[h2])
 have g:=Bk.nmGo_grows l K [] (by rw[h2])
 rw[h2] at r g
 exact⟨r,g⟩
theorem Uh{K:List ByteArray}{b:Uo}{X:List ByteArray}{n:Int}{ns:List Int}(h:Wn K b=(X,n,ns,0)):Xq b=0∧Bk.Right X∧(∀ s∈Yy b,0<Bk.place s X∧s.size≤4000)∧n=(Bk.place (Wy b) X:Int)∧ns=b.2.2.2.2.map (fun t=>(Bk.place (Zv t) X:Int))∧∃ M,X=K++M:=by
 unfold Wn at h
 split at h
 ·next q=>
  injection h with _ h
  injection h with _ h
  injection h with _ h
  exact absurd h q
 ·next q=>
  split at h
  ·next q2=>
   injection h with _ h
   injection h with _ h
   injection h with _ h
   exact absurd h q2
  ·next q2=>
   obtain⟨X',N,x,e⟩:∃ X' N x,Bk.allR K (Yy b)=(X',N,x):=⟨_,_,_,rfl⟩
   rw[e] at h q2
   obtain rfl:x=0:=Decidable.not_not.1 q2
   injection h with h1 h
   injection h with h2 h
   injection h with h3 _
   simp only at h1 h2 h3
   subst h1
   obtain⟨r,g⟩:=Ca e
   obtain⟨p1,p2⟩:=Sl _ _ _ _ _ (Md e).2
   rw[List.nil_append] at p1
   refine⟨Decidable.not_not.1 q,r,p2,?_,?_,g⟩
   ·rw[←h2,p1]
    simp[Yy]
   ·rw[←h3,p1]
    simp[Yy]
def Vu:List (Int×Int)→List Value
 | []=>[]
 | o :: r=>.int .i64 o.1 :: .int .i64 o.2 :: Vu r
theorem Qb:∀ l:List (Int×Int),(Vu l).length=l.length*2
 | []=>rfl
 | _ :: r=>by simp only[Vu,List.length_cons,Qb r];omega
theorem Hf:∀ (l:List (Int×Int)) (i:Nat),i<l.length→(Vu l)[i*2]? = some (.int .i64 (l.getD i (0,0)).1)∧(Vu l)[i*2+1]? = some (.int .i64 (l.getD i (0,0)).2)
 | [],_,h=>absurd h (by simp)
 | o :: r,0,_=>⟨rfl,rfl⟩
 | o :: r,i+1,h=>by
  have:=Hf r i (by simpa using h)
  rw[show (i+1)*2=i*2+2 by omega]
  simpa[Vu] using this
theorem Lo:∀ (l:List (Int×Int)) (u:Value),u∈Vu l→u.oneCell'=true
 | [],u,h=>by cases h
 | o :: r,u,h=>by
  simp only[Vu,List.mem_cons] at h
  rcases h with rfl|rfl|h
  ·rfl
  ·rfl
  ·exact Lo r u h
theorem Fm{w:World}{b off n:Nat}{l:List (Int×Int)}(hz:l.length=n)(hc:∀ i,i<n→w.cell? ⟨b,off+i*2,none⟩=some (.int .i64 (l.getD i (0,0)).1)∧w.cell? ⟨b,off+i*2+1,none⟩=some (.int .i64 (l.getD i (0,0)).2))(j:Nat)(u:Value)(hj:(Vu l)[j]? = some u):w.cell? ⟨b,off+j,none⟩=some u:=by
 have hjl:j<l.length*2:=by rw[←Qb];exact (List.getElem?_eq_some_iff.1 hj).1
 obtain⟨f0,f1⟩:=Hf l (j / 2) (by omega)
 obtain⟨c0,c1⟩:=hc (j / 2) (by omega)
 rcases (show j % 2=0∨j % 2=1 by omega) with q|q
 ·have e:j=j / 2*2:=by omega
  rw[←e] at f0 c0
  rw[f0] at hj
  rw[c0,←hj]
 ·have e:j=j / 2*2+1:=by omega
  rw[←e] at f1
  rw[show off+j / 2*2+1=off+j by omega] at c1
  rw[f1] at hj
  rw[c1,←hj]
theorem Zfi{w:World}{base:Nat}{v:Value}{n:Nat}{l:List (Int×Int)}(h:w.ownsRow base 148 2 v n (Vu l)):∃ a c,v = .slice a n c∧OpsAt w a n l∧SlOk a n c∧(∀ ad,a=some ad→base≤ad.block):=by
 have hl:l.length=n:=by have:=h.1;rw[Qb] at this;omega
 rcases h.2 with ⟨rfl,rfl⟩|⟨g,cap,cur,rfl,hg,hh,h1,h2,h3,h4⟩
 ·exact⟨none,0,rfl,⟨hl,fun h=>absurd h (by omega)⟩,⟨Nat.le_refl _,Nat.zero_le _,fun _=>⟨rfl,rfl⟩⟩,fun ad e=>by cases e⟩
 ·refine⟨_,cap,rfl,⟨hl,fun _=>⟨g,0,rfl,fun i hi=>?_⟩⟩,⟨h1,h2,fun e=>by cases e⟩,fun ad e=>by cases e;exact hg⟩
  obtain⟨f0,f1⟩:=Hf l i (by omega)
  rw[Nat.zero_add,World.ownsRow.cellAt h _ (by omega),World.ownsRow.cellAt h _ (by omega)]
  exact⟨f0,f1⟩
theorem Tryz.infoOpC:(Tryz.prog.info? 148).map (fun i=>(i.zero,i.size,i.bytes))=some (some (.agg #[.int .i64 0,.int .i64 0]),2,16):=by kernel_rfl
theorem Fx(w:World):Calls Tryz.prog 182 #[.slice none 0 0] w fun e w'=>e = .returned (.slice none 0 0)∧w=w':=by
 have he:=fun w=>Lib.run_eql_slice_nil (P:=Tryz.prog) w 82 148 none 0 0 0 0 Tryz.underlying82
 go_enter Tryz.func182,Tryz.ntmps182
 go_wp2
 go_ret
 exact⟨rfl,rfl⟩
theorem Nb(ad:Addr)(n c:Nat)(l:List (Int×Int))(w:World)(hn:n≤4096)(hz:l.length=n)(hc:∀ j u,(Vu l)[j]? = some u→w.cell? (ad.add j)=some u) :
  Calls Tryz.prog 182 #[.slice (some ad) n c] w fun e w'=>∃ v,e = .returned v∧w'.ownsRow w.heap.size 148 2 v n (Vu l)∧Below w.heap.size w w':=by
 obtain⟨i0,hi,hz0,hz1,hz2⟩:=info_parts Tryz.infoOpC
 have hb:=bel_new w (.cells #[] 148)
 have HC:Hid (∀ j u,(Vu l)[j]? = some u→(w.alloc (.cells #[] 148)).cell? (ad.add j)=some u):=fun j u hj=>cell_later hb (hc j u hj)
 have HB:=hide hb
 have HZ:=hide hz
 have HO:=hide (Cn w 148 2)
 have he:=fun w=>Lib.run_eql_slice_nil (P:=Tryz.prog) w 82 148 (some ad) n c 0 0 Tryz.underlying82
 clear hc hb hz
 go_enter Tryz.func182,Tryz.ntmps182
 go_wp2_with (at_builtin;refine wpList_append_own _ rfl _ _ 82 rfl w.heap.size 148 i0 (.agg #[.int .i64 0,.int .i64 0]) 2 16 Tryz.underlying82 hi hz0 hz1 hz2 rfl (by decide) _ _ _ rfl (unhide HO) ad n c (Vu l) rfl (by rw[Qb,unhide HZ]) (unhide HC) (Lo l) (by unfold maxLen;omega) (by omega) (unhide HB).size ?_;intro v2 w3 hown3 hgrow3 _)
 have HW:Hid (w3.ownsRow w.heap.size 148 2 v2 n (Vu l)):=by show World.ownsRow _ _ _ _ _ _ _;simpa using hown3
 have HB3:=hide ((unhide HB).grown hgrow3 (unhide HB).size (Yp (unhide HO)))
 clear hown3 hgrow3
 go_wp2
 go_ret
 exact⟨v2,rfl,unhide HW,unhide HB3⟩
theorem Fy(a:Option Addr)(n c:Nat)(l:List (Int×Int))(w:World)(hn:n≤4096)(h:OpsAt w a n l)(hs:SlOk a n c) :
  Calls Tryz.prog 182 #[.slice a n c] w fun e w'=>∃ a' c',e = .returned (.slice a' n c')∧OpsAt w' a' n l∧SlOk a' n c'∧(∀ ad,a'=some ad→w.heap.size≤ad.block)∧Below w.heap.size w w':=by
 obtain⟨hl,hc⟩:=h
 cases a with
 | none=>
  obtain⟨rfl,rfl⟩:=hs.2.2 rfl
  exact (Fx w).mono fun e w' ⟨x,y⟩=>⟨none,0,x,⟨hl,fun h=>absurd h (by omega)⟩,hs,fun ad e=>(by cases e),y ▸ Below.refl _ _⟩
 | some ad=>
  have hc2:∀ j u,(Vu l)[j]? = some u→w.cell? (ad.add j)=some u:=fun j u hj=>by
   have hjl:j<l.length*2:=by rw[←Qb];exact (List.getElem?_eq_some_iff.1 hj).1
   obtain⟨b,off,e,hcell⟩:=hc (by omega)
   cases e
   rw[Addr.add_lit]
   exact Fm hl hcell j u hj
  refine (Nb ad n c l w hn hl hc2).mono ?_
  rintro e w' ⟨v,rfl,x,y⟩
  obtain⟨a',c',rfl,h1,h2,h3⟩:=Zfi x
  exact⟨a',c',rfl,h1,h2,h3,y⟩
theorem Js{fn:Func}{p:Tmp}{ty:TypeId}(h:fn.results=#[.cell p ty])(tmps:Array Value)(P:Program)(w:World) :
  (results fn tmps).run P w=((asAddr (tmps.getD p undef)).run P w).andThen fun a w₁=>(loadVar ty a).run P w₁:=by
 simp only[results,h]
 simp[Sem.run_bind,Result.andThen]
theorem OpsAt.gr{w w':World}{S:Nat→Prop}{a:Option Addr}{n:Nat}{l:List (Int×Int)}(h:OpsAt w a n l)(g:Gr w w' S)(hn:∀ ad,a=some ad→¬S ad.block):OpsAt w' a n l:=by
 refine⟨h.1,fun h0=>?_⟩
 obtain⟨b,off,rfl,hc⟩:=h.2 h0
 refine⟨b,off,rfl,fun i hi=>?_⟩
 obtain⟨c0,c1⟩:=hc i hi
 have hb:=g.block b (World.block_lt_of_cell? _ _ c0) (hn _ rfl)
 exact⟨(World.cell?_of_block (a:=⟨b,off+i*2,none⟩) hb).trans c0,(World.cell?_of_block (a:=⟨b,off+i*2+1,none⟩) hb).trans c1⟩
theorem Ax(x:Int)(a:Option Addr)(n c:Nat)(l:List (Int×Int))(w:World)(hn:n≤4096)(h:OpsAt w a n l)(hs:SlOk a n c) :
  Calls Tryz.prog 145 #[.agg #[.int .i64 x,.slice a n c]] w fun e w'=>∃ a' c',e = .returned (.agg #[.int .i64 x,.slice a' n c'])∧OpsAt w' a' n l∧SlOk a' n c'∧(∀ ad,a'=some ad→w.heap.size≤ad.block)∧Below w.heap.size w w':=by
 obtain⟨X,hX⟩:∃ X,X=(w.alloc (.cells #[.int .i64 x,.slice a n c] 84)).alloc (.cells #[.int .i64 0,.slice none 0 0] 84):=⟨_,rfl⟩
 have hbX:Below w.heap.size w X:=by rw[hX];exact bel_on (bel_new _ _) (bel_new _ _)
 have x0:X.cell? ⟨w.heap.size,0,none⟩=some (.int .i64 x):=by rw[hX];exact cell_later (bel_new _ _) (Yj w _ _ _).1
 have x1:X.cell? ⟨w.heap.size,1,none⟩=some (.slice a n c):=by rw[hX];exact cell_later (bel_new _ _) (Yj w _ _ _).2
 have hX1:X.heap[w.heap.size+1]? = some (.cells [.int .i64 0,.slice none 0 0].toArray 84 (0,0)):=by
  rw[hX]
  have:=heap_alloc_new (w.alloc (.cells #[.int .i64 x,.slice a n c] 84)) (.cells #[.int .i64 0,.slice none 0 0] 84)
  rw[show (w.alloc (.cells #[.int .i64 x,.slice a n c] 84)).heap.size=w.heap.size+1 by simp] at this
  exact this
 have C:=hide (Fy a n c l X.drew hn (h.later (bel_on hbX (Zc X))) hs)
 have HX1:=hide hX1
 have HBX:=hide hbX
 clear h hs hbX hX1
 go_enter Tryz.func145,Tryz.ntmps145
 go_wp2_with fail
 rw[←hX]
 clear hX
 go_region_with (go_at_call 182;refine (unhide C).mono ?_;rintro e w3 ⟨a',c',rfl,ho3,hs3,hb3',hb3⟩;have o2:w3.cell? ⟨w.heap.size,0,none⟩=some (.int .i64 x):=cell_later hb3 (cell_later (Zc _) x0);have hz3:=(hb3.block _ (lt_of_block (unhide HX1))).trans (unhide HX1);have c0:=Za hz3 0 _ rfl;have c1:=Za hz3 1 _ rfl;have f0:=Zd hz3 0;have f1:=Zd hz3 1;have H3:Hid (OpsAt w3 a' n l∧SlOk a' n c'∧(∀ ad,a'=some ad→X.heap.size≤ad.block)∧Below X.drew.heap.size X.drew w3):=⟨ho3,hs3,hb3',hb3⟩;clear ho3 hs3 hb3' hb3 hz3)
 all_goals
  go_wp2
  (try simp only[Exit.inBlock,Exit.then])
  obtain⟨ho3,hs3,hb3',hb3⟩:=unhide H3
  have hG:=((Gr.refl w3 (fun q=>q=w.heap.size+1)).one (w.heap.size+1) 0 (.inl rfl) (.int .i64 x)).one (w.heap.size+1) 1 (.inl rfl) (.slice a' n c')
  have hlt:=lt_of_block (unhide HX1)
  refine bodyPost_ret (v:=.agg #[.int .i64 x,.slice a' n c']) ?_ rfl ⟨a',c',rfl,ho3.gr hG (fun ad e q=>?_),hs3,fun ad e=>?_,?_⟩
  ·rw[Js rfl]
   go_simp
  ·have:=hb3' ad e;omega
  ·have:=hb3' ad e;omega
  ·have hsz:X.heap.size≤w3.heap.size:=hb3.size
   exact hG.below (bel_on (bel_on (unhide HBX) (Zc _)) hb3) (by omega) (fun k hk=>by omega)
theorem Fv(x:Zb)(a:Option Addr)(n c:Nat)(w:World)(hn:n≤4096)(h:OpsAt w a n (ck x))(hs:SlOk a n c) :
  Calls Tryz.prog 115 #[cnV x a n c] w fun e w'=>∃ a' c',e = .returned (cnV x a' n c')∧OpsAt w' a' n (ck x)∧SlOk a' n c'∧(∀ ad,a'=some ad→w.heap.size≤ad.block)∧Below w.heap.size w w':=by
 unfold cnV
 obtain⟨X,hX⟩:∃ X,X=(w.alloc (.cells #[.int .i64 x.1,.int .i64 x.2.1,.int .i64 (cv x),.slice a n c,.int .i64 (ch x),.bool (cr x)] 88)).alloc (.cells #[.int .i64 0,.int .i64 0,.int .i64 0,.slice none 0 0,.int .i64 0,.bool false] 88):=⟨_,rfl⟩
 have hbX:Below w.heap.size w X:=by rw[hX];exact bel_on (bel_new _ _) (bel_new _ _)
 have hX0:X.heap[w.heap.size]? = some (.cells [.int .i64 x.1,.int .i64 x.2.1,.int .i64 (cv x),.slice a n c,.int .i64 (ch x),.bool (cr x)].toArray 88 (0,0)):=by
  rw[hX,Below.heap_alloc _ _ _ (by simp)];exact Uf _ _ _ _ _ _ _ _
 have hX1:X.heap[w.heap.size+1]? = some (.cells zeroCs.toArray 88 (0,0)):=by
  rw[hX]
  have:=heap_alloc_new (w.alloc (.cells #[.int .i64 x.1,.int .i64 x.2.1,.int .i64 (cv x),.slice a n c,.int .i64 (ch x),.bool (cr x)] 88)) (.cells zeroCs.toArray 88)
  rw[show (w.alloc (.cells #[.int .i64 x.1,.int .i64 x.2.1,.int .i64 (cv x),.slice a n c,.int .i64 (ch x),.bool (cr x)] 88)).heap.size=w.heap.size+1 by simp] at this
  exact this
 have C:=hide (Ax (cv x) a n c (ck x) X hn (h.later hbX) hs)
 have HX0:=hide hX0
 have HX1:=hide hX1
 have HBX:=hide hbX
 have x2:=Za hX0 2 _ rfl
 have x3:=Za hX0 3 _ rfl
 clear h hs hbX hX1 hX0
 go_enter Tryz.func115,Tryz.ntmps115
 go_wp2_with fail
 rw[←hX]
 clear hX x2 x3
 refine (unhide C).mono ?_
 rintro e w3 ⟨a',c',rfl,ho3,hs3,hb3',hb3⟩
 have h0:=(hb3.block _ (lt_of_block (unhide HX0))).trans (unhide HX0)
 have h1:=(hb3.block _ (lt_of_block (unhide HX1))).trans (unhide HX1)
 have c0:=Za h0 0 _ rfl
 have c1:=Za h0 1 _ rfl
 have c2:=Za h0 2 _ rfl
 have c3:=Za h0 3 _ rfl
 have c4:=Za h0 4 _ rfl
 have c5:=Za h0 5 _ rfl
 have f2:=Zd h0 2
 have f3:=Zd h0 3
 have z0:=Za h1 0 _ rfl
 have z1:=Za h1 1 _ rfl
 have z2:=Za h1 2 _ rfl
 have z3:=Za h1 3 _ rfl
 have z4:=Za h1 4 _ rfl
 have z5:=Za h1 5 _ rfl
 have y0:=Zd h1 0
 have y1:=Zd h1 1
 have y2:=Zd h1 2
 have y3:=Zd h1 3
 have y4:=Zd h1 4
 have y5:=Zd h1 5
 have HX2:Hid (w.heap.size+1<X.heap.size):=lt_of_block (unhide HX1)
 have H3:Hid (OpsAt w3 a' n (ck x)∧SlOk a' n c'∧(∀ ad,a'=some ad→X.heap.size≤ad.block)∧Below X.heap.size X w3):=⟨ho3,hs3,hb3',hb3⟩
 clear ho3 hs3 hb3' hb3 h0 h1
 go_wp2
 (try simp only[Exit.inBlock,Exit.then])
 obtain⟨ho3,hs3,hb3',hb3⟩:=unhide H3
 have hlt:=unhide HX2
 have hG:=(((Gr.refl w3 (fun q=>q=w.heap.size∨q=w.heap.size+1)).one w.heap.size 2 (.inl (.inl rfl)) (.int .i64 (cv x))).one w.heap.size 3 (.inl (.inl rfl)) (.slice a' n c')).six (w.heap.size+1) (.inl (.inr rfl)) (.int .i64 x.1) (.int .i64 x.2.1) (.int .i64 (cv x)) (.slice a' n c') (.int .i64 (ch x)) (.bool (cr x))
 refine bodyPost_ret (v:=.agg #[.int .i64 x.1,.int .i64 x.2.1,.int .i64 (cv x),.slice a' n c',.int .i64 (ch x),.bool (cr x)]) ?_ rfl ⟨a',c',rfl,ho3.gr hG (fun ad e q=>?_),hs3,fun ad e=>?_,?_⟩
 ·rw[Js rfl]
  go_simp
 ·have:=hb3' ad e;rcases q with q|q <;> omega
 ·have:=hb3' ad e;omega
 ·exact hG.below (bel_on (unhide HBX) hb3) (Nat.le_of_lt (Nat.lt_of_lt_of_le (by omega) hb3.size)) (fun k hk=>by rcases hk with q|q <;> omega)
end Go.Proofs.YtepmnpapdknocaaGreatDoor
