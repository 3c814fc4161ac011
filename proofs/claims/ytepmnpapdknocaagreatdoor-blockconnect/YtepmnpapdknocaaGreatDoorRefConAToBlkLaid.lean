/- The contract of the reference's Connected, all ways. -/
import Derived.Test.YtepmnpapdknocaaGreatDoorRefCon
import Derived.Test.YtepmnpapdknocaaGreatDoorBlkDisAToRefRew
import Derived.Test.YtepmnpapdknocaaGreatDoorSortCoinBToRefEq
import Derived.Test.YtepmnpapdknocaaGreatDoorCoinApplyBToCoinTwiceM
import Derived.Test.YtepmnpapdknocaaGreatDoorBlkConW
import Derived.Test.YtepmnpapdknocaaGreatDoorRefBlkToBookRef
set_option maxHeartbeats 6400000
set_option maxRecDepth 10000
namespace Go.Proofs.YtepmnpapdknocaaGreatDoor
open Go.RowKit
theorem Zcu(ka:Option Addr)(kn kc:Nat)(K:List ByteArray)(la:Option Addr)(ln lc:Nat)(C0:List Zb)(p ht k0 n:Int)(a:Option Addr)(m c:Nat)(T:List TxD)(x:Int)(C':List Zb)(S':List (List Zb))(w:World)(hE:EnvF w)(hK:Bk.TextsAt w ka kn K)(sK:Bk.SlOk ka kn kc)(hR:Bk.Right K)(hC:CoinsAt w la ln C0)(sC:SlOk la ln lc)(hRC:Zs C0)(hT:TxsAt w a m T)(sT:SlOk a m c)(hx:Qy K C0 (p,ht,k0,n,T)=(x,C',S')) :
  Calls Tryz.prog 15 #[.slice ka kn kc,.slice la ln lc,.agg #[.int .i64 p,.int .i64 ht,.int .i64 k0,.int .i64 n,.slice a m c]] w fun e w'=>Zet w w' x C' S' e:=by
 obtain⟨⟨X1,nm1,N,z⟩,hnm⟩:∃ r,Wn K (p,ht,k0,n,T)=r:=⟨_,rfl⟩
 have hck:Zh C0=0:=(Z6 _).2 hRC
 have hnf:nfD K C0 (p,ht,k0,n,T)=(N,z):=by unfold nfD;rw[if_neg (fun q=>q hck),hnm]
 unfold Qy at hx
 rw[hnf] at hx
 have zT:T.length=m:=hT.1
 by_cases hz:z=0
 ·subst hz
  rw[if_neg (fun q=>q rfl)] at hx
  obtain⟨_,_,h1,h2⟩:=Un (Uh hnm).1
  simp only at h1 h2
  have hr:rwD ht=((rwD ht).1,0):=by
   have e:(rwD ht).2=0:=by
    unfold rwD
    rw[if_pos (by simp only[Bool.and_eq_true,decide_eq_true_eq];omega)]
   rw[←e]
  refine Ex ka kn kc K la ln lc C0 p ht k0 n a m c T X1 nm1 N (rwD ht).1 x C' S' w hE hK sK hR hC sC hRC hT sT hnm hr ?_
  rw[←zT]
  exact hx
 ·rw[if_pos hz] at hx
  have HE:Hid ((z,([]:List Zb),([]:List (List Zb)))=(x,C',S')):=hx
  obtain⟨X,hX⟩:∃ X,X=w.alloc (.cells #[.int .i64 p,.int .i64 ht,.int .i64 k0,.int .i64 n,.slice a m c] 28):=⟨_,rfl⟩
  have hbX:Below w.heap.size w X:=by rw[hX];exact bel_new _ _
  have hXb:X.heap[w.heap.size]? = some (.cells [.int .i64 p,.int .i64 ht,.int .i64 k0,.int .i64 n,.slice a m c].toArray 28 (0,0)):=by rw[hX];exact Yd _ _ _ _ _ _ _
  have NF:=hide (W7 ka kn kc K p ht k0 n a m c T X1 nm1 N z X (hE.later hbX) (hK.later hbX) sK hR (hT.later hbX) hnm)
  have x0:=Za hXb 0 _ rfl
  have x1:=Za hXb 1 _ rfl
  have x2:=Za hXb 2 _ rfl
  have x3:=Za hXb 3 _ rfl
  have x4:=Za hXb 4 _ rfl
  have xl:=lt_of_block hXb
  have HBX:=hide hbX
  have gm:(z != 0)=true:=by simp[hz]
  clear hE hK sK hR hC hRC hT hnm hx hbX hXb hnf hck zT sT
  go_enter Tryz.func15,Tryz.ntmps15
  go_wp2_with fail
  rw[←hX]
  clear hX
  (try go_wp2_with fail)
  refine (unhide NF).mono ?_
  rintro e w1 ⟨a',n',c',na,nn,nc,rfl,_,_,hN,hb1⟩
  have HB1:=hide (bel_on (unhide HBX) hb1)
  clear hN hb1 NF x0 x1 x2 x3 x4 xl
  go_wp2
  (try simp only[Exit.inBlock,Exit.then])
  refine bodyPost_ret (v:=.tuple #[.slice none 0 0,.slice none 0 0,.int .i64 z]) ?_ rfl (Vi (unhide HE) (unhide HB1))
  simp[results,Tryz.f15,go_sem]
theorem Zcr(ka:Option Addr)(kn kc:Nat)(K:List ByteArray)(la:Option Addr)(ln lc:Nat)(C0:List Zb)(p h k0 n:Int)(a:Option Addr)(m c:Nat)(T:List TxD)(ua:Option Addr)(un uc:Nat)(S:List (List Zb))(x:Int)(C':List Zb)(w:World)(hE:EnvF w)(hK:Bk.TextsAt w ka kn K)(sK:Bk.SlOk ka kn kc)(hR:Bk.Right K)(hC:CoinsAt w la ln C0)(sC:SlOk la ln lc)(hRC:Zs C0)(hT:TxsAt w a m T)(hU:UndosAt w ua un S)(hx:R9 K C0 (p,h,k0,n,T) S=(x,C')) :
  Calls Tryz.prog 16 #[.slice ka kn kc,.slice la ln lc,.agg #[.int .i64 p,.int .i64 h,.int .i64 k0,.int .i64 n,.slice a m c],.slice ua un uc] w fun e w'=>RvR w w' x C' e:=by
 obtain⟨⟨X1,nm1,N,z⟩,hnm⟩:∃ r,Wn K (p,h,k0,n,T)=r:=⟨_,rfl⟩
 have hck:Zh C0=0:=(Z6 _).2 hRC
 have hnf:nfD K C0 (p,h,k0,n,T)=(N,z):=by unfold nfD;rw[if_neg (fun q=>q hck),hnm]
 unfold R9 at hx
 rw[hnf] at hx
 have zT:T.length=m:=hT.1
 have zS:S.length=un:=hU.1
 by_cases hz:z=0
 ·subst hz
  rw[if_neg (fun q=>q rfl)] at hx
  by_cases hum:un=m
  ·subst hum
   rw[if_neg (fun q=>q (zS.trans zT.symm))] at hx
   refine Ew ka kn kc K la ln lc C0 p h k0 n a un c T ua uc S X1 nm1 N x C' w hE hK sK hR hC sC hRC hT hU hnm ?_
   rw[←zT]
   exact hx
  ·rw[if_pos (fun q=>hum (zS.symm.trans (q.trans zT)))] at hx
   have HE:Hid ((x,C')=((4:Int),([]:List Zb))):=hx.symm
   obtain⟨X,hX⟩:∃ X,X=w.alloc (.cells #[.int .i64 p,.int .i64 h,.int .i64 k0,.int .i64 n,.slice a m c] 28):=⟨_,rfl⟩
   have hbX:Below w.heap.size w X:=by rw[hX];exact bel_new _ _
   have hXb:X.heap[w.heap.size]? = some (.cells [.int .i64 p,.int .i64 h,.int .i64 k0,.int .i64 n,.slice a m c].toArray 28 (0,0)):=by rw[hX];exact Yd _ _ _ _ _ _ _
   have NF:=hide (W7 ka kn kc K p h k0 n a m c T X1 nm1 N 0 X (hE.later hbX) (hK.later hbX) sK hR (hT.later hbX) hnm)
   have x0:=Za hXb 0 _ rfl
   have x1:=Za hXb 1 _ rfl
   have x2:=Za hXb 2 _ rfl
   have x3:=Za hXb 3 _ rfl
   have x4:=Za hXb 4 _ rfl
   have xl:=lt_of_block hXb
   have HBX:=hide hbX
   have gm:((un:Int) != (m:Int))=true:=by simp;omega
   clear hE hK sK hR hC hRC hT hU hnm hx hbX hXb hnf hck zT zS
   go_enter Tryz.func16,Tryz.ntmps16
   go_wp2_with fail
   rw[←hX]
   clear hX
   (try go_wp2_with fail)
   refine (unhide NF).mono ?_
   rintro e w1 ⟨a',n',c',na,nn,nc,rfl,_,_,hN,hb1⟩
   have y4:=cell_later hb1 x4
   have yl:=World.block_lt_of_cell? _ _ y4
   have HB1:=hide (bel_on (unhide HBX) hb1)
   clear hN hb1 NF x0 x1 x2 x3 x4 xl
   go_wp2
   go_ret2
   exact Xg (unhide HE) (unhide HB1)
 ·rw[if_pos hz] at hx
  have HE:Hid ((x,C')=(z,([]:List Zb))):=hx.symm
  obtain⟨X,hX⟩:∃ X,X=w.alloc (.cells #[.int .i64 p,.int .i64 h,.int .i64 k0,.int .i64 n,.slice a m c] 28):=⟨_,rfl⟩
  have hbX:Below w.heap.size w X:=by rw[hX];exact bel_new _ _
  have hXb:X.heap[w.heap.size]? = some (.cells [.int .i64 p,.int .i64 h,.int .i64 k0,.int .i64 n,.slice a m c].toArray 28 (0,0)):=by rw[hX];exact Yd _ _ _ _ _ _ _
  have NF:=hide (W7 ka kn kc K p h k0 n a m c T X1 nm1 N z X (hE.later hbX) (hK.later hbX) sK hR (hT.later hbX) hnm)
  have x0:=Za hXb 0 _ rfl
  have x1:=Za hXb 1 _ rfl
  have x2:=Za hXb 2 _ rfl
  have x3:=Za hXb 3 _ rfl
  have x4:=Za hXb 4 _ rfl
  have xl:=lt_of_block hXb
  have HBX:=hide hbX
  have gm:(z != 0)=true:=by simp[hz]
  clear hE hK sK hR hC hRC hT hU hnm hx hbX hXb hnf hck zT zS
  go_enter Tryz.func16,Tryz.ntmps16
  go_wp2_with fail
  rw[←hX]
  clear hX
  (try go_wp2_with fail)
  refine (unhide NF).mono ?_
  rintro e w1 ⟨a',n',c',na,nn,nc,rfl,_,_,hN,hb1⟩
  have HB1:=hide (bel_on (unhide HBX) hb1)
  clear hN hb1 NF x0 x1 x2 x3 x4 xl
  go_wp2
  go_ret2
  exact Xg (unhide HE) (unhide HB1)
def Qu:List (List Zb)→List (List Zb)→Bool
 | [],[]=>true
 | x :: r,y :: q=>Vm x y && Qu r q
 | _,_=>false
theorem P9:∀ l:List (List Zb),Qu l l=true
 | []=>rfl
 | x :: r=>by rw[Qu,U7 rfl,P9 r];rfl
theorem Am(l k:List (List Zb))(i:Nat)(h1:i<l.length)(h2:i<k.length):Qu (l.drop i) (k.drop i)=(Vm l[i] k[i] && Qu (l.drop (i+1)) (k.drop (i+1))):=by
 rw[List.drop_eq_getElem_cons h1,List.drop_eq_getElem_cons h2,Qu]
theorem K1:∀ {l k:List (List Zb)},l.length≠k.length→Qu l k=false
 | [],[],h=>absurd rfl h
 | [],_ :: _,_=>rfl
 | _ :: _,[],_=>rfl
 | x :: r,y :: q,h=>by rw[Qu,K1 (l:=r) (k:=q) (by simpa using h)];simp
theorem Mj(a b:Option Addr)(n m c d:Nat)(l k:List Zb)(o:Bool)(w:World)(hn:n≤maxLen)(hA:CoinsAt w a n l)(hB:CoinsAt w b m k)(ho:Vm l k=o) :
  Calls Tryz.prog 49 #[.agg #[.slice a n c],.agg #[.slice b m d]] w fun e w'=>e = .returned (.bool o)∧Below w.heap.size w w':=by
 obtain⟨X,hX⟩:∃ X,X=(w.alloc (.cells #[.slice a n c] 68)).alloc (.cells #[.slice b m d] 68):=⟨_,rfl⟩
 have hb:Below w.heap.size w X:=by rw[hX];exact bel_on (bel_new _ _) (bel_new _ _)
 have C:=hide (Uv a b n m c d l k o X hn (hA.later hb) (hB.later hb) ho)
 have HB:=hide hb
 clear hA hB ho hb
 go_enter Tryz.func49,Tryz.ntmps49
 go_wp2_with fail
 rw[←hX]
 refine (unhide C).mono ?_
 rintro e w2 ⟨rfl,hb2⟩
 have HB2:=hide (bel_on (unhide HB) hb2)
 clear hb2
 go_wp2
 go_ret
 exact⟨rfl,unhide HB2⟩
theorem Zav(a b:Option Addr)(n m c d:Nat)(l k:List (List Zb))(o:Bool)(w:World)(hn:n≤4096)(hA:UndosAt w a n l)(hB:UndosAt w b m k)(ho:Qu l k=o) :
  Calls Tryz.prog 48 #[.slice a n c,.slice b m d,.func (.func 49) #[] #[]] w fun e w'=>e = .returned (.bool o)∧Below w.heap.size w w':=by
 have z1:=hA.1
 have z2:=hB.1
 by_cases hnm:n=m
 ·subst hnm
  have HA:=hide hA
  have HB:=hide hB
  have Z1:=hide z1
  have Z2:=hide z2
  have HO:=hide ho
  have g:((n:Int) != (n:Int))=false:=by simp
  clear hA hB z1 z2 ho
  go_enter Tryz.func48,Tryz.ntmps48
  go_wp2
  go_loopw [17] (fun i wr=>∃ j:Nat,j≤n∧i = .int .i64 j∧Hid (Below w.heap.size w wr)∧Hid (Qu (l.drop j) (k.drop j)=o)) (fun i _=>n - (intOf i).toNat)
  case atStart=>exact⟨0,Nat.zero_le _,rfl,Below.refl _ _,HO⟩
  case round=>
   obtain⟨j,hj,rfl,HW,HE⟩:=hrel
   by_cases hlt:j<n
   ·have h1:j<l.length:=by rw[unhide Z1];exact hlt
    have h2:j<k.length:=by rw[unhide Z2];exact hlt
    obtain⟨b1,o1,rfl,_,c1⟩:=(unhide HA).2 (by omega)
    obtain⟨b2,o2,rfl,_,c2⟩:=(unhide HB).2 (by omega)
    have hd:=Am l k j h1 h2
    obtain⟨a1,n1,e1,u1,k1,s1⟩:=c1 j h1
    obtain⟨a2,n2,e2,u2,k2,s2⟩:=c2 j h2
    obtain⟨q,hq⟩:∃ q,Vm l[j] k[j]=q:=⟨_,rfl⟩
    rw[hq] at hd
    have p1:=cell_later (unhide HW) u1
    have p2:=cell_later (unhide HW) u2
    have pl1:=World.block_lt_of_cell? _ _ p1
    have pl2:=World.block_lt_of_cell? _ _ p2
    obtain⟨X,hX⟩:∃ X,X=(wr.alloc (.cells #[.slice a1 n1 e1] 68)).alloc (.cells #[.slice a2 n2 e2] 68):=⟨_,rfl⟩
    have hbX:Below wr.heap.size wr X:=by rw[hX];exact bel_on (bel_new _ _) (bel_new _ _)
    have C:=hide (Mj a1 a2 n1 n2 e1 e2 l[j] k[j] q X s1.len ((k1.later (unhide HW)).later hbX) ((k2.later (unhide HW)).later hbX) hq)
    have HX:=hide (bel_on (unhide HW) hbX)
    have hj0:(0:Int)≤(j:Int):=by omega
    have hj1:(j:Int)<(n:Int):=by omega
    have HD:=hide hd
    clear hd u1 u2 k1 k2 s1 s2 c1 c2 hq hbX
    cases q with
    | true=>
     have HE2:Hid (Qu (l.drop (j+1)) (k.drop (j+1))=o):=by
      show _=_
      rw[←unhide HE,unhide HD]
      rfl
     clear HD HE
     go_wp2_with fail
     rw[←hX]
     clear hX
     refine (unhide C).mono ?_
     rintro e w2 ⟨rfl,hb2⟩
     have HB2:=hide (bel_on (unhide HX) hb2)
     clear hb2 C
     go_wp2
     go_roundw
     case rel=>exact⟨j+1,by omega,by go_num,HB2,HE2⟩
     case measure=>simp[intOf];omega
    | false=>
     have R:Hid (o=false):=by
      show _=_
      rw[←unhide HE,unhide HD]
      rfl
     clear HD HE
     go_wp2_with fail
     rw[←hX]
     clear hX
     refine (unhide C).mono ?_
     rintro e w2 ⟨rfl,hb2⟩
     have HB2:=hide (bel_on (unhide HX) hb2)
     clear hb2 C
     go_wp2
     go_ret
     exact⟨by rw[unhide R];rfl,unhide HB2⟩
   ·have R:Hid (o=true):=by
     show _=_
     rw[←unhide HE,List.drop_of_length_le (by rw[unhide Z1];omega),List.drop_of_length_le (by rw[unhide Z2];omega)]
     rfl
    clear HE
    go_wp2
    go_ret
    exact⟨by rw[unhide R];rfl,unhide HW⟩
 ·have R:Hid (o=false):=by show _=_;rw[←ho];exact K1 (by rw[z1,z2];exact hnm)
  have g:((n:Int) != (m:Int))=true:=by simp;omega
  clear hA hB ho z1 z2
  go_enter Tryz.func48,Tryz.ntmps48
  go_wp2
  go_ret
  exact⟨by rw[unhide R];rfl,Below.refl _ _⟩
theorem Kb(a b:Option Addr)(n m c d:Nat)(l k:List (List Zb))(o:Bool)(w:World)(hn:n≤4096)(hA:UndosAt w a n l)(hB:UndosAt w b m k)(ho:Qu l k=o) :
  Calls Tryz.prog 18 #[.slice a n c,.slice b m d] w fun e w'=>e = .returned (.bool o)∧Below w.heap.size w w':=by
 have C:=hide (Zav a b n m c d l k o w hn hA hB ho)
 clear hA hB ho
 go_enter Tryz.func18,Tryz.ntmps18
 go_wp2_with fail
 refine (unhide C).mono ?_
 rintro e w2 ⟨rfl,hb2⟩
 have HB2:=hide hb2
 clear hb2
 go_wp2
 go_ret
 exact⟨rfl,unhide HB2⟩
def Cu:Uo:=(0,1,2,0,[(1,[],[(64,[])])])
def Zgq:ByteArray:=⟨#[116,120,32,49,10,111,117,116,32,54,52,58,10]⟩
def Fd:ByteArray:=⟨#[98,108,111,99,107,32,48,32,49,32,50,32,48,10,116,120,32,49,10,111,117,116,32,54,52,58,10]⟩
theorem Zar:Wy Cu=Fd:=by kernel_rfl
theorem A9:Xq Cu=0:=by kernel_rfl
theorem Ba:Wn [] Cu=([Zgq,Fd],2,[1],0):=by kernel_rfl
theorem Zdo:Qy [] [] Cu=(0,[(1,0,64,[],1,true)],[[]]):=by kernel_rfl
theorem Zfm(w:World)(x:Int):Bk.IntsAt (w.alloc (.cells #[.int .i64 x] 3)) (some ⟨w.heap.size,0,none⟩) 1 [x]:=
 ⟨rfl,fun _=>⟨w.heap.size,0,rfl,fun i hi=>by
  have e:i=0:=by simp at hi;exact hi
  subst e
  exact one_new _ _ _⟩⟩
theorem Ry(w:World)(hE:Env w):Calls Tryz.prog 10 #[] w fun e w'=>e = .returned (.bool true)∧Below w.heap.size w w':=by
 obtain⟨W0,hW0⟩:∃ W0,W0=w.alloc (.cells #[.int .i64 64,.slice none 0 0] 84):=⟨_,rfl⟩
 obtain⟨W1,hW1⟩:∃ W1,W1=W0.alloc (.cells #[.int .i64 1,.slice none 0 0,.slice (some ⟨w.heap.size,0,none⟩) 1 1] 74):=⟨_,rfl⟩
 obtain⟨X,hX⟩:∃ X,X=W1.alloc (.cells #[.int .i64 0,.int .i64 1,.int .i64 2,.int .i64 0,.slice (some ⟨w.heap.size+1,0,none⟩) 1 1] 28):=⟨_,rfl⟩
 have s0:W0.heap.size=w.heap.size+1:=by rw[hW0];simp
 have s1:W1.heap.size=w.heap.size+2:=by rw[hW1];simp[s0]
 have b0:Below w.heap.size w W0:=by rw[hW0];exact bel_new _ _
 have b1:Below W0.heap.size W0 W1:=by rw[hW1];exact bel_new _ _
 have b2:Below W1.heap.size W1 X:=by rw[hX];exact bel_new _ _
 have h0:W0.heap[w.heap.size]? = some (.cells [.int .i64 64,.slice none 0 0].toArray 84 (0,0)):=by rw[hW0];exact heap_alloc_new _ _
 have h1:W1.heap[w.heap.size+1]? = some (.cells [.int .i64 1,.slice none 0 0,.slice (some ⟨w.heap.size,0,none⟩) 1 1].toArray 74 (0,0)):=by
  rw[hW1,←s0];exact heap_alloc_new _ _
 have h2:X.heap[w.heap.size+2]? = some (.cells [.int .i64 0,.int .i64 1,.int .i64 2,.int .i64 0,.slice (some ⟨w.heap.size+1,0,none⟩) 1 1].toArray 28 (0,0)):=by
  rw[hX,←s1];exact heap_alloc_new _ _
 have g0:=(b2.block _ (by rw[s1];omega)).trans ((b1.block _ (lt_of_block h0)).trans h0)
 have g1:=(b2.block _ (lt_of_block h1)).trans h1
 have hbX:Below w.heap.size w X:=bel_on (bel_on b0 b1) b2
 have hT:TxsAt X (some ⟨w.heap.size+1,0,none⟩) 1 [(1,[],[(64,[])])]:=by
  refine⟨rfl,fun _=>⟨w.heap.size+1,0,rfl,lt_of_block g1,fun i hi=>?_⟩⟩
  have e:i=0:=by simp at hi;exact hi
  subst e
  refine⟨Za g1 0 _ rfl,⟨none,0,0,Za g1 1 _ rfl,⟨rfl,fun h=>absurd h (by omega)⟩,Wo⟩,some ⟨w.heap.size,0,none⟩,1,1,Za g1 2 _ rfl,?_,⟨Nat.le_refl _,by unfold maxLen;omega,fun e=>by cases e⟩⟩
  refine⟨rfl,fun _=>⟨w.heap.size,0,rfl,lt_of_block g0,fun i hi=>?_⟩⟩
  have e:i=0:=by simp at hi;exact hi
  subst e
  exact⟨Za g0 0 _ rfl,none,0,0,Za g0 1 _ rfl,⟨rfl,fun h=>absurd h (by omega)⟩,Wo⟩
 have C1:=J1 0 1 2 0 (some ⟨w.heap.size+1,0,none⟩) 1 1 [(1,[],[(64,[])])] X (hE.later hbX) hT A9
 rw[show Wy (0,1,2,0,[(1,[],[(64,[])])])=Fd from Zar] at C1
 unfold Fd at C1
 have HC1:=hide C1
 have C2:=hide (fun W (hb:Below X.heap.size X W)=>V9 none 0 0 [] 0 1 2 0 (some ⟨w.heap.size+1,0,none⟩) 1 1 [(1,[],[(64,[])])] [Zgq,Fd] 2 [1] 0 W (hE.later (bel_on hbX hb)) ⟨rfl,fun h=>absurd h (by omega)⟩ (hT.later hb) Ba)
 have C3:=hide (fun W (hb:Below X.heap.size X W)=>Um none 0 0 [] none 0 0 [] 0 1 2 0 (some ⟨w.heap.size+1,0,none⟩) 1 1 [(1,[],[(64,[])])] 0 [(1,0,64,[],1,true)] [[]] W (hE.later (bel_on hbX hb)) ⟨rfl,fun h=>absurd h (by omega)⟩ ⟨rfl,fun h=>absurd h (by omega)⟩ Wo (hT.later hb) Zdo)
 have HB0:=hide hbX
 have HX2:=hide h2
 have x0:=Za h2 0 _ rfl
 have x1:=Za h2 1 _ rfl
 have x2:=Za h2 2 _ rfl
 have x3:=Za h2 3 _ rfl
 have x4:=Za h2 4 _ rfl
 have xl:=lt_of_block h2
 clear C1 hT h0 h1 h2 g0 g1 b0 b1 b2 s0 s1 hE hbX
 rw[hW1,hW0] at hX
 clear hW1 hW0 W0 W1
 go_enter Tryz.func10,Tryz.ntmps10
 go_wp2_with fail
 rw[←hX]
 clear hX
 refine (unhide HC1).mono ?_
 rintro e w1 ⟨rfl,hb1⟩
 have h21:=(hb1.block _ (lt_of_block (unhide HX2))).trans (unhide HX2)
 have HX21:=hide h21
 have y0:=Za h21 0 _ rfl
 have y1:=Za h21 1 _ rfl
 have y2:=Za h21 2 _ rfl
 have y3:=Za h21 3 _ rfl
 have y4:=Za h21 4 _ rfl
 have yl:=lt_of_block h21
 have HB1:=hide hb1
 have CC2:=hide ((unhide C2) w1 hb1)
 clear hb1 h21 HC1 C2 x0 x1 x2 x3 x4 xl
 go_wp2_with fail
 refine (unhide CC2).mono ?_
 rintro e w2 ⟨ka,kn,kc,na,nn,nc,rfl,hK,sK,hN,hnc,hb2⟩
 obtain rfl:2=kn:=hK.1
 obtain rfl:1=nn:=hN.1
 obtain⟨Y,hY⟩:∃ Y,Y=w2.alloc (.cells #[.slice ka 2 kc] 24):=⟨_,rfl⟩
 have hbY:Below w2.heap.size w2 Y:=by rw[hY];exact bel_new _ _
 have hY1:Y.heap[w2.heap.size]? = some (.cells [.slice ka 2 kc].toArray 24 (0,0)):=by rw[hY];exact Y3 _ _ _
 have h22:=(hb2.block _ (lt_of_block (unhide HX21))).trans (unhide HX21)
 have z0:=Za h22 0 _ rfl
 have z1:=Za h22 1 _ rfl
 have z2:=Za h22 2 _ rfl
 have z3:=Za h22 3 _ rfl
 have z4:=Za h22 4 _ rfl
 have zl:=lt_of_block h22
 have HBY:=hide (bel_on (bel_on (unhide HB1) hb2) hbY)
 have CC3:=hide ((unhide C3) Y (unhide HBY))
 have HN:=hide (hN.later hbY)
 have HY1:=hide hY1
 clear hK sK hN hnc hb2 h22 hbY hY1 CC2 C3 y0 y1 y2 y3 y4 yl
 go_wp2_with fail
 rw[←hY]
 clear hY
 refine (unhide CC3).mono ?_
 rintro e w3 ⟨ca,cn,cc,ua,un,uc,rfl,hC,sC,hU,sU,hb3⟩
 obtain rfl:1=cn:=hC.1
 obtain rfl:1=un:=hU.1
 obtain⟨cb,co,rfl,hcl,hcc⟩:=hC.2 (by omega)
 have hc0:=hcc 0 (by simp)
 obtain⟨_,_,_,_,_,c5⟩:=hc0
 have c5:w3.cell? ⟨cb,co+5,none⟩=some (.bool true):=by simpa[cr] using c5
 obtain⟨Z,hZ⟩:∃ Z,Z=w3.alloc (.cells #[.int .i64 1] 3):=⟨_,rfl⟩
 have hbZ:Below w3.heap.size w3 Z:=by rw[hZ];exact bel_new _ _
 have hI:Bk.IntsAt Z (some ⟨w3.heap.size,0,none⟩) 1 [1]:=by rw[hZ];exact Zfm _ _
 have CE:=hide (Bk.eqInt_is na (some ⟨w3.heap.size,0,none⟩) 1 1 nc 1 [1] [1] true Z (by unfold maxLen;omega) ((unhide HN).later (bel_on hb3 hbZ)) hI (by simp))
 have HY3:=hide ((hbZ.block _ (Nat.lt_of_lt_of_le (lt_of_block (unhide HY1)) hb3.size)).trans ((hb3.block _ (lt_of_block (unhide HY1))).trans (unhide HY1)))
 have C5:=hide (cell_later hbZ c5)
 have HBZ:=hide (bel_on (unhide HB0) (bel_on (unhide HBY) (bel_on hb3 hbZ)))
 clear hC sC hU sU hb3 hcc c5 hbZ hI CC3 z0 z1 z2 z3 z4 zl hcl
 go_wp2_with fail
 rw[←hZ]
 clear hZ
 refine (unhide CE).mono ?_
 rintro e w4 ⟨rfl,hb4⟩
 have h44:=(hb4.block _ (lt_of_block (unhide HY3))).trans (unhide HY3)
 have u0:=Za h44 0 _ rfl
 have ul:=lt_of_block h44
 have u5:=cell_later hb4 (unhide C5)
 have uc5:=World.block_lt_of_cell? _ _ u5
 have HBF:=hide (bel_on (unhide HBZ) hb4)
 clear hb4 h44 CE
 go_wp2
 go_ret
 exact⟨rfl,unhide HBF⟩
end Go.Proofs.YtepmnpapdknocaaGreatDoor
