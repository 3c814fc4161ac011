import Derived.Test.YtmomfkikogbdeaaGreatDoorG16
set_option maxHeartbeats 3200000
set_option maxRecDepth 10000
namespace Go.Proofs.YtmomfkikogbdeaaGreatDoor
open Go.RowKit
theorem Dk:∀ (l:List ByteArray) (L:List ByteArray) (N:List Int) (M:List ByteArray) (N':List Int),Bk.nmGo L N l=(M,N',0)→N'.length=N.length+l.length
 | [],L,N,M,N',h=>by
  unfold Bk.nmGo at h
  injection h with _ h
  injection h with h _
  subst h
  rfl
 | s :: r,L,N,M,N',h=>by
  unfold Bk.nmGo at h
  split at h
  ·have:=Dk r _ _ M N' h
   rw[this,List.length_append,List.length_cons,List.length_cons,List.length_nil]
   omega
  ·rename_i q
   injection h with _ h
   injection h with _ h
   exact absurd h q
theorem Kc{L l M:List ByteArray}{N:List Int}(h:Bk.allR L l=(M,N,0)):N.length=l.length:=by
 unfold Bk.allR at h
 split at h
 ·have:=Dk l L [] M N h
  rw[this]
  simp
 ·rename_i q
  injection h with _ h
  injection h with _ h
  exact absurd h q
theorem Zaf(ka:Option Addr)(kn kc:Nat)(L:List ByteArray)(p h k n:Int)(a:Option Addr)(m c:Nat)(T:List TxD)(M:List ByteArray)(nm:Int)(N:List Int)(x:Int)(w:World)(hE:Env w)(hL:Bk.TextsAt w ka kn L)(hT:TxsAt w a m T)(hx:Xf L (p,h,k,n,T)=(M,nm,N,x)) :
  Calls Tryz.prog 27 #[.agg #[.slice ka kn kc],.agg #[.int .i64 p,.int .i64 h,.int .i64 k,.int .i64 n,.slice a m c]] w fun e w'=>NmR w w' M nm N x e:=by
 have hz:T.length=m:=hT.1
 unfold Xf at hx
 by_cases h0:Yt (p,h,k,n,T)=0
 ·rw[if_neg (by rw[h0];decide)] at hx
  obtain⟨⟨M',N',x'⟩,hr⟩:∃ r,Bk.allR L (Yc (p,h,k,n,T))=r:=⟨_,rfl⟩
  rw[hr] at hx
  simp only[hz] at hx
  have hlen:x'=0→N'.length=m+1:=fun e=>by
   subst e
   rw[Kc hr]
   unfold Yc
   simp[hz]
  by_cases hx0:x'=0
  ·subst hx0
   rw[if_neg (by decide)] at hx
   injection hx with e1 e2
   injection e2 with e2 e3
   injection e3 with e3 e4
   subst e1 e2 e3 e4
   exact Gx ka kn kc L p h k n a m c T M' N' 0 w hE hL hT h0 hr hlen _ _ _ (if_pos rfl)
  ·rw[if_pos hx0] at hx
   injection hx with e1 e2
   injection e2 with e2 e3
   injection e3 with e3 e4
   subst e1 e2 e3 e4
   exact Gx ka kn kc L p h k n a m c T M' N' x' w hE hL hT h0 hr hlen _ _ _ (if_neg hx0)
 ·rw[if_pos h0] at hx
  injection hx with e1 e2
  injection e2 with e2 e3
  injection e3 with e3 e4
  subst e1 e2 e3
  exact Zae ka kn kc p h k n a m c T x w hT e4 (by rw[←e4];exact h0)
def nfD(K:List ByteArray)(C:List Zh)(b:Zk):List Int×Int:=if Zy C≠0 then ([],Zy C) else ((Xf K b).2.2.1,(Xf K b).2.2.2)
def NfR(w w':World)(N:List Int)(x:Int)(e:Ending):Prop:=∃ a n c,e = .returned (.tuple #[.slice a n c,.int .i64 x])∧Bk.IntsAt w' a n N∧n≤c∧Below w.heap.size w w'
theorem Dn(ka:Option Addr)(kn kc:Nat)(L:List ByteArray)(la:Option Addr)(ln lc:Nat)(C:List Zh)(p h k n:Int)(a:Option Addr)(m c:Nat)(T:List TxD)(N:List Int)(x:Int)(w:World)(hE:Env w)(hL:Bk.TextsAt w ka kn L)(hC:CoinsAt w la ln C)(hT:TxsAt w a m T)(hx:nfD L C (p,h,k,n,T)=(N,x)) :
  Calls Tryz.prog 73 #[.agg #[.slice ka kn kc],.slice la ln lc,.agg #[.int .i64 p,.int .i64 h,.int .i64 k,.int .i64 n,.slice a m c]] w fun e w'=>NfR w w' N x e:=by
 obtain⟨X,hX⟩:∃ X,X=(w.alloc (.cells #[.slice ka kn kc] 24)).alloc (.cells #[.int .i64 p,.int .i64 h,.int .i64 k,.int .i64 n,.slice a m c] 39):=⟨_,rfl⟩
 have hbX:Below w.heap.size w X:=by rw[hX];exact Zf (Zi _ _) (Zi _ _)
 have hX1:X.heap[w.heap.size]? = some (.cells [.slice ka kn kc].toArray 24 (0,0)):=by
  rw[hX,Below.heap_alloc _ _ _ (by simp)];exact Yo _ _ _
 have hX2:X.heap[w.heap.size+1]? = some (.cells [.int .i64 p,.int .i64 h,.int .i64 k,.int .i64 n,.slice a m c].toArray 39 (0,0)):=by
  rw[hX]
  have:=Zv (w.alloc (.cells #[.slice ka kn kc] 24)) (.int .i64 p) (.int .i64 h) (.int .i64 k) (.int .i64 n) (.slice a m c) 39
  rw[show (w.alloc (.cells #[.slice ka kn kc] 24)).heap.size=w.heap.size+1 by simp] at this
  exact this
 obtain⟨y,hy⟩:∃ y,Zy C=y:=⟨_,rfl⟩
 have CK:=Zb (Wo la ln lc C y X (hC.later hbX) hy)
 have HX1:=Zb hX1
 have HX2:=Zb hX2
 have HBX:=Zb hbX
 unfold nfD at hx
 rw[hy] at hx
 by_cases hy0:y=0
 ·subst hy0
  rw[if_neg (by decide)] at hx
  obtain⟨⟨M,nm,N',x'⟩,hr⟩:∃ r,Xf L (p,h,k,n,T)=r:=⟨_,rfl⟩
  rw[hr] at hx
  injection hx with e1 e2
  simp only at e1 e2
  subst e1 e2
  have NA:=Zb (fun W (hb:Below X.heap.size X W)=>Zaf ka kn kc L p h k n a m c T M nm N' x' W ((hE.later hbX).later hb) ((hL.later hbX).later hb) ((hT.later hbX).later hb) hr)
  clear hE hL hC hT hy hr hX1 hX2 hbX
  go_enter Tryz.func73,Tryz.ntmps73
  go_wp2_with fail
  rw[←hX]
  clear hX
  refine (Za CK).mono ?_
  rintro e w1 ⟨rfl,hb1⟩
  have h1:=(hb1.block _ (lt_of_block (Za HX1))).trans (Za HX1)
  have h2:=(hb1.block _ (lt_of_block (Za HX2))).trans (Za HX2)
  have k0:=Zd h1 0 _ rfl
  have b0:=Zd h2 0 _ rfl
  have b1:=Zd h2 1 _ rfl
  have b2:=Zd h2 2 _ rfl
  have b3:=Zd h2 3 _ rfl
  have b4:=Zd h2 4 _ rfl
  have l1:=lt_of_block h1
  have l2:=lt_of_block h2
  have N1:=Zb ((Za NA) w1 hb1)
  have HB1:=Zb (Zf (Za HBX) hb1)
  clear hb1 h1 h2 CK NA
  go_wp2_with fail
  refine (Za N1).mono ?_
  rintro e w2 ⟨a',n',c',a2,n2,c2,rfl,_,_,hI,hc,hb2⟩
  have HF:Hid (NfR w (w2.alloc (.cells #[.slice a' n' c'] 24)) N' x' (.returned (.tuple #[.slice a2 n2 c2,.int .i64 x']))):=⟨a2,n2,c2,rfl,hI.later (Zi _ _),hc,Zf (Zf (Za HB1) hb2) (Zi _ _)⟩
  clear hI hc hb2
  go_wp2
  go_ret2
  exact Za HF
 ·rw[if_pos hy0] at hx
  injection hx with e1 e2
  subst e1 e2
  have gy:(y != 0)=true:=by simp[hy0]
  clear hE hL hC hT hy hX1 hX2 hbX hy0
  go_enter Tryz.func73,Tryz.ntmps73
  go_wp2_with fail
  rw[←hX]
  clear hX
  refine (Za CK).mono ?_
  rintro e w1 ⟨rfl,hb1⟩
  have HF:Hid (NfR w w1 [] y (.returned (.tuple #[.slice none 0 0,.int .i64 y]))):=⟨none,0,0,rfl,Bk.IntsAt.nil _ _,Nat.le_refl _,Zf (Za HBX) hb1⟩
  clear hb1
  go_wp2
  go_ret2
  exact Za HF
def Ng(m i:Nat):Value:=.int .i64 (((i+1) % m:Nat):Int)
theorem Zbv(m:Nat)(w:World)(h0:0<m)(hm:m≤4) :
  Calls Tryz.prog 74 #[.int .i64 m] w fun e w'=>e = .returned (.slice (some ⟨w.heap.size,0,none⟩) m m)∧FillV w.heap.size 3 m (Ng m) w w' m:=by
 obtain⟨i0,hi,hz0,hz1,hz2⟩:=info_parts Tryz.infoInt
 go_enter Tryz.func74,Tryz.ntmps74
 go_wp2_with (at_make;refine wpList_make_full _ rfl _ _ 25 rfl w.heap.size 3 i0 (.int .i64 0) 1 Tryz.underlying25 hi hz0 hz1 .i64 .i64 _ _ m rfl rfl rfl rfl (by rw[hz2];omega) (by unfold maxLen;omega) (Nat.le_refl _) ?_;intro w2 hown2 hgrow2)
 have hst:FillV w.heap.size 3 m (Ng m) w w2 0:=⟨⟨_,hown2,fun j hj=>absurd hj (by omega)⟩,(Below.refl _ _).grown hgrow2 (Nat.le_refl _) (fun k h=>by cases h)⟩
 have HST:=Zb hst
 clear hst hown2 hgrow2
 go_loopw [8] (fun i wr=>∃ k:Nat,k≤m∧i = .int .i64 k∧FillV w.heap.size 3 m (Ng m) w wr k) (fun i _=>m - (intOf i).toNat)
 case atStart=>exact⟨0,Nat.zero_le _,rfl,Za HST⟩
 case round=>
  obtain⟨k,hk,rfl,hfl⟩:=hrel
  have HF:=Zb hfl
  by_cases hlt:k<m
  ·obtain⟨v,hold⟩:=hfl.old hlt
   have hfree:=hfl.free k
   have hl3:=hfl.lt
   have hne:(m:Int)≠0:=by omega
   have hmod:((k:Int)+1).tmod (m:Int)=(((k+1) % m:Nat):Int):=by
    rw[show ((k:Int)+1)=((k+1:Nat):Int) by omega]
    rfl
   have hlm:(k+1) % m<m:=Nat.mod_lt _ h0
   obtain⟨q,hq⟩:∃ q,(k+1) % m=q:=⟨_,rfl⟩
   rw[hq] at hmod hlm
   have HQ:=Zb hq
   clear hfl hq
   go_wp2
   go_roundw
   case rel=>
    refine⟨k+1,by omega,by go_num,(Za HF).step hlt ?_⟩
    unfold Ng
    rw[Za HQ]
   case measure=>simp[intOf];omega
  ·clear hfl
   have e:k=m:=by omega
   subst e
   clear hk hlt
   go_wp2
   go_ret
   exact⟨rfl,Za HF⟩
def rwN:Nat→Nat
 | 0=>64
 | n+1=>rwN n / 2
theorem T8:∀ n,rwN n≤64
 | 0=>Nat.le_refl _
 | n+1=>by
  have:=T8 n
  unfold rwN
  omega
def rwD(h:Int):Int×Int:=if (decide (1≤h) && decide (h≤1000))=true then ((rwN ((h - 1).toNat / 8):Nat),0) else (0,3)
theorem Sa(h r x:Int)(w:World)(hx:rwD h=(r,x)) :
  Calls Tryz.prog 83 #[.int .i64 h] w fun e w'=>e = .returned (.tuple #[.int .i64 r,.int .i64 x])∧Below w.heap.size w w':=by
 unfold rwD at hx
 cases q:(decide ((1:Int)≤h) && decide (h≤1000)) with
 | false=>
  rw[q,if_neg (by decide)] at hx
  injection hx with e1 e2
  subst e1 e2
  have CC:=Zb (Yu h 1 1000 false w q)
  clear q
  go_enter Tryz.func83,Tryz.ntmps83
  go_wp2_with fail
  refine (Za CC).mono ?_
  rintro e w1 ⟨rfl,hb1⟩
  have HB:=Zb hb1
  clear hb1
  go_wp2
  go_ret2
  exact⟨rfl,Za HB⟩
 | true=>
  rw[q,if_pos rfl] at hx
  injection hx with e1 e2
  subst e2
  have CC:=Zb (Yu h 1 1000 true w q)
  rw[Bool.and_eq_true,decide_eq_true_eq,decide_eq_true_eq] at q
  obtain⟨k,rfl⟩:∃ k:Nat,h=(k:Int)+1:=⟨(h - 1).toNat,by omega⟩
  have hk:k<1000:=by omega
  rw[show (((k:Int)+1 - 1).toNat)=k by omega] at e1
  obtain⟨n,hn⟩:∃ n,k / 8=n:=⟨_,rfl⟩
  have hq:((k:Int)).tdiv 8=(n:Int):=by rw[←hn];rfl
  have hn2:n≤125:=by omega
  rw[hn] at e1
  have HR:=Zb e1
  clear q e1 hn
  go_enter Tryz.func83,Tryz.ntmps83
  go_wp2_with fail
  refine (Za CC).mono ?_
  rintro e w1 ⟨rfl,hb1⟩
  have HB:=Zb hb1
  clear hb1
  go_wp2
  go_loopw [4,11] (fun v i wr=>∃ j:Nat,j≤n∧v = .int .i64 (rwN j:Nat)∧i = .int .i64 j∧Hid (Below w.heap.size w wr)) (fun _ i _=>n - (intOf i).toNat)
  case atStart=>exact⟨0,Nat.zero_le _,rfl,rfl,HB⟩
  case round=>
   obtain⟨j,hj,rfl,rfl,HBr⟩:=hrel
   have hle:=T8 j
   by_cases hlt:j<n
   ·have hd:((rwN j:Nat):Int).tdiv 2=((rwN (j+1):Nat):Int):=rfl
    have hle2:=T8 (j+1)
    obtain⟨a,ha⟩:∃ a,rwN j=a:=⟨_,rfl⟩
    obtain⟨b,hb⟩:∃ b,rwN (j+1)=b:=⟨_,rfl⟩
    rw[ha,hb] at hd
    rw[ha] at hle
    rw[hb] at hle2
    rw[ha]
    have HBB:=Zb hb
    clear ha hb
    go_wp2
    go_roundw
    case rel=>exact⟨j+1,by omega,by rw[Za HBB],by go_num,HBr⟩
    case measure=>simp[intOf];omega
   ·have e:j=n:=by omega
    subst e
    go_wp2
    go_ret2
    exact⟨by rw[Za HR];rfl,Za HBr⟩
end Go.Proofs.YtmomfkikogbdeaaGreatDoor
