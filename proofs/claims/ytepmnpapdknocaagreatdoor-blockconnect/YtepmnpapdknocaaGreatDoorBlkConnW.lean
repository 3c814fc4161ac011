/- The law BlockConnect answers true, way by way (written by a program of ours: mkbc.py). -/
import Derived.Test.YtepmnpapdknocaaGreatDoorRefConAToBlkLaid
import Derived.Test.YtepmnpapdknocaaGreatDoorSortPdqToSortCoin
import Derived.Test.YtepmnpapdknocaaGreatDoorRefBlkToBookRef
set_option maxHeartbeats 12800000
set_option maxRecDepth 10000
namespace Go.Proofs.YtepmnpapdknocaaGreatDoor
open Go.RowKit
theorem Zfo{K:List ByteArray}{b:Uo}(h:Xq b≠0):Wn K b=([],0,[],Xq b):=by unfold Wn;rw[if_pos h]
theorem Zdf{K:List ByteArray}{b:Uo}(h:Xq b=0)(hk:Bk.bkChk K≠0):Wn K b=([],0,[],Bk.bkChk K):=by
 have e:(Bk.allR K (Yy b)).2.2=Bk.bkChk K:=by unfold Bk.allR;rw[if_neg hk]
 unfold Wn
 rw[if_neg (fun q=>q h),if_pos (by rw[e];exact hk),e]
theorem Cy{K:List ByteArray}{C:List Zb}{b:Uo}{X:List ByteArray}{n:Int}{N:List Int}{z:Int}(h:Wn K b=(X,n,N,z))(hz:z≠0)(S:List (List Zb)):Qy K C b=(if Zh C=0 then z else Zh C,[],[])∧R9 K C b S=(if Zh C=0 then z else Zh C,[]):=by
 have e:(nfD K C b).2=if Zh C=0 then z else Zh C:=by
  unfold nfD
  by_cases q:Zh C=0
  ·rw[if_neg (fun r=>r q),if_pos q,h]
  ·rw[if_pos q,if_neg q]
 have e2:(nfD K C b).2≠0:=by
  rw[e];split
  ·exact hz
  ·assumption
 unfold Qy R9
 rw[if_pos e2,if_pos e2,e]
 exact⟨rfl,rfl⟩
theorem Zaz{K:List ByteArray}{C:List Zb}{b:Uo}(hz:Zh C≠0)(S:List (List Zb)):Qy K C b=(Zh C,[],[])∧R9 K C b S=(Zh C,[]):=by
 have e:(nfD K C b).2=Zh C:=by unfold nfD;rw[if_pos hz]
 have e2:(nfD K C b).2≠0:=by rw[e];exact hz
 unfold Qy R9
 rw[if_pos e2,if_pos e2,e]
 exact⟨rfl,rfl⟩
theorem Hm(h r:Int)(T:List TxD)(N:List Int):∀ (q k:Nat) (C:List Zb) (S:List (List Zb)) (y:Int) (M:List Zb) (V:List (List Zb)),Xd h r T N q k C S=(y,M,V)→y≠0→V=[]
 | 0,k,C,S,y,M,V,e,hy=>by
  injection e with e _
  exact absurd e.symm hy
 | q+1,k,C,S,y,M,V,e,hy=>by
  rw[Tb (q:=q) (k:=k) (C:=C) (S:=S) rfl rfl rfl (y:=(apD C (T.getD ((k+1) % T.length) Wg) (N.getD ((k+1) % T.length) 0) h).1) (M:=(apD C (T.getD ((k+1) % T.length) Wg) (N.getD ((k+1) % T.length) 0) h).2.1) (s:=(apD C (T.getD ((k+1) % T.length) Wg) (N.getD ((k+1) % T.length) 0) h).2.2) rfl] at e
  split at e
  ·injection e with _ e;injection e with _ e;exact e.symm
  split at e
  ·injection e with _ e;injection e with _ e;exact e.symm
  exact Hm h r T N q (k+1) _ _ y M V e hy
theorem Zef{K:List ByteArray}{C M:List Zb}{b:Uo}{y:Int}{V:List (List Zb)}(e:Qy K C b=(y,M,V))(hy:y≠0):V=[]:=by
 unfold Qy at e
 split at e
 ·injection e with _ e;injection e with _ e;exact e.symm
 exact Hm _ _ _ _ _ _ _ _ _ _ _ e hy
theorem Cq{K:List ByteArray}{p h k n:Int}{L:List TxD}{XM:List ByteArray}{nm:Int}{N:List Int}{x:Int}{m:Nat}(e:Wn K (p,h,k,n,L)=(XM,nm,N,x))(hl:L.length=m)(hm:m≤maxLen):N.length≤maxLen:=by
 unfold Wn at e
 split at e
 ·injection e with _ e;injection e with _ e;injection e with e _;rw[←e];exact Nat.zero_le _
 split at e
 ·injection e with _ e;injection e with _ e;injection e with e _;rw[←e];exact Nat.zero_le _
 injection e with _ e;injection e with _ e;injection e with e _
 rw[←e,List.length_take]
 exact Nat.le_trans (Nat.min_le_left _ _) (by rw[hl];exact hm)
theorem Zgg{K:List ByteArray}{C M:List Zb}{b:Uo}{y:Int}{V:List (List Zb)}(e:Qy K C b=(y,M,V)):V.length≤4096:=by
 by_cases hy:y=0
 ·subst hy
  have h1:=Zgh e
  have h2:=Un h1.2.2.1
  omega
 ·rw[Zef e hy];exact Nat.zero_le _
theorem Fb(ka:Option Addr)(kn kc:Nat)(K:List ByteArray)(la:Option Addr)(ln lc:Nat)(C:List Zb)(p h k n:Int)(a:Option Addr)(m c:Nat)(L:List TxD)(ua:Option Addr)(un uc:Nat)(S:List (List Zb))(w:World)(hE:EnvF w)(hK:Bk.TextsAt w ka kn K)(_sK:Bk.SlOk ka kn kc)(hC:CoinsAt w la ln C)(sC:SlOk la ln lc)(hL:TxsAt w a m L)(_sL:SlOk a m c)(hU:UndosAt w ua un S)(hzz:Xq (p,h,k,n,L)≠0) :
  Calls Tryz.prog 3 #[.agg #[.slice ka kn kc],.slice la ln lc,.agg #[.int .i64 p,.int .i64 h,.int .i64 k,.int .i64 n,.slice a m c],.slice ua un uc] w fun e w'=>e = .returned (.bool true)∧Below w.heap.size w w':=by
 obtain⟨X,hX⟩:∃ X,X=(w.alloc (.cells #[.slice ka kn kc] 24)).alloc (.cells #[.int .i64 p,.int .i64 h,.int .i64 k,.int .i64 n,.slice a m c] 28):=⟨_,rfl⟩
 have hbX:Below w.heap.size w X:=by rw[hX];exact bel_on (bel_new _ _) (bel_new _ _)
 have hX1:X.heap[w.heap.size]? = some (.cells [.slice ka kn kc].toArray 24 (0,0)):=by
  rw[hX,Below.heap_alloc _ _ _ (by simp)];exact Y3 _ _ _
 have hX2:X.heap[w.heap.size+1]? = some (.cells [.int .i64 p,.int .i64 h,.int .i64 k,.int .i64 n,.slice a m c].toArray 28 (0,0)):=by
  rw[hX]
  have:=Yd (w.alloc (.cells #[.slice ka kn kc] 24)) (.int .i64 p) (.int .i64 h) (.int .i64 k) (.int .i64 n) (.slice a m c) 28
  rw[show (w.alloc (.cells #[.slice ka kn kc] 24)).heap.size=w.heap.size+1 by simp] at this
  exact this
 obtain⟨zc,hzc⟩:∃ z,Zh C=z:=⟨_,rfl⟩
 obtain⟨z1,hz1⟩:∃ z,Xq (p,h,k,n,L)=z:=⟨_,rfl⟩
 obtain⟨z2,hz2⟩:∃ z,Bk.bkChk K=z:=⟨_,rfl⟩
 rw[hz1] at hzz
 obtain⟨y,hy0⟩:∃ X,X=if zc=0 then z1 else zc:=⟨_,rfl⟩
 have hnm:Wn K (p,h,k,n,L)=([],0,[],z1):=by rw[Zfo (by rw[hz1];exact hzz),hz1]
 have hcd:=Cy (C:=C) hnm hzz S
 rw[hzc] at hcd
 have hcon:Qy K C (p,h,k,n,L)=(y,[],[]):=by rw[hcd.1,hy0]
 have hdis:R9 K C (p,h,k,n,L) S=(y,[]):=by rw[hcd.2,hy0]
 clear hcd
 have HY0:Hid (y=if zc=0 then z1 else zc):=hy0
 clear hy0
 have hEX:=hE.later hbX
 have hKX:=hK.later hbX
 have hCX:=hC.later hbX
 have hLX:=hL.later hbX
 have hUX:=hU.later hbX
 have P1:=hide (V9 ka kn kc K p h k n a m c L [] 0 [] z1 X hEX.envp.env hKX hLX hnm)
 have CN:=hide (fun W (hw:Below X.heap.size X W)=>Um ka kn kc K la ln lc C p h k n a m c L y [] [] W (hEX.envp.env.later hw) (hKX.later hw) (hCX.later hw) sC (hLX.later hw) hcon)
 have DC:=hide (fun W (hw:Below X.heap.size X W)=>Vh ka kn kc K la ln lc C p h k n a m c L ua un uc S y [] W (hEX.envp.env.later hw) (hKX.later hw) (hCX.later hw) sC (hLX.later hw) (hUX.later hw) hdis)
 have CB:=hide (fun W (hw:Below X.heap.size X W)=>Xz p h k n a m c L z1 W (hLX.later hw) hz1)
 have BK:=hide (fun W (hw:Below X.heap.size X W)=>Bk.rcheck_is ka kn kc K W (hKX.later hw) z2 hz2)
 have LD:=hide (fun W (hw:Below X.heap.size X W)=>Ry W (hEX.envp.env.later hw))
 have CC:=hide (fun W (hw:Below X.heap.size X W)=>Wc la ln lc C zc W (hCX.later hw) hzc)
 have HBX:=hide hbX
 have HX1:=hide hX1
 have HX2:=hide hX2
 have x00:=Za hX1 0 _ rfl
 have x10:=Za hX2 0 _ rfl
 have x11:=Za hX2 1 _ rfl
 have x12:=Za hX2 2 _ rfl
 have x13:=Za hX2 3 _ rfl
 have x14:=Za hX2 4 _ rfl
 have xl:=lt_of_block hX2
 clear hE hK hC sC hL _sL hU hEX hKX hCX hLX hUX hbX hX1 hX2 _sK hnm hcon hdis hz1 hz2 hzc
 go_enter Tryz.func3,Tryz.ntmps3
 go_wp2_with fail
 rw[←hX]
 clear hX
 (try go_wp2_with fail)
 refine (unhide P1).mono ?_
 rintro e w1 ⟨xa,xn,xc,na,nn,nc,rfl,hXM,sXM,hN,hnc,hb1⟩
 obtain⟨Y,hY⟩:∃ Y,Y=w1.alloc (.cells #[.slice xa xn xc] 24):=⟨_,rfl⟩
 have hbY:Below w1.heap.size w1 Y:=by rw[hY];exact bel_new _ _
 have hYB:Y.heap[w1.heap.size]? = some (.cells [.slice xa xn xc].toArray 24 (0,0)):=by rw[hY];exact Y3 _ _ _
 have HYB:=hide hYB
 have HB1:=hide hb1
 have HBY:=hide (bel_on hb1 hbY)
 have HXM:=hide (hXM.later hbY)
 have HN:=hide (hN.later hbY)
 have HXL:=hide hXM.1
 have HNL:=hide hN.1
 have HSX:=hide sXM
 have C2:=hide ((unhide CN) Y (unhide HBY))
 clear hYB hXM sXM hN hnc hb1 hbY P1 CN x00 x10 x11 x12 x13 x14 xl
 have y1:=((unhide HB1).block _ (lt_of_block (unhide HX1))).trans (unhide HX1)
 have y2:=((unhide HB1).block _ (lt_of_block (unhide HX2))).trans (unhide HX2)
 have y00:=Za y1 0 _ rfl
 have y10:=Za y2 0 _ rfl
 have y11:=Za y2 1 _ rfl
 have y12:=Za y2 2 _ rfl
 have y13:=Za y2 3 _ rfl
 have y14:=Za y2 4 _ rfl
 have yl:=lt_of_block y2
 have yk:=lt_of_block y1
 clear y1 y2
 go_wp2_with fail
 rw[←hY]
 clear hY
 (try go_wp2_with fail)
 refine (unhide C2).mono ?_
 rintro e w2 ⟨am,mm,mc,va,vn,vc,rfl,hM,sM,hV,sV,hb2⟩
 have HB2:=hide (bel_on (unhide HBY) hb2)
 have HY2:=hide hb2
 have HM:=hide hM
 have HV:=hide hV
 have HSM:=hide sM
 have HSV:=hide sV
 have HML:=hide hM.1
 have HVL:=hide hV.1
 have C3:=hide ((unhide DC) w2 (unhide HB2))
 clear hM sM hV sV hb2 C2 DC y00 y10 y11 y12 y13 y14 yl yk
 have y1:=((unhide HB2).block _ (lt_of_block (unhide HX1))).trans (unhide HX1)
 have y2:=((unhide HB2).block _ (lt_of_block (unhide HX2))).trans (unhide HX2)
 have y00:=Za y1 0 _ rfl
 have y10:=Za y2 0 _ rfl
 have y11:=Za y2 1 _ rfl
 have y12:=Za y2 2 _ rfl
 have y13:=Za y2 3 _ rfl
 have y14:=Za y2 4 _ rfl
 have yl:=lt_of_block y2
 have yk:=lt_of_block y1
 clear y1 y2
 go_wp2_with fail
 refine (unhide C3).mono ?_
 rintro e w3 ⟨da,dn,dc,rfl,hD,sD,hb3⟩
 have HB3:=hide (bel_on (unhide HB2) hb3)
 have HY3:=hide (bel_on (unhide HY2) hb3)
 have H23:=hide hb3
 have HD:=hide hD
 have HSD:=hide sD
 have HDL:=hide hD.1
 have C4:=hide ((unhide CB) w3 (unhide HB3))
 clear hD sD hb3 C3 CB y00 y10 y11 y12 y13 y14 yl yk
 have y1:=((unhide HB3).block _ (lt_of_block (unhide HX1))).trans (unhide HX1)
 have y2:=((unhide HB3).block _ (lt_of_block (unhide HX2))).trans (unhide HX2)
 have y00:=Za y1 0 _ rfl
 have y10:=Za y2 0 _ rfl
 have y11:=Za y2 1 _ rfl
 have y12:=Za y2 2 _ rfl
 have y13:=Za y2 3 _ rfl
 have y14:=Za y2 4 _ rfl
 have yl:=lt_of_block y2
 have yk:=lt_of_block y1
 clear y1 y2
 go_wp2_with fail
 refine (unhide C4).mono ?_
 rintro e w4 ⟨rfl,hb4⟩
 have HB4:=hide (bel_on (unhide HB3) hb4)
 have HY4:=hide (bel_on (unhide HY3) hb4)
 have H24:=hide (bel_on (unhide H23) hb4)
 have H34:=hide hb4
 clear hb4 C4 y00 y10 y11 y12 y13 y14 yl yk
 clear BK
 have ge:(z1 == 0)=false:=by simp[hzz]
 have C6:=hide ((unhide LD) w4 (unhide HB4))
 clear LD
 go_wp2_with fail
 refine (unhide C6).mono ?_
 rintro e w6 ⟨rfl,hb6⟩
 have HB6:=hide (bel_on (unhide HB4) hb6)
 have HY6:=hide (bel_on (unhide HY4) hb6)
 clear hb6 C6
 have C7:=hide ((unhide CC) w6 (unhide HB6))
 clear CC
 obtain rfl:0=xn:=unhide HXL
 obtain rfl:0=nn:=unhide HNL
 obtain rfl:0=mm:=unhide HML
 obtain rfl:0=vn:=unhide HVL
 obtain rfl:0=dn:=unhide HDL
 have y1:=((unhide HB6).block _ (lt_of_block (unhide HX1))).trans (unhide HX1)
 have y2:=((unhide HB6).block _ (lt_of_block (unhide HX2))).trans (unhide HX2)
 have y00:=Za y1 0 _ rfl
 have y10:=Za y2 0 _ rfl
 have y11:=Za y2 1 _ rfl
 have y12:=Za y2 2 _ rfl
 have y13:=Za y2 3 _ rfl
 have y14:=Za y2 4 _ rfl
 have yl:=lt_of_block y2
 have yk:=lt_of_block y1
 clear y1 y2
 have y9:=((unhide HY6).block _ (lt_of_block (unhide HYB))).trans (unhide HYB)
 have y90:=Za y9 0 _ rfl
 have y9l:=lt_of_block y9
 clear y9
 have gb:(z1 != 0)=true:=by simp[hzz]
 go_wp2_with fail
 refine (unhide C7).mono ?_
 rintro e w7 ⟨rfl,hb7⟩
 have HW:=hide (bel_on (unhide HBX) (bel_on (unhide HB6) hb7))
 clear hb7 C7 y00 y10 y11 y12 y13 y14 yl yk y90 y9l
 by_cases hc0:zc=0
 ·subst hc0
  obtain rfl:=(unhide HY0).trans (if_pos rfl)
  go_wp2
  go_ret
  exact⟨rfl,unhide HW⟩
 ·have gc:(zc != 0)=true:=by simp[hc0]
  obtain rfl:=(unhide HY0).trans (if_neg hc0)
  go_wp2
  go_ret
  exact⟨rfl,unhide HW⟩
theorem Mu(ka:Option Addr)(kn kc:Nat)(K:List ByteArray)(la:Option Addr)(ln lc:Nat)(C:List Zb)(p h k n:Int)(a:Option Addr)(m c:Nat)(L:List TxD)(ua:Option Addr)(un uc:Nat)(S:List (List Zb))(w:World)(hE:EnvF w)(hK:Bk.TextsAt w ka kn K)(_sK:Bk.SlOk ka kn kc)(hC:CoinsAt w la ln C)(sC:SlOk la ln lc)(hL:TxsAt w a m L)(_sL:SlOk a m c)(hU:UndosAt w ua un S)(hgd:Xq (p,h,k,n,L)=0)(hzz:Bk.bkChk K≠0) :
  Calls Tryz.prog 3 #[.agg #[.slice ka kn kc],.slice la ln lc,.agg #[.int .i64 p,.int .i64 h,.int .i64 k,.int .i64 n,.slice a m c],.slice ua un uc] w fun e w'=>e = .returned (.bool true)∧Below w.heap.size w w':=by
 obtain⟨X,hX⟩:∃ X,X=(w.alloc (.cells #[.slice ka kn kc] 24)).alloc (.cells #[.int .i64 p,.int .i64 h,.int .i64 k,.int .i64 n,.slice a m c] 28):=⟨_,rfl⟩
 have hbX:Below w.heap.size w X:=by rw[hX];exact bel_on (bel_new _ _) (bel_new _ _)
 have hX1:X.heap[w.heap.size]? = some (.cells [.slice ka kn kc].toArray 24 (0,0)):=by
  rw[hX,Below.heap_alloc _ _ _ (by simp)];exact Y3 _ _ _
 have hX2:X.heap[w.heap.size+1]? = some (.cells [.int .i64 p,.int .i64 h,.int .i64 k,.int .i64 n,.slice a m c].toArray 28 (0,0)):=by
  rw[hX]
  have:=Yd (w.alloc (.cells #[.slice ka kn kc] 24)) (.int .i64 p) (.int .i64 h) (.int .i64 k) (.int .i64 n) (.slice a m c) 28
  rw[show (w.alloc (.cells #[.slice ka kn kc] 24)).heap.size=w.heap.size+1 by simp] at this
  exact this
 obtain⟨zc,hzc⟩:∃ z,Zh C=z:=⟨_,rfl⟩
 have hz1:=hgd
 obtain⟨z2,hz2⟩:∃ z,Bk.bkChk K=z:=⟨_,rfl⟩
 rw[hz2] at hzz
 obtain⟨y,hy0⟩:∃ X,X=if zc=0 then z2 else zc:=⟨_,rfl⟩
 have hnm:Wn K (p,h,k,n,L)=([],0,[],z2):=by rw[Zdf hgd (by rw[hz2];exact hzz),hz2]
 have hcd:=Cy (C:=C) hnm hzz S
 rw[hzc] at hcd
 have hcon:Qy K C (p,h,k,n,L)=(y,[],[]):=by rw[hcd.1,hy0]
 have hdis:R9 K C (p,h,k,n,L) S=(y,[]):=by rw[hcd.2,hy0]
 clear hcd
 have HY0:Hid (y=if zc=0 then z2 else zc):=hy0
 clear hy0
 clear hgd
 have hEX:=hE.later hbX
 have hKX:=hK.later hbX
 have hCX:=hC.later hbX
 have hLX:=hL.later hbX
 have hUX:=hU.later hbX
 have P1:=hide (V9 ka kn kc K p h k n a m c L [] 0 [] z2 X hEX.envp.env hKX hLX hnm)
 have CN:=hide (fun W (hw:Below X.heap.size X W)=>Um ka kn kc K la ln lc C p h k n a m c L y [] [] W (hEX.envp.env.later hw) (hKX.later hw) (hCX.later hw) sC (hLX.later hw) hcon)
 have DC:=hide (fun W (hw:Below X.heap.size X W)=>Vh ka kn kc K la ln lc C p h k n a m c L ua un uc S y [] W (hEX.envp.env.later hw) (hKX.later hw) (hCX.later hw) sC (hLX.later hw) (hUX.later hw) hdis)
 have CB:=hide (fun W (hw:Below X.heap.size X W)=>Xz p h k n a m c L 0 W (hLX.later hw) hz1)
 have BK:=hide (fun W (hw:Below X.heap.size X W)=>Bk.rcheck_is ka kn kc K W (hKX.later hw) z2 hz2)
 have LD:=hide (fun W (hw:Below X.heap.size X W)=>Ry W (hEX.envp.env.later hw))
 have CC:=hide (fun W (hw:Below X.heap.size X W)=>Wc la ln lc C zc W (hCX.later hw) hzc)
 have HBX:=hide hbX
 have HX1:=hide hX1
 have HX2:=hide hX2
 have x00:=Za hX1 0 _ rfl
 have x10:=Za hX2 0 _ rfl
 have x11:=Za hX2 1 _ rfl
 have x12:=Za hX2 2 _ rfl
 have x13:=Za hX2 3 _ rfl
 have x14:=Za hX2 4 _ rfl
 have xl:=lt_of_block hX2
 clear hE hK hC sC hL _sL hU hEX hKX hCX hLX hUX hbX hX1 hX2 _sK hnm hcon hdis hz1 hz2 hzc
 go_enter Tryz.func3,Tryz.ntmps3
 go_wp2_with fail
 rw[←hX]
 clear hX
 (try go_wp2_with fail)
 refine (unhide P1).mono ?_
 rintro e w1 ⟨xa,xn,xc,na,nn,nc,rfl,hXM,sXM,hN,hnc,hb1⟩
 obtain⟨Y,hY⟩:∃ Y,Y=w1.alloc (.cells #[.slice xa xn xc] 24):=⟨_,rfl⟩
 have hbY:Below w1.heap.size w1 Y:=by rw[hY];exact bel_new _ _
 have hYB:Y.heap[w1.heap.size]? = some (.cells [.slice xa xn xc].toArray 24 (0,0)):=by rw[hY];exact Y3 _ _ _
 have HYB:=hide hYB
 have HB1:=hide hb1
 have HBY:=hide (bel_on hb1 hbY)
 have HXM:=hide (hXM.later hbY)
 have HN:=hide (hN.later hbY)
 have HXL:=hide hXM.1
 have HNL:=hide hN.1
 have HSX:=hide sXM
 have C2:=hide ((unhide CN) Y (unhide HBY))
 clear hYB hXM sXM hN hnc hb1 hbY P1 CN x00 x10 x11 x12 x13 x14 xl
 have y1:=((unhide HB1).block _ (lt_of_block (unhide HX1))).trans (unhide HX1)
 have y2:=((unhide HB1).block _ (lt_of_block (unhide HX2))).trans (unhide HX2)
 have y00:=Za y1 0 _ rfl
 have y10:=Za y2 0 _ rfl
 have y11:=Za y2 1 _ rfl
 have y12:=Za y2 2 _ rfl
 have y13:=Za y2 3 _ rfl
 have y14:=Za y2 4 _ rfl
 have yl:=lt_of_block y2
 have yk:=lt_of_block y1
 clear y1 y2
 go_wp2_with fail
 rw[←hY]
 clear hY
 (try go_wp2_with fail)
 refine (unhide C2).mono ?_
 rintro e w2 ⟨am,mm,mc,va,vn,vc,rfl,hM,sM,hV,sV,hb2⟩
 have HB2:=hide (bel_on (unhide HBY) hb2)
 have HY2:=hide hb2
 have HM:=hide hM
 have HV:=hide hV
 have HSM:=hide sM
 have HSV:=hide sV
 have HML:=hide hM.1
 have HVL:=hide hV.1
 have C3:=hide ((unhide DC) w2 (unhide HB2))
 clear hM sM hV sV hb2 C2 DC y00 y10 y11 y12 y13 y14 yl yk
 have y1:=((unhide HB2).block _ (lt_of_block (unhide HX1))).trans (unhide HX1)
 have y2:=((unhide HB2).block _ (lt_of_block (unhide HX2))).trans (unhide HX2)
 have y00:=Za y1 0 _ rfl
 have y10:=Za y2 0 _ rfl
 have y11:=Za y2 1 _ rfl
 have y12:=Za y2 2 _ rfl
 have y13:=Za y2 3 _ rfl
 have y14:=Za y2 4 _ rfl
 have yl:=lt_of_block y2
 have yk:=lt_of_block y1
 clear y1 y2
 go_wp2_with fail
 refine (unhide C3).mono ?_
 rintro e w3 ⟨da,dn,dc,rfl,hD,sD,hb3⟩
 have HB3:=hide (bel_on (unhide HB2) hb3)
 have HY3:=hide (bel_on (unhide HY2) hb3)
 have H23:=hide hb3
 have HD:=hide hD
 have HSD:=hide sD
 have HDL:=hide hD.1
 have C4:=hide ((unhide CB) w3 (unhide HB3))
 clear hD sD hb3 C3 CB y00 y10 y11 y12 y13 y14 yl yk
 have y1:=((unhide HB3).block _ (lt_of_block (unhide HX1))).trans (unhide HX1)
 have y2:=((unhide HB3).block _ (lt_of_block (unhide HX2))).trans (unhide HX2)
 have y00:=Za y1 0 _ rfl
 have y10:=Za y2 0 _ rfl
 have y11:=Za y2 1 _ rfl
 have y12:=Za y2 2 _ rfl
 have y13:=Za y2 3 _ rfl
 have y14:=Za y2 4 _ rfl
 have yl:=lt_of_block y2
 have yk:=lt_of_block y1
 clear y1 y2
 go_wp2_with fail
 refine (unhide C4).mono ?_
 rintro e w4 ⟨rfl,hb4⟩
 have HB4:=hide (bel_on (unhide HB3) hb4)
 have HY4:=hide (bel_on (unhide HY3) hb4)
 have H24:=hide (bel_on (unhide H23) hb4)
 have H34:=hide hb4
 clear hb4 C4 y00 y10 y11 y12 y13 y14 yl yk
 have C5:=hide ((unhide BK) w4 (unhide HB4))
 clear BK
 have y1:=((unhide HB4).block _ (lt_of_block (unhide HX1))).trans (unhide HX1)
 have y2:=((unhide HB4).block _ (lt_of_block (unhide HX2))).trans (unhide HX2)
 have y00:=Za y1 0 _ rfl
 have y10:=Za y2 0 _ rfl
 have y11:=Za y2 1 _ rfl
 have y12:=Za y2 2 _ rfl
 have y13:=Za y2 3 _ rfl
 have y14:=Za y2 4 _ rfl
 have yl:=lt_of_block y2
 have yk:=lt_of_block y1
 clear y1 y2
 go_wp2_with fail
 refine (unhide C5).mono ?_
 rintro e w5 ⟨rfl,hb5⟩
 have HB5:=hide (bel_on (unhide HB4) hb5)
 have HY5:=hide (bel_on (unhide HY4) hb5)
 have H25:=hide (bel_on (unhide H24) hb5)
 have H35:=hide (bel_on (unhide H34) hb5)
 clear hb5 C5 y00 y10 y11 y12 y13 y14 yl yk
 have C6:=hide ((unhide LD) w5 (unhide HB5))
 clear LD
 go_wp2_with fail
 refine (unhide C6).mono ?_
 rintro e w6 ⟨rfl,hb6⟩
 have HB6:=hide (bel_on (unhide HB5) hb6)
 have HY6:=hide (bel_on (unhide HY5) hb6)
 clear hb6 C6
 have C7:=hide ((unhide CC) w6 (unhide HB6))
 clear CC
 obtain rfl:0=xn:=unhide HXL
 obtain rfl:0=nn:=unhide HNL
 obtain rfl:0=mm:=unhide HML
 obtain rfl:0=vn:=unhide HVL
 obtain rfl:0=dn:=unhide HDL
 have y1:=((unhide HB6).block _ (lt_of_block (unhide HX1))).trans (unhide HX1)
 have y2:=((unhide HB6).block _ (lt_of_block (unhide HX2))).trans (unhide HX2)
 have y00:=Za y1 0 _ rfl
 have y10:=Za y2 0 _ rfl
 have y11:=Za y2 1 _ rfl
 have y12:=Za y2 2 _ rfl
 have y13:=Za y2 3 _ rfl
 have y14:=Za y2 4 _ rfl
 have yl:=lt_of_block y2
 have yk:=lt_of_block y1
 clear y1 y2
 have y9:=((unhide HY6).block _ (lt_of_block (unhide HYB))).trans (unhide HYB)
 have y90:=Za y9 0 _ rfl
 have y9l:=lt_of_block y9
 clear y9
 have gb:(z2 != 0)=true:=by simp[hzz]
 go_wp2_with fail
 refine (unhide C7).mono ?_
 rintro e w7 ⟨rfl,hb7⟩
 have HW:=hide (bel_on (unhide HBX) (bel_on (unhide HB6) hb7))
 clear hb7 C7 y00 y10 y11 y12 y13 y14 yl yk y90 y9l
 by_cases hc0:zc=0
 ·subst hc0
  obtain rfl:=(unhide HY0).trans (if_pos rfl)
  go_wp2
  go_ret
  exact⟨rfl,unhide HW⟩
 ·have gc:(zc != 0)=true:=by simp[hc0]
  obtain rfl:=(unhide HY0).trans (if_neg hc0)
  go_wp2
  go_ret
  exact⟨rfl,unhide HW⟩
theorem Kf(ka:Option Addr)(kn kc:Nat)(K:List ByteArray)(la:Option Addr)(ln lc:Nat)(C:List Zb)(p h k n:Int)(a:Option Addr)(m c:Nat)(L:List TxD)(ua:Option Addr)(un uc:Nat)(S:List (List Zb))(w:World)(hE:EnvF w)(hK:Bk.TextsAt w ka kn K)(sK:Bk.SlOk ka kn kc)(hC:CoinsAt w la ln C)(sC:SlOk la ln lc)(hL:TxsAt w a m L)(sL:SlOk a m c)(hU:UndosAt w ua un S)(hgd:Xq (p,h,k,n,L)=0)(hbk:Bk.bkChk K=0)(hzz:Zh C≠0) :
  Calls Tryz.prog 3 #[.agg #[.slice ka kn kc],.slice la ln lc,.agg #[.int .i64 p,.int .i64 h,.int .i64 k,.int .i64 n,.slice a m c],.slice ua un uc] w fun e w'=>e = .returned (.bool true)∧Below w.heap.size w w':=by
 obtain⟨X,hX⟩:∃ X,X=(w.alloc (.cells #[.slice ka kn kc] 24)).alloc (.cells #[.int .i64 p,.int .i64 h,.int .i64 k,.int .i64 n,.slice a m c] 28):=⟨_,rfl⟩
 have hbX:Below w.heap.size w X:=by rw[hX];exact bel_on (bel_new _ _) (bel_new _ _)
 have hX1:X.heap[w.heap.size]? = some (.cells [.slice ka kn kc].toArray 24 (0,0)):=by
  rw[hX,Below.heap_alloc _ _ _ (by simp)];exact Y3 _ _ _
 have hX2:X.heap[w.heap.size+1]? = some (.cells [.int .i64 p,.int .i64 h,.int .i64 k,.int .i64 n,.slice a m c].toArray 28 (0,0)):=by
  rw[hX]
  have:=Yd (w.alloc (.cells #[.slice ka kn kc] 24)) (.int .i64 p) (.int .i64 h) (.int .i64 k) (.int .i64 n) (.slice a m c) 28
  rw[show (w.alloc (.cells #[.slice ka kn kc] 24)).heap.size=w.heap.size+1 by simp] at this
  exact this
 obtain⟨zc,hzc⟩:∃ z,Zh C=z:=⟨_,rfl⟩
 rw[hzc] at hzz
 have hz1:=hgd
 have hz2:=hbk
 have hR:=(Bk.right_iff K).1 hbk
 obtain⟨⟨XM,nm,N,x⟩,hnm⟩:∃ r,Wn K (p,h,k,n,L)=r:=⟨_,rfl⟩
 have HNM0:N.length≤maxLen:=Cq hnm hL.1 (Nat.le_trans sL.1 sL.2.1)
 have hcd:=Zaz (K:=K) (b:=(p,h,k,n,L)) (by rw[hzc];exact hzz) S
 rw[hzc] at hcd
 have hcon:Qy K C (p,h,k,n,L)=(zc,[],[]):=hcd.1
 have hdis:R9 K C (p,h,k,n,L) S=(zc,[]):=hcd.2
 clear hcd hgd hbk
 have hEX:=hE.later hbX
 have hKX:=hK.later hbX
 have hCX:=hC.later hbX
 have hLX:=hL.later hbX
 have hUX:=hU.later hbX
 have P1:=hide (V9 ka kn kc K p h k n a m c L XM nm N x X hEX.envp.env hKX hLX hnm)
 have CN:=hide (fun W (hw:Below X.heap.size X W)=>Um ka kn kc K la ln lc C p h k n a m c L zc [] [] W (hEX.envp.env.later hw) (hKX.later hw) (hCX.later hw) sC (hLX.later hw) hcon)
 have DC:=hide (fun W (hw:Below X.heap.size X W)=>Vh ka kn kc K la ln lc C p h k n a m c L ua un uc S zc [] W (hEX.envp.env.later hw) (hKX.later hw) (hCX.later hw) sC (hLX.later hw) (hUX.later hw) hdis)
 have CB:=hide (fun W (hw:Below X.heap.size X W)=>Xz p h k n a m c L 0 W (hLX.later hw) hz1)
 have BK:=hide (fun W (hw:Below X.heap.size X W)=>Bk.rcheck_is ka kn kc K W (hKX.later hw) 0 hz2)
 have LD:=hide (fun W (hw:Below X.heap.size X W)=>Ry W (hEX.envp.env.later hw))
 have CC:=hide (fun W (hw:Below X.heap.size X W)=>Wc la ln lc C zc W (hCX.later hw) hzc)
 have RN:=hide (fun W (hw:Below X.heap.size X W)=>W7 ka kn kc K p h k n a m c L XM nm N x W (hEX.later hw) (hKX.later hw) sK hR (hLX.later hw) hnm)
 have HBX:=hide hbX
 have HX1:=hide hX1
 have HX2:=hide hX2
 have x00:=Za hX1 0 _ rfl
 have x10:=Za hX2 0 _ rfl
 have x11:=Za hX2 1 _ rfl
 have x12:=Za hX2 2 _ rfl
 have x13:=Za hX2 3 _ rfl
 have x14:=Za hX2 4 _ rfl
 have xl:=lt_of_block hX2
 clear hE hK hC sC hL sL hU hEX hKX hCX hLX hUX hbX hX1 hX2 sK hnm hcon hdis hz1 hz2 hzc hR
 go_enter Tryz.func3,Tryz.ntmps3
 go_wp2_with fail
 rw[←hX]
 clear hX
 (try go_wp2_with fail)
 refine (unhide P1).mono ?_
 rintro e w1 ⟨xa,xn,xc,na,nn,nc,rfl,hXM,sXM,hN,hnc,hb1⟩
 obtain⟨Y,hY⟩:∃ Y,Y=w1.alloc (.cells #[.slice xa xn xc] 24):=⟨_,rfl⟩
 have hbY:Below w1.heap.size w1 Y:=by rw[hY];exact bel_new _ _
 have hYB:Y.heap[w1.heap.size]? = some (.cells [.slice xa xn xc].toArray 24 (0,0)):=by rw[hY];exact Y3 _ _ _
 have HYB:=hide hYB
 have HB1:=hide hb1
 have HBY:=hide (bel_on hb1 hbY)
 have HXM:=hide (hXM.later hbY)
 have HN:=hide (hN.later hbY)
 have HXL:=hide hXM.1
 have HNL:=hide hN.1
 have HSX:=hide sXM
 have C2:=hide ((unhide CN) Y (unhide HBY))
 clear hYB hXM sXM hN hnc hb1 hbY P1 CN x00 x10 x11 x12 x13 x14 xl
 have y1:=((unhide HB1).block _ (lt_of_block (unhide HX1))).trans (unhide HX1)
 have y2:=((unhide HB1).block _ (lt_of_block (unhide HX2))).trans (unhide HX2)
 have y00:=Za y1 0 _ rfl
 have y10:=Za y2 0 _ rfl
 have y11:=Za y2 1 _ rfl
 have y12:=Za y2 2 _ rfl
 have y13:=Za y2 3 _ rfl
 have y14:=Za y2 4 _ rfl
 have yl:=lt_of_block y2
 have yk:=lt_of_block y1
 clear y1 y2
 go_wp2_with fail
 rw[←hY]
 clear hY
 (try go_wp2_with fail)
 refine (unhide C2).mono ?_
 rintro e w2 ⟨am,mm,mc,va,vn,vc,rfl,hM,sM,hV,sV,hb2⟩
 have HB2:=hide (bel_on (unhide HBY) hb2)
 have HY2:=hide hb2
 have HM:=hide hM
 have HV:=hide hV
 have HSM:=hide sM
 have HSV:=hide sV
 have HML:=hide hM.1
 have HVL:=hide hV.1
 have C3:=hide ((unhide DC) w2 (unhide HB2))
 clear hM sM hV sV hb2 C2 DC y00 y10 y11 y12 y13 y14 yl yk
 have y1:=((unhide HB2).block _ (lt_of_block (unhide HX1))).trans (unhide HX1)
 have y2:=((unhide HB2).block _ (lt_of_block (unhide HX2))).trans (unhide HX2)
 have y00:=Za y1 0 _ rfl
 have y10:=Za y2 0 _ rfl
 have y11:=Za y2 1 _ rfl
 have y12:=Za y2 2 _ rfl
 have y13:=Za y2 3 _ rfl
 have y14:=Za y2 4 _ rfl
 have yl:=lt_of_block y2
 have yk:=lt_of_block y1
 clear y1 y2
 go_wp2_with fail
 refine (unhide C3).mono ?_
 rintro e w3 ⟨da,dn,dc,rfl,hD,sD,hb3⟩
 have HB3:=hide (bel_on (unhide HB2) hb3)
 have HY3:=hide (bel_on (unhide HY2) hb3)
 have H23:=hide hb3
 have HD:=hide hD
 have HSD:=hide sD
 have HDL:=hide hD.1
 have C4:=hide ((unhide CB) w3 (unhide HB3))
 clear hD sD hb3 C3 CB y00 y10 y11 y12 y13 y14 yl yk
 have y1:=((unhide HB3).block _ (lt_of_block (unhide HX1))).trans (unhide HX1)
 have y2:=((unhide HB3).block _ (lt_of_block (unhide HX2))).trans (unhide HX2)
 have y00:=Za y1 0 _ rfl
 have y10:=Za y2 0 _ rfl
 have y11:=Za y2 1 _ rfl
 have y12:=Za y2 2 _ rfl
 have y13:=Za y2 3 _ rfl
 have y14:=Za y2 4 _ rfl
 have yl:=lt_of_block y2
 have yk:=lt_of_block y1
 clear y1 y2
 go_wp2_with fail
 refine (unhide C4).mono ?_
 rintro e w4 ⟨rfl,hb4⟩
 have HB4:=hide (bel_on (unhide HB3) hb4)
 have HY4:=hide (bel_on (unhide HY3) hb4)
 have H24:=hide (bel_on (unhide H23) hb4)
 have H34:=hide hb4
 clear hb4 C4 y00 y10 y11 y12 y13 y14 yl yk
 have HNM:Hid (nn≤maxLen):=by show _≤_;rw[←unhide HNL];exact HNM0
 clear HNM0
 have C5:=hide ((unhide BK) w4 (unhide HB4))
 clear BK
 have y1:=((unhide HB4).block _ (lt_of_block (unhide HX1))).trans (unhide HX1)
 have y2:=((unhide HB4).block _ (lt_of_block (unhide HX2))).trans (unhide HX2)
 have y00:=Za y1 0 _ rfl
 have y10:=Za y2 0 _ rfl
 have y11:=Za y2 1 _ rfl
 have y12:=Za y2 2 _ rfl
 have y13:=Za y2 3 _ rfl
 have y14:=Za y2 4 _ rfl
 have yl:=lt_of_block y2
 have yk:=lt_of_block y1
 clear y1 y2
 go_wp2_with fail
 refine (unhide C5).mono ?_
 rintro e w5 ⟨rfl,hb5⟩
 have HB5:=hide (bel_on (unhide HB4) hb5)
 have HY5:=hide (bel_on (unhide HY4) hb5)
 have H25:=hide (bel_on (unhide H24) hb5)
 have H35:=hide (bel_on (unhide H34) hb5)
 clear hb5 C5 y00 y10 y11 y12 y13 y14 yl yk
 have C6:=hide ((unhide LD) w5 (unhide HB5))
 clear LD
 go_wp2_with fail
 refine (unhide C6).mono ?_
 rintro e w6 ⟨rfl,hb6⟩
 have HB6:=hide (bel_on (unhide HB5) hb6)
 have HY6:=hide (bel_on (unhide HY5) hb6)
 have H26:=hide (bel_on (unhide H25) hb6)
 have H36:=hide (bel_on (unhide H35) hb6)
 clear hb6 C6
 have C7:=hide ((unhide RN) w6 (unhide HB6))
 clear RN
 have y1:=((unhide HB6).block _ (lt_of_block (unhide HX1))).trans (unhide HX1)
 have y2:=((unhide HB6).block _ (lt_of_block (unhide HX2))).trans (unhide HX2)
 have y00:=Za y1 0 _ rfl
 have y10:=Za y2 0 _ rfl
 have y11:=Za y2 1 _ rfl
 have y12:=Za y2 2 _ rfl
 have y13:=Za y2 3 _ rfl
 have y14:=Za y2 4 _ rfl
 have yl:=lt_of_block y2
 have yk:=lt_of_block y1
 clear y1 y2
 go_wp2_with fail
 refine (unhide C7).mono ?_
 rintro e w7 ⟨ra,rn,rc,sa,sn,sc,rfl,hR1,sR1,hR2,hb7⟩
 have HB7:=hide (bel_on (unhide HB6) hb7)
 have HY7:=hide (bel_on (unhide HY6) hb7)
 have H27:=hide (bel_on (unhide H26) hb7)
 have H37:=hide (bel_on (unhide H36) hb7)
 have HR1:=hide hR1
 have C8:=hide (Bk.eqInt_is na sa nn sn nc sc N N true w7 (unhide HNM) ((unhide HN).later (unhide HY7)) hR2 (by simp))
 clear hR1 sR1 hR2 hb7 C7 y00 y10 y11 y12 y13 y14 yl yk
 have y1:=((unhide HB7).block _ (lt_of_block (unhide HX1))).trans (unhide HX1)
 have y2:=((unhide HB7).block _ (lt_of_block (unhide HX2))).trans (unhide HX2)
 have y00:=Za y1 0 _ rfl
 have y10:=Za y2 0 _ rfl
 have y11:=Za y2 1 _ rfl
 have y12:=Za y2 2 _ rfl
 have y13:=Za y2 3 _ rfl
 have y14:=Za y2 4 _ rfl
 have yl:=lt_of_block y2
 have yk:=lt_of_block y1
 clear y1 y2
 have y9:=((unhide HY7).block _ (lt_of_block (unhide HYB))).trans (unhide HYB)
 have y90:=Za y9 0 _ rfl
 have y9l:=lt_of_block y9
 clear y9
 go_wp2_with fail
 refine (unhide C8).mono ?_
 rintro e w8 ⟨rfl,hb8⟩
 have HB8:=hide (bel_on (unhide HB7) hb8)
 have HY8:=hide (bel_on (unhide HY7) hb8)
 have H28:=hide (bel_on (unhide H27) hb8)
 have H38:=hide (bel_on (unhide H37) hb8)
 have C9:=hide (Bk.eqStr_is xa ra xn rn xc rc XM XM true w8 (Nat.le_trans (unhide HSX).1 (unhide HSX).2.1) ((unhide HXM).later (unhide HY8)) ((unhide HR1).later hb8) (by simp))
 clear hb8 C8 y00 y10 y11 y12 y13 y14 yl yk y90 y9l
 have y1:=((unhide HB8).block _ (lt_of_block (unhide HX1))).trans (unhide HX1)
 have y2:=((unhide HB8).block _ (lt_of_block (unhide HX2))).trans (unhide HX2)
 have y00:=Za y1 0 _ rfl
 have y10:=Za y2 0 _ rfl
 have y11:=Za y2 1 _ rfl
 have y12:=Za y2 2 _ rfl
 have y13:=Za y2 3 _ rfl
 have y14:=Za y2 4 _ rfl
 have yl:=lt_of_block y2
 have yk:=lt_of_block y1
 clear y1 y2
 have y9:=((unhide HY8).block _ (lt_of_block (unhide HYB))).trans (unhide HYB)
 have y90:=Za y9 0 _ rfl
 have y9l:=lt_of_block y9
 clear y9
 go_wp2_with fail
 refine (unhide C9).mono ?_
 rintro e w9 ⟨rfl,hb9⟩
 have HB9:=hide (bel_on (unhide HB8) hb9)
 have H29:=hide (bel_on (unhide H28) hb9)
 have H39:=hide (bel_on (unhide H38) hb9)
 clear hb9 C9 y00 y10 y11 y12 y13 y14 yl yk y90 y9l
 have C10:=hide ((unhide CC) w9 (unhide HB9))
 clear CC
 go_wp2_with fail
 refine (unhide C10).mono ?_
 rintro e w10 ⟨rfl,hb10⟩
 have HB10:=hide (bel_on (unhide HB9) hb10)
 have H2a:=hide (bel_on (unhide H29) hb10)
 have H3a:=hide (bel_on (unhide H39) hb10)
 clear hb10 C10
 have gb:(zc != 0)=true:=by simp[hzz]
 obtain rfl:0=mm:=unhide HML
 obtain rfl:0=vn:=unhide HVL
 obtain rfl:0=dn:=unhide HDL
 have HW:=hide (bel_on (unhide HBX) (unhide HB10))
 go_wp2
 go_ret
 exact⟨rfl,unhide HW⟩
theorem Ke(ka:Option Addr)(kn kc:Nat)(K:List ByteArray)(la:Option Addr)(ln lc:Nat)(C:List Zb)(p h k n:Int)(a:Option Addr)(m c:Nat)(L:List TxD)(ua:Option Addr)(un uc:Nat)(S:List (List Zb))(w:World)(hE:EnvF w)(hK:Bk.TextsAt w ka kn K)(sK:Bk.SlOk ka kn kc)(hC:CoinsAt w la ln C)(sC:SlOk la ln lc)(hL:TxsAt w a m L)(sL:SlOk a m c)(hU:UndosAt w ua un S)(hgd:Xq (p,h,k,n,L)=0)(hbk:Bk.bkChk K=0)(hcz:Zh C=0) :
  Calls Tryz.prog 3 #[.agg #[.slice ka kn kc],.slice la ln lc,.agg #[.int .i64 p,.int .i64 h,.int .i64 k,.int .i64 n,.slice a m c],.slice ua un uc] w fun e w'=>e = .returned (.bool true)∧Below w.heap.size w w':=by
 obtain⟨X,hX⟩:∃ X,X=(w.alloc (.cells #[.slice ka kn kc] 24)).alloc (.cells #[.int .i64 p,.int .i64 h,.int .i64 k,.int .i64 n,.slice a m c] 28):=⟨_,rfl⟩
 have hbX:Below w.heap.size w X:=by rw[hX];exact bel_on (bel_new _ _) (bel_new _ _)
 have hX1:X.heap[w.heap.size]? = some (.cells [.slice ka kn kc].toArray 24 (0,0)):=by
  rw[hX,Below.heap_alloc _ _ _ (by simp)];exact Y3 _ _ _
 have hX2:X.heap[w.heap.size+1]? = some (.cells [.int .i64 p,.int .i64 h,.int .i64 k,.int .i64 n,.slice a m c].toArray 28 (0,0)):=by
  rw[hX]
  have:=Yd (w.alloc (.cells #[.slice ka kn kc] 24)) (.int .i64 p) (.int .i64 h) (.int .i64 k) (.int .i64 n) (.slice a m c) 28
  rw[show (w.alloc (.cells #[.slice ka kn kc] 24)).heap.size=w.heap.size+1 by simp] at this
  exact this
 have hzc:=hcz
 have hRC:=(Z6 C).1 hcz
 have hz1:=hgd
 have hz2:=hbk
 have hR:=(Bk.right_iff K).1 hbk
 obtain⟨⟨XM,nm,N,x⟩,hnm⟩:∃ r,Wn K (p,h,k,n,L)=r:=⟨_,rfl⟩
 have HNM0:N.length≤maxLen:=Cq hnm hL.1 (Nat.le_trans sL.1 sL.2.1)
 obtain⟨⟨y,M,V⟩,hcon⟩:∃ r,Qy K C (p,h,k,n,L)=r:=⟨_,rfl⟩
 obtain⟨⟨v,D⟩,hdis⟩:∃ r,R9 K C (p,h,k,n,L) S=r:=⟨_,rfl⟩
 have HVM0:V.length≤4096:=Zgg hcon
 clear hgd hbk hcz
 have hEX:=hE.later hbX
 have hKX:=hK.later hbX
 have hCX:=hC.later hbX
 have hLX:=hL.later hbX
 have hUX:=hU.later hbX
 have P1:=hide (V9 ka kn kc K p h k n a m c L XM nm N x X hEX.envp.env hKX hLX hnm)
 have CN:=hide (fun W (hw:Below X.heap.size X W)=>Um ka kn kc K la ln lc C p h k n a m c L y M V W (hEX.envp.env.later hw) (hKX.later hw) (hCX.later hw) sC (hLX.later hw) hcon)
 have DC:=hide (fun W (hw:Below X.heap.size X W)=>Vh ka kn kc K la ln lc C p h k n a m c L ua un uc S v D W (hEX.envp.env.later hw) (hKX.later hw) (hCX.later hw) sC (hLX.later hw) (hUX.later hw) hdis)
 have CB:=hide (fun W (hw:Below X.heap.size X W)=>Xz p h k n a m c L 0 W (hLX.later hw) hz1)
 have BK:=hide (fun W (hw:Below X.heap.size X W)=>Bk.rcheck_is ka kn kc K W (hKX.later hw) 0 hz2)
 have LD:=hide (fun W (hw:Below X.heap.size X W)=>Ry W (hEX.envp.env.later hw))
 have CC:=hide (fun W (hw:Below X.heap.size X W)=>Wc la ln lc C 0 W (hCX.later hw) hzc)
 have RN:=hide (fun W (hw:Below X.heap.size X W)=>W7 ka kn kc K p h k n a m c L XM nm N x W (hEX.later hw) (hKX.later hw) sK hR (hLX.later hw) hnm)
 have RC:=hide (fun W (hw:Below X.heap.size X W)=>Zcu ka kn kc K la ln lc C p h k n a m c L y M V W (hEX.later hw) (hKX.later hw) sK hR (hCX.later hw) sC hRC (hLX.later hw) sL hcon)
 have RD:=hide (fun W (hw:Below X.heap.size X W)=>Zcr ka kn kc K la ln lc C p h k n a m c L ua un uc S v D W (hEX.later hw) (hKX.later hw) sK hR (hCX.later hw) sC hRC (hLX.later hw) (hUX.later hw) hdis)
 have HBX:=hide hbX
 have HX1:=hide hX1
 have HX2:=hide hX2
 have x00:=Za hX1 0 _ rfl
 have x10:=Za hX2 0 _ rfl
 have x11:=Za hX2 1 _ rfl
 have x12:=Za hX2 2 _ rfl
 have x13:=Za hX2 3 _ rfl
 have x14:=Za hX2 4 _ rfl
 have xl:=lt_of_block hX2
 clear hE hK hC sC hL sL hU hEX hKX hCX hLX hUX hbX hX1 hX2 sK hnm hcon hdis hz1 hz2 hzc hR hRC
 go_enter Tryz.func3,Tryz.ntmps3
 go_wp2_with fail
 rw[←hX]
 clear hX
 (try go_wp2_with fail)
 refine (unhide P1).mono ?_
 rintro e w1 ⟨xa,xn,xc,na,nn,nc,rfl,hXM,sXM,hN,hnc,hb1⟩
 obtain⟨Y,hY⟩:∃ Y,Y=w1.alloc (.cells #[.slice xa xn xc] 24):=⟨_,rfl⟩
 have hbY:Below w1.heap.size w1 Y:=by rw[hY];exact bel_new _ _
 have hYB:Y.heap[w1.heap.size]? = some (.cells [.slice xa xn xc].toArray 24 (0,0)):=by rw[hY];exact Y3 _ _ _
 have HYB:=hide hYB
 have HB1:=hide hb1
 have HBY:=hide (bel_on hb1 hbY)
 have HXM:=hide (hXM.later hbY)
 have HN:=hide (hN.later hbY)
 have HXL:=hide hXM.1
 have HNL:=hide hN.1
 have HSX:=hide sXM
 have C2:=hide ((unhide CN) Y (unhide HBY))
 clear hYB hXM sXM hN hnc hb1 hbY P1 CN x00 x10 x11 x12 x13 x14 xl
 have y1:=((unhide HB1).block _ (lt_of_block (unhide HX1))).trans (unhide HX1)
 have y2:=((unhide HB1).block _ (lt_of_block (unhide HX2))).trans (unhide HX2)
 have y00:=Za y1 0 _ rfl
 have y10:=Za y2 0 _ rfl
 have y11:=Za y2 1 _ rfl
 have y12:=Za y2 2 _ rfl
 have y13:=Za y2 3 _ rfl
 have y14:=Za y2 4 _ rfl
 have yl:=lt_of_block y2
 have yk:=lt_of_block y1
 clear y1 y2
 go_wp2_with fail
 rw[←hY]
 clear hY
 (try go_wp2_with fail)
 refine (unhide C2).mono ?_
 rintro e w2 ⟨am,mm,mc,va,vn,vc,rfl,hM,sM,hV,sV,hb2⟩
 have HB2:=hide (bel_on (unhide HBY) hb2)
 have HY2:=hide hb2
 have HM:=hide hM
 have HV:=hide hV
 have HSM:=hide sM
 have HSV:=hide sV
 have HML:=hide hM.1
 have HVL:=hide hV.1
 have C3:=hide ((unhide DC) w2 (unhide HB2))
 clear hM sM hV sV hb2 C2 DC y00 y10 y11 y12 y13 y14 yl yk
 have y1:=((unhide HB2).block _ (lt_of_block (unhide HX1))).trans (unhide HX1)
 have y2:=((unhide HB2).block _ (lt_of_block (unhide HX2))).trans (unhide HX2)
 have y00:=Za y1 0 _ rfl
 have y10:=Za y2 0 _ rfl
 have y11:=Za y2 1 _ rfl
 have y12:=Za y2 2 _ rfl
 have y13:=Za y2 3 _ rfl
 have y14:=Za y2 4 _ rfl
 have yl:=lt_of_block y2
 have yk:=lt_of_block y1
 clear y1 y2
 go_wp2_with fail
 refine (unhide C3).mono ?_
 rintro e w3 ⟨da,dn,dc,rfl,hD,sD,hb3⟩
 have HB3:=hide (bel_on (unhide HB2) hb3)
 have HY3:=hide (bel_on (unhide HY2) hb3)
 have H23:=hide hb3
 have HD:=hide hD
 have HSD:=hide sD
 have HDL:=hide hD.1
 have C4:=hide ((unhide CB) w3 (unhide HB3))
 clear hD sD hb3 C3 CB y00 y10 y11 y12 y13 y14 yl yk
 have y1:=((unhide HB3).block _ (lt_of_block (unhide HX1))).trans (unhide HX1)
 have y2:=((unhide HB3).block _ (lt_of_block (unhide HX2))).trans (unhide HX2)
 have y00:=Za y1 0 _ rfl
 have y10:=Za y2 0 _ rfl
 have y11:=Za y2 1 _ rfl
 have y12:=Za y2 2 _ rfl
 have y13:=Za y2 3 _ rfl
 have y14:=Za y2 4 _ rfl
 have yl:=lt_of_block y2
 have yk:=lt_of_block y1
 clear y1 y2
 go_wp2_with fail
 refine (unhide C4).mono ?_
 rintro e w4 ⟨rfl,hb4⟩
 have HB4:=hide (bel_on (unhide HB3) hb4)
 have HY4:=hide (bel_on (unhide HY3) hb4)
 have H24:=hide (bel_on (unhide H23) hb4)
 have H34:=hide hb4
 clear hb4 C4 y00 y10 y11 y12 y13 y14 yl yk
 have HNM:Hid (nn≤maxLen):=by show _≤_;rw[←unhide HNL];exact HNM0
 clear HNM0
 have HVM:Hid (vn≤4096):=by show _≤_;rw[←unhide HVL];exact HVM0
 clear HVM0
 have C5:=hide ((unhide BK) w4 (unhide HB4))
 clear BK
 have y1:=((unhide HB4).block _ (lt_of_block (unhide HX1))).trans (unhide HX1)
 have y2:=((unhide HB4).block _ (lt_of_block (unhide HX2))).trans (unhide HX2)
 have y00:=Za y1 0 _ rfl
 have y10:=Za y2 0 _ rfl
 have y11:=Za y2 1 _ rfl
 have y12:=Za y2 2 _ rfl
 have y13:=Za y2 3 _ rfl
 have y14:=Za y2 4 _ rfl
 have yl:=lt_of_block y2
 have yk:=lt_of_block y1
 clear y1 y2
 go_wp2_with fail
 refine (unhide C5).mono ?_
 rintro e w5 ⟨rfl,hb5⟩
 have HB5:=hide (bel_on (unhide HB4) hb5)
 have HY5:=hide (bel_on (unhide HY4) hb5)
 have H25:=hide (bel_on (unhide H24) hb5)
 have H35:=hide (bel_on (unhide H34) hb5)
 clear hb5 C5 y00 y10 y11 y12 y13 y14 yl yk
 have C6:=hide ((unhide LD) w5 (unhide HB5))
 clear LD
 go_wp2_with fail
 refine (unhide C6).mono ?_
 rintro e w6 ⟨rfl,hb6⟩
 have HB6:=hide (bel_on (unhide HB5) hb6)
 have HY6:=hide (bel_on (unhide HY5) hb6)
 have H26:=hide (bel_on (unhide H25) hb6)
 have H36:=hide (bel_on (unhide H35) hb6)
 clear hb6 C6
 have C7:=hide ((unhide RN) w6 (unhide HB6))
 clear RN
 have y1:=((unhide HB6).block _ (lt_of_block (unhide HX1))).trans (unhide HX1)
 have y2:=((unhide HB6).block _ (lt_of_block (unhide HX2))).trans (unhide HX2)
 have y00:=Za y1 0 _ rfl
 have y10:=Za y2 0 _ rfl
 have y11:=Za y2 1 _ rfl
 have y12:=Za y2 2 _ rfl
 have y13:=Za y2 3 _ rfl
 have y14:=Za y2 4 _ rfl
 have yl:=lt_of_block y2
 have yk:=lt_of_block y1
 clear y1 y2
 go_wp2_with fail
 refine (unhide C7).mono ?_
 rintro e w7 ⟨ra,rn,rc,sa,sn,sc,rfl,hR1,sR1,hR2,hb7⟩
 have HB7:=hide (bel_on (unhide HB6) hb7)
 have HY7:=hide (bel_on (unhide HY6) hb7)
 have H27:=hide (bel_on (unhide H26) hb7)
 have H37:=hide (bel_on (unhide H36) hb7)
 have HR1:=hide hR1
 have C8:=hide (Bk.eqInt_is na sa nn sn nc sc N N true w7 (unhide HNM) ((unhide HN).later (unhide HY7)) hR2 (by simp))
 clear hR1 sR1 hR2 hb7 C7 y00 y10 y11 y12 y13 y14 yl yk
 have y1:=((unhide HB7).block _ (lt_of_block (unhide HX1))).trans (unhide HX1)
 have y2:=((unhide HB7).block _ (lt_of_block (unhide HX2))).trans (unhide HX2)
 have y00:=Za y1 0 _ rfl
 have y10:=Za y2 0 _ rfl
 have y11:=Za y2 1 _ rfl
 have y12:=Za y2 2 _ rfl
 have y13:=Za y2 3 _ rfl
 have y14:=Za y2 4 _ rfl
 have yl:=lt_of_block y2
 have yk:=lt_of_block y1
 clear y1 y2
 have y9:=((unhide HY7).block _ (lt_of_block (unhide HYB))).trans (unhide HYB)
 have y90:=Za y9 0 _ rfl
 have y9l:=lt_of_block y9
 clear y9
 go_wp2_with fail
 refine (unhide C8).mono ?_
 rintro e w8 ⟨rfl,hb8⟩
 have HB8:=hide (bel_on (unhide HB7) hb8)
 have HY8:=hide (bel_on (unhide HY7) hb8)
 have H28:=hide (bel_on (unhide H27) hb8)
 have H38:=hide (bel_on (unhide H37) hb8)
 have C9:=hide (Bk.eqStr_is xa ra xn rn xc rc XM XM true w8 (Nat.le_trans (unhide HSX).1 (unhide HSX).2.1) ((unhide HXM).later (unhide HY8)) ((unhide HR1).later hb8) (by simp))
 clear hb8 C8 y00 y10 y11 y12 y13 y14 yl yk y90 y9l
 have y1:=((unhide HB8).block _ (lt_of_block (unhide HX1))).trans (unhide HX1)
 have y2:=((unhide HB8).block _ (lt_of_block (unhide HX2))).trans (unhide HX2)
 have y00:=Za y1 0 _ rfl
 have y10:=Za y2 0 _ rfl
 have y11:=Za y2 1 _ rfl
 have y12:=Za y2 2 _ rfl
 have y13:=Za y2 3 _ rfl
 have y14:=Za y2 4 _ rfl
 have yl:=lt_of_block y2
 have yk:=lt_of_block y1
 clear y1 y2
 have y9:=((unhide HY8).block _ (lt_of_block (unhide HYB))).trans (unhide HYB)
 have y90:=Za y9 0 _ rfl
 have y9l:=lt_of_block y9
 clear y9
 go_wp2_with fail
 refine (unhide C9).mono ?_
 rintro e w9 ⟨rfl,hb9⟩
 have HB9:=hide (bel_on (unhide HB8) hb9)
 have H29:=hide (bel_on (unhide H28) hb9)
 have H39:=hide (bel_on (unhide H38) hb9)
 clear hb9 C9 y00 y10 y11 y12 y13 y14 yl yk y90 y9l
 have C10:=hide ((unhide CC) w9 (unhide HB9))
 clear CC
 go_wp2_with fail
 refine (unhide C10).mono ?_
 rintro e w10 ⟨rfl,hb10⟩
 have HB10:=hide (bel_on (unhide HB9) hb10)
 have H2a:=hide (bel_on (unhide H29) hb10)
 have H3a:=hide (bel_on (unhide H39) hb10)
 clear hb10 C10
 have C11:=hide ((unhide RC) w10 (unhide HB10))
 clear RC
 have y1:=((unhide HB10).block _ (lt_of_block (unhide HX1))).trans (unhide HX1)
 have y2:=((unhide HB10).block _ (lt_of_block (unhide HX2))).trans (unhide HX2)
 have y00:=Za y1 0 _ rfl
 have y10:=Za y2 0 _ rfl
 have y11:=Za y2 1 _ rfl
 have y12:=Za y2 2 _ rfl
 have y13:=Za y2 3 _ rfl
 have y14:=Za y2 4 _ rfl
 have yl:=lt_of_block y2
 have yk:=lt_of_block y1
 clear y1 y2
 go_wp2_with fail
 refine (unhide C11).mono ?_
 rintro e w11 ⟨am2,mm2,mc2,va2,vn2,vc2,rfl,hM2,sM2,hV2,sV2,hb11⟩
 have HB11:=hide (bel_on (unhide HB10) hb11)
 have H2b:=hide (bel_on (unhide H2a) hb11)
 have H3b:=hide (bel_on (unhide H3a) hb11)
 have HM2:=hide hM2
 have HV2:=hide hV2
 have C12:=hide ((unhide RD) w11 (unhide HB11))
 clear RD hM2 sM2 hV2 sV2 hb11 C11 y00 y10 y11 y12 y13 y14 yl yk
 have y1:=((unhide HB11).block _ (lt_of_block (unhide HX1))).trans (unhide HX1)
 have y2:=((unhide HB11).block _ (lt_of_block (unhide HX2))).trans (unhide HX2)
 have y00:=Za y1 0 _ rfl
 have y10:=Za y2 0 _ rfl
 have y11:=Za y2 1 _ rfl
 have y12:=Za y2 2 _ rfl
 have y13:=Za y2 3 _ rfl
 have y14:=Za y2 4 _ rfl
 have yl:=lt_of_block y2
 have yk:=lt_of_block y1
 clear y1 y2
 go_wp2_with fail
 refine (unhide C12).mono ?_
 rintro e w12 ⟨da2,dn2,dc2,rfl,hD2,sD2,hb12⟩
 have HB12:=hide (bel_on (unhide HB11) hb12)
 have H2c:=hide (bel_on (unhide H2b) hb12)
 have H3c:=hide (bel_on (unhide H3b) hb12)
 have HMc:=hide ((unhide HM2).later hb12)
 have HVc:=hide ((unhide HV2).later hb12)
 have HDc:=hide hD2
 have C13:=hide (Uv am am2 mm mm2 mc mc2 M M true w12 (Nat.le_trans (unhide HSM).1 (unhide HSM).2.1) ((unhide HM).later (unhide H2c)) (unhide HMc) (U7 rfl))
 clear hD2 sD2 hb12 C12 y00 y10 y11 y12 y13 y14 yl yk
 go_wp2_with fail
 refine (unhide C13).mono ?_
 rintro e w13 ⟨rfl,hb13⟩
 have HB13:=hide (bel_on (unhide HB12) hb13)
 have H2d:=hide (bel_on (unhide H2c) hb13)
 have H3d:=hide (bel_on (unhide H3c) hb13)
 have HDd:=hide ((unhide HDc).later hb13)
 have C14:=hide (Kb va va2 vn vn2 vc vc2 V V true w13 (unhide HVM) ((unhide HV).later (unhide H2d)) ((unhide HVc).later hb13) (P9 V))
 clear hb13 C13
 go_wp2_with fail
 refine (unhide C14).mono ?_
 rintro e w14 ⟨rfl,hb14⟩
 have HB14:=hide (bel_on (unhide HB13) hb14)
 have H3e:=hide (bel_on (unhide H3d) hb14)
 have C15:=hide (Uv da da2 dn dn2 dc dc2 D D true w14 (Nat.le_trans (unhide HSD).1 (unhide HSD).2.1) ((unhide HD).later (unhide H3e)) ((unhide HDd).later hb14) (U7 rfl))
 clear hb14 C14
 go_wp2_with fail
 refine (unhide C15).mono ?_
 rintro e w15 ⟨rfl,hb15⟩
 have HW:=hide (bel_on (unhide HBX) (bel_on (unhide HB14) hb15))
 clear hb15 C15
 go_wp2
 go_ret
 exact⟨rfl,unhide HW⟩
theorem Fc(ka:Option Addr)(kn kc:Nat)(K:List ByteArray)(la:Option Addr)(ln lc:Nat)(C:List Zb)(p h k n:Int)(a:Option Addr)(m c:Nat)(L:List TxD)(ua:Option Addr)(un uc:Nat)(S:List (List Zb))(w:World)(hE:EnvF w)(hK:Bk.TextsAt w ka kn K)(sK:Bk.SlOk ka kn kc)(hC:CoinsAt w la ln C)(sC:SlOk la ln lc)(hL:TxsAt w a m L)(sL:SlOk a m c)(hU:UndosAt w ua un S):Calls Tryz.prog 3 #[.agg #[.slice ka kn kc],.slice la ln lc,.agg #[.int .i64 p,.int .i64 h,.int .i64 k,.int .i64 n,.slice a m c],.slice ua un uc] w fun e w'=>e = .returned (.bool true)∧Below w.heap.size w w':=by
 by_cases h1:Xq (p,h,k,n,L)=0
 ·by_cases h2:Bk.bkChk K=0
  ·by_cases h3:Zh C=0
   ·exact Ke ka kn kc K la ln lc C p h k n a m c L ua un uc S w hE hK sK hC sC hL sL hU h1 h2 h3
   ·exact Kf ka kn kc K la ln lc C p h k n a m c L ua un uc S w hE hK sK hC sC hL sL hU h1 h2 h3
  ·exact Mu ka kn kc K la ln lc C p h k n a m c L ua un uc S w hE hK sK hC sC hL sL hU h1 h2
 ·exact Fb ka kn kc K la ln lc C p h k n a m c L ua un uc S w hE hK sK hC sC hL sL hU h1
end Go.Proofs.YtepmnpapdknocaaGreatDoor
