import Derived.Test.YtpikejjiignchaaGreatDoorG32
import Derived.Test.YtpikejjiignchaaGreatDoorG43
set_option maxHeartbeats 12800000
set_option maxRecDepth 10000
namespace Go.Proofs.YtpikejjiignchaaGreatDoor
open Go.RowKit
theorem sw_at{h:Int}{T:List TxD}{s:List ByteArray×List Zg}{k:Nat}(hk:k<T.length):Yb h (T.drop k) s=if (doD h s T[k]).1=0 then (T[k] :: (Yb h (T.drop (k+1)) (doD h s T[k]).2).1,(Yb h (T.drop (k+1)) (doD h s T[k]).2).2) else Yb h (T.drop (k+1)) s:=by
 rw[List.drop_eq_getElem_cons hk,Yb]
theorem Zer{t:TxD}(h:Zo t=0):txT t=U7 t:=by unfold txT;rw[if_pos h]
theorem Zdw{h:Int}{K:List ByteArray}{C:List Zg}{t:TxD}(hK:Bk.Right K)(hc:Zo t=0)(hi:t.2.1.length≠0){K2:List ByteArray}{n x:Int}(hn:Bk.nm K (U7 t)=(K2,n,x)):(x≠0→(doD h (K,C) t).1≠0)∧(x=0→∀ y M S,apD C t n h=(y,M,S)→(y≠0→(doD h (K,C) t).1≠0)∧(y=0→doD h (K,C) t=(0,K2,M))):=by
 have e:Bk.nameR K (txT t)=(K2,n,x):=by unfold Bk.nameR;rw[if_pos ((Bk.right_iff K).2 hK),Zer hc];exact hn
 constructor
 ·intro hx
  unfold doD
  rw[if_neg (fun q=>q hc),if_neg hi]
  simp only[e]
  rw[if_pos hx]
  exact hx
 ·intro hx y M S ha
  unfold doD
  rw[if_neg (fun q=>q hc),if_neg hi]
  simp only[e,ha]
  rw[if_neg (fun q=>q hx)]
  constructor
  ·intro hy;rw[if_pos hy];exact hy
  ·intro hy;rw[if_neg (fun q=>q hy)]
theorem Zdx{h:Int}{s:List ByteArray×List Zg}{t:TxD}(hc:Zo t≠0∨t.2.1.length=0):(doD h s t).1≠0:=by
 unfold doD
 by_cases q:Zo t≠0
 ·rw[if_pos q];exact q
 ·rw[if_neg q,if_pos (hc.resolve_left q)];exact (show (4:Int)≠0 by decide)
theorem To{C:List Zg}(h:Z5 C):0≤Zp C∧Zp C≤720000000000:=by
 have:=Rx C C.length (fun z hz=>by have:=Yp (h.one z hz);omega)
 rw[List.take_length] at this
 have:=h.len
 omega
def Kc(j:Nat)(u:Value):Prop:=(j=0→∃ n,u = .int .i64 n)∧(j≠0→∃ a n c,u = .slice a n c)
section
variable {w w' : World} {v : Value} {S : Nat → Prop}
theorem P7{b o:Nat}{n:Int}(h:Shp Kc 3 52 w v)(hb:v.ownBlock=some b)(hc:w.cell? ⟨b,o,none⟩=some (.int .i64 n)):o % 3=0:=by
 obtain⟨cur,h1,h2⟩:=h b hb
 have hc:cur[o]? = some (.int .i64 n):=by simpa[World.cell?,h1] using hc
 have:=h2 o _ hc
 rcases Nat.eq_zero_or_pos (o % 3) with q|q
 ·exact q
 ·obtain⟨a,k,c,e⟩:=this.2 (by omega)
  cases e
theorem Zex{b o:Nat}{s:ByteArray}(h:Shp Kc 3 52 w v)(hb:v.ownBlock=some b)(hc:w.cell? ⟨b,o,none⟩=some (.string s)):False:=by
 obtain⟨cur,h1,h2⟩:=h b hb
 have hc:cur[o]? = some (.string s):=by simpa[World.cell?,h1] using hc
 have:=h2 o _ hc
 rcases Nat.eq_zero_or_pos (o % 3) with q|q
 ·obtain⟨k,e⟩:=this.1 q
  cases e
 ·obtain⟨a,k,c,e⟩:=this.2 (by omega)
  cases e
theorem Zfk{a:Option Addr}{n:Nat}{L:List (Int×Int)}(h:OpsAt w a n L)(hs:Shp Kc 3 52 w v)(hg:Gr w w' (fun q=>v.ownBlock=some q)):OpsAt w' a n L:=by
 refine⟨h.1,fun h0=>?_⟩
 obtain⟨b,off,rfl,hc⟩:=h.2 h0
 refine⟨b,off,rfl,fun i hi=>?_⟩
 obtain⟨c0,c1⟩:=hc i hi
 have hb:=hg.block b (World.block_lt_of_cell? _ _ c0) (fun e=>by have:=P7 hs e c0;have:=P7 hs e c1;omega)
 exact⟨(World.cell?_of_block (a:=⟨b,off+i*2,none⟩) hb).trans c0,(World.cell?_of_block (a:=⟨b,off+i*2+1,none⟩) hb).trans c1⟩
theorem Zai{a:Option Addr}{n:Nat}{L:List Zg}(h:CoinsAt w a n L)(hs:Shp Kc 3 52 w v)(hg:Gr w w' (fun q=>v.ownBlock=some q)):CoinsAt w' a n L:=by
 refine⟨h.1,fun h0=>?_⟩
 obtain⟨b,off,rfl,hl,hc⟩:=h.2 h0
 refine⟨b,off,rfl,Nat.lt_of_lt_of_le hl hg.size,fun i hi=>?_⟩
 obtain⟨c0,c1,c2,⟨la,ln,lc,c3,h5,h6⟩,c4,c5⟩:=hc i hi
 have hb:=hg.block b hl (fun e=>by have:=P7 hs e c0;have:=P7 hs e c1;omega)
 have k:=fun (o:Nat)=>World.cell?_of_block (a:=⟨b,o,none⟩) hb
 exact⟨(k _).trans c0,(k _).trans c1,(k _).trans c2,⟨la,ln,lc,(k _).trans c3,Zfk h5 hs hg,h6⟩,(k _).trans c4,(k _).trans c5⟩
theorem Cv{a:Option Addr}{n:Nat}{L:List ByteArray}(h:Bk.TextsAt w a n L)(hs:Shp Kc 3 52 w v)(hg:Gr w w' (fun q=>v.ownBlock=some q)):Bk.TextsAt w' a n L:=by
 refine⟨h.1,fun h0=>?_⟩
 obtain⟨b,off,rfl,hc⟩:=h.2 h0
 refine⟨b,off,rfl,fun i hi=>?_⟩
 have c0:=hc i hi
 have hb:=hg.block b (World.block_lt_of_cell? _ _ c0) (fun e=>Zex hs e c0)
 exact (World.cell?_of_block (a:=⟨b,off+i,none⟩) hb).trans c0
end
def Zhy(w w':World)(K:List ByteArray)(S:List TxD)(C:List Zg)(F:Int)(e:Ending):Prop:=
 ∃ ka kn kc sa sn sc oa on oc,e = .returned (.tuple #[.slice ka kn kc,.slice sa sn sc,.slice oa on oc,.int .i64 F])∧Bk.TextsAt w' ka kn K∧Bk.SlOk ka kn kc∧TxsAt w' sa sn S∧SlOk sa sn sc∧CoinsAt w' oa on C∧SlOk oa on oc∧Below w.heap.size w w'
def Zen(w0 w w':World)(K:List ByteArray)(S:List TxD)(C:List Zg)(F:Int)(e:Ending):Prop:=
 ∃ ka kn kc sa sn sc oa on oc Kl,e = .returned (.tuple #[.slice ka kn kc,.slice sa sn sc,.slice oa on oc,.int .i64 F])∧Bk.TextsAt w' ka kn K∧Bk.SlOk ka kn kc∧TxsAt w' sa sn S∧SlOk sa sn sc∧CoinsAt w' oa on C∧SlOk oa on oc∧Below w.heap.size w w'∧w'.ownsRow w.heap.size 52 3 (.slice sa sn sc) sn Kl.flatten∧∀ U,Below w0.heap.size w0 U→Tr.AllC Tr.txR U Kl S
theorem Gs(w0:World)(ka:Option Addr)(kn kc:Nat)(K:List ByteArray)(la:Option Addr)(ln lc:Nat)(C0:List Zg)(a:Option Addr)(m c:Nat)(T:List TxD)(ht:Int)(K1:List ByteArray)(S1:List TxD)(C1:List Zg)(w:World)(hE:EnvF w)(hK:Bk.TextsAt w ka kn K)(sK:Bk.SlOk ka kn kc)(hR:Bk.Right K)(hC:CoinsAt w la ln C0)(sC:SlOk la ln lc)(hRC:Z5 C0)(hw0:Below w0.heap.size w0 w)(hT:TxsAt w0 a m T)(hm:m≤8)(hx:Yb ht T (K,C0)=(S1,K1,C1)) :
  Calls Tryz.prog 23 #[.slice ka kn kc,.slice la ln lc,.slice a m c,.int .i64 ht] w fun e w'=>Zen w0 w w' K1 S1 C1 (Zp C0 - Zp C1) e:=by
 have zT:T.length=m:=hT.1
 obtain⟨i1,ii,iz0,iz1,iz2⟩:=info_parts Tryz.infoTx9
 have HE:Hid (∀ V,Below w.heap.size w V→EnvF V):=fun V hv=>hE.later hv
 have HT:=Zb hT
 have HW0:=Zb hw0
 have ZT:=Zb zT
 have HX0:Hid (([]:List TxD)++(Yb ht (T.drop 0) (K,C0)).1=S1∧(Yb ht (T.drop 0) (K,C0)).2=(K1,C1)):=by
  show _∧_
  rw[List.drop_zero,hx]
  exact⟨rfl,rfl⟩
 have HK0:=Zb (⟨hK,sK,hR⟩:Bk.TextsAt w ka kn K∧Bk.SlOk ka kn kc∧Bk.Right K)
 have HC0:=Zb (⟨hC,sC,hRC⟩:CoinsAt w la ln C0∧SlOk la ln lc∧Z5 C0)
 have HO0:Hid (w.ownsRow w.heap.size 52 3 (.slice none 0 0) ([]:List TxD).length ([]:List (List Value)).flatten):=⟨rfl,.inl ⟨rfl,rfl⟩⟩
 have HA0:Hid (∀ V,Below w0.heap.size w0 V→Tr.AllC Tr.txR V [] []):=fun _ _=>⟨rfl,fun i h1 _=>absurd h1 (by simp)⟩
 have HP0:Hid (Shp Kc 3 52 w (.slice none 0 0)):=fun g hg=>by simp[Value.ownBlock] at hg
 have HF0:Hid ((0:Int)=Zp C0 - Zp C0):=by show _=_;omega
 have HB0:Hid (Below w.heap.size w w):=Below.refl _ _
 have HCB:=Zb (To hRC)
 clear hE hK sK hR hC sC hRC hT hx zT hw0
 go_enter Tryz.func23,Tryz.ntmps23
 go_wp2
 go_loopw [8,9,10,11,23] (fun bv sv cv fv iv V=>∃ (k:Nat) (ba:Option Addr) (bn bc:Nat) (K':List ByteArray) (oa:Option Addr) (oon oc:Nat) (C:List Zg) (S:List TxD) (Kl:List (List Value)) (F:Int) (vv:Value),k≤m∧vv=sv∧bv = .slice ba bn bc∧cv = .slice oa oon oc∧fv = .int .i64 F∧iv = .int .i64 (k:Int)∧Hid (Bk.TextsAt V ba bn K'∧Bk.SlOk ba bn bc∧Bk.Right K')∧Hid (CoinsAt V oa oon C∧SlOk oa oon oc∧Z5 C)∧Hid (V.ownsRow w.heap.size 52 3 vv S.length Kl.flatten)∧Hid (∀ U,Below w0.heap.size w0 U→Tr.AllC Tr.txR U Kl S)∧Hid (Shp Kc 3 52 V vv)∧Hid (F=Zp C0 - Zp C)∧Hid (S.length≤k)∧Hid (S++(Yb ht (T.drop k) (K',C)).1=S1∧(Yb ht (T.drop k) (K',C)).2=(K1,C1))∧Hid (Below w.heap.size w V)) (fun _ _ _ _ iv _=>m - (intOf iv).toNat)
 case atStart=>exact⟨0,ka,kn,kc,K,la,ln,lc,C0,[],[],0,_,Nat.zero_le _,rfl,rfl,rfl,rfl,rfl,HK0,HC0,HO0,HA0,HP0,HF0,Nat.zero_le _,HX0,HB0⟩
 case round=>
  obtain⟨k,ba,bn,bc,K',oa,oon,oc,C,S,Kl,F,vv,hk,rfl,rfl,rfl,rfl,rfl,HK,HC,HO,HA,HP,HF,HSK,HQ,HB⟩:=hrel
  clear HX0 HK0 HC0 HO0 HA0 HP0 HF0 HB0
  by_cases hlt:k<m
  ·have hkI:(k:Int)<(m:Int):=by omega
   have hkT:k<T.length:=by rw[Za ZT];exact hlt
   have hw1:IntKind.i64.wrap ((k:Int)+1)=((k:Int)+1):=by rw[IntKind.wrap_i64];omega
   obtain⟨th,I,O,htx⟩:∃ th I O,T[k]=(th,I,O):=⟨_,_,_,rfl⟩
   obtain⟨tb,tof,rfl,_,htc⟩:=(Za HT).2 (by omega)
   have tc:=TxAt.kept _ _ _ _ _ (Ze (Za HW0) (Za HB)) (htc k hkT)
   have tcw:=htc k hkT
   rw[htx] at tc tcw
   obtain⟨c0,⟨ai,ni,ci,c1,hIn,sIn⟩,ao,no,co,c2,hOut,sOut⟩:=tc
   simp only at c0 c1 c2 hIn hOut
   have HQ2:=Za HQ
   rw[sw_at hkT,htx] at HQ2
   have HQ2:=Zb HQ2
   have AC:Hid (∀ U,Below wr.heap.size wr U→Tr.txR.C U [.int .i64 th,.slice ai ni ci,.slice ao no co] (th,I,O)):=fun U hu=>⟨ai,ni,ci,ao,no,co,rfl,hIn.later hu,sIn,hOut.later hu,sOut⟩
   have HIO:=Zb (And.intro hIn hOut)
   have hni:I.length=ni:=hIn.1
   obtain⟨z,hz⟩:∃ z,Zo (th,I,O)=z:=⟨_,rfl⟩
   obtain⟨X,hX⟩:∃ X,X=wr.alloc (.cells #[.int .i64 th,.slice ai ni ci,.slice ao no co] 52):=⟨_,rfl⟩
   have hbX:Below wr.heap.size wr X:=by rw[hX];exact Zf _ _
   have X1:Hid (X.heap[wr.heap.size]? = some (.cells [.int .i64 th,.slice ai ni ci,.slice ao no co].toArray 52 (0,0))):=by show _=_;rw[hX];exact Zl _ _ _ _ _
   have CK:=Zb (R8 th ai ao ni ci no co I O X (hIn.later hbX) (hOut.later hbX))
   rw[hz] at CK
   have cl:=World.block_lt_of_cell? _ _ c0
   have NEXT:Hid ((doD ht (K',C) (th,I,O)).1≠0→S++(Yb ht (T.drop (k+1)) (K',C)).1=S1∧(Yb ht (T.drop (k+1)) (K',C)).2=(K1,C1)):=fun q=>by
    have e:=Za HQ2
    rw[if_neg q] at e
    exact e
   have LEFT:Hid (∀ V,Below wr.heap.size wr V→(doD ht (K',C) (th,I,O)).1≠0→∃ (k1:Nat) (ba1:Option Addr) (bn1 bc1:Nat) (K2:List ByteArray) (oa1:Option Addr) (oon1 oc1:Nat) (C2:List Zg) (S2:List TxD) (Kl2:List (List Value)) (F2:Int) (v2:Value),k1≤m∧v2=vv∧Value.slice ba bn bc = .slice ba1 bn1 bc1∧Value.slice oa oon oc = .slice oa1 oon1 oc1∧Value.int .i64 F = .int .i64 F2∧Value.int .i64 ((k:Int)+1) = .int .i64 (k1:Int)∧Hid (Bk.TextsAt V ba1 bn1 K2∧Bk.SlOk ba1 bn1 bc1∧Bk.Right K2)∧Hid (CoinsAt V oa1 oon1 C2∧SlOk oa1 oon1 oc1∧Z5 C2)∧Hid (V.ownsRow w.heap.size 52 3 v2 S2.length Kl2.flatten)∧Hid (∀ U,Below w0.heap.size w0 U→Tr.AllC Tr.txR U Kl2 S2)∧Hid (Shp Kc 3 52 V v2)∧Hid (F2=Zp C0 - Zp C2)∧Hid (S2.length≤k1)∧Hid (S2++(Yb ht (T.drop k1) (K2,C2)).1=S1∧(Yb ht (T.drop k1) (K2,C2)).2=(K1,C1))∧Hid (Below w.heap.size w V)):=fun V hv q=>
    ⟨k+1,ba,bn,bc,K',oa,oon,oc,C,S,Kl,F,vv,by omega,rfl,rfl,rfl,rfl,by push_cast;rfl,(⟨(Za HK).1.later hv,(Za HK).2.1,(Za HK).2.2⟩:Bk.TextsAt V ba bn K'∧Bk.SlOk ba bn bc∧Bk.Right K'),(⟨(Za HC).1.later hv,(Za HC).2.1,(Za HC).2.2⟩:CoinsAt V oa oon C∧SlOk oa oon oc∧Z5 C),(Gr.of (S:=fun _=>False) hv).own (Za HO) (fun _ _ q=>q),HA,(fun g hg=>by obtain⟨cur,q1,q2⟩:=(Za HP) g hg;exact⟨cur,(hv.block g (lt_of_block q1)).trans q1,q2⟩),HF,Nat.le_succ_of_le (Za HSK),(Za NEXT) q,Ze (Za HB) hv⟩
   have ACW:Hid (∀ U,Below w0.heap.size w0 U→Tr.txR.C U [.int .i64 th,.slice ai ni ci,.slice ao no co] (th,I,O)):=fun U hu=>(by
    obtain⟨d0,⟨ai',ni',ci',d1,dI,dsI⟩,ao',no',co',d2,dO,dsO⟩:=TxAt.kept _ _ _ _ _ hu tcw
    obtain⟨f0,⟨ai2,ni2,ci2,f1,fI,fsI⟩,ao2,no2,co2,f2,fO,fsO⟩:=tcw
    have e1:=Option.some.inj (c1.symm.trans (Zc (Ze (Za HW0) (Za HB)) f1))
    have e2:=Option.some.inj (c2.symm.trans (Zc (Ze (Za HW0) (Za HB)) f2))
    injection e1 with e11 e12 e13
    injection e2 with e21 e22 e23
    subst e11 e12 e13 e21 e22 e23
    exact⟨_,_,_,_,_,_,rfl,fI.later hu,fsI,fO.later hu,fsO⟩)
   clear hIn hOut sIn sOut htc tcw HQ
   go_wp2_with fail
   rw[←hX]
   have xc0:=Zd (Za X1) 0 _ rfl
   have xc1:=Zd (Za X1) 1 _ rfl
   have xc2:=Zd (Za X1) 2 _ rfl
   have xl:=lt_of_block (Za X1)
   have HBX:=Zb hbX
   clear hX hbX c0 c1 c2 cl
   (try go_wp2_with fail)
   refine (Za CK).mono ?_
   rintro e w2 ⟨rfl,hb2⟩
   have HB2:=Zb (Ze (Za HBX) hb2)
   have X2:Hid (w2.heap[wr.heap.size]? = some (.cells [.int .i64 th,.slice ai ni ci,.slice ao no co].toArray 52 (0,0))):=(hb2.block _ (lt_of_block (Za X1))).trans (Za X1)
   clear hb2 CK X1 xc0 xc1 xc2 xl HBX
   have xc0:=Zd (Za X2) 0 _ rfl
   have xc1:=Zd (Za X2) 1 _ rfl
   have xc2:=Zd (Za X2) 2 _ rfl
   have xl:=lt_of_block (Za X2)
   by_cases hz0:z=0
   ·subst hz0
    by_cases hn0:ni=0
    ·subst hn0
     go_wp2_with fail
     go_roundw
     case rel=>exact (Za LEFT) _ (Za HB2) (Zdx (.inr (by exact hni)))
     case measure=>simp[intOf];omega
    ·have hnI:((ni:Int) == 0)=false:=by simp;omega
     have hnJ:¬((ni:Int)=0):=by omega
     obtain⟨K2,n2,x2,hnm⟩:∃ K2 n2 x2,Bk.nm K' (U7 (th,I,O))=(K2,n2,x2):=⟨_,_,_,rfl⟩
     have DN:=Zdw (h:=ht) (C:=C) (Za HK).2.2 hz (by show I.length≠0;omega) hnm
     have CT:=Zb (Cr th ai ao ni ci no co I O w2 ((Za HE) w2 (Ze (Za HB) (Za HB2))) ((Za HIO).1.later (Za HB2)) ((Za HIO).2.later (Za HB2)) hz)
     have CN:=Zb (fun V (hv:Below wr.heap.size wr V)=>Bk.named_is ba bn bc K' K2 (U7 (th,I,O)) n2 x2 V (Za HK).2.2.1 ((Za HK).1.later hv) (Za HK).2.1 hnm)
     have HNM:=Zb hnm
     have HDN:=Zb DN
     have HZ:=Zb hz
     clear hnm DN hz
     go_wp2_with fail
     refine (Za CT).mono ?_
     rintro e w3 ⟨rfl,hb3⟩
     have HB3:=Zb (Ze (Za HB2) hb3)
     have X3:Hid (w3.heap[wr.heap.size]? = some (.cells [.int .i64 th,.slice ai ni ci,.slice ao no co].toArray 52 (0,0))):=(hb3.block _ (lt_of_block (Za X2))).trans (Za X2)
     have C4:=Zb ((Za CN) w3 (Za HB3))
     clear hb3 CT CN X2 HB2 xc0 xc1 xc2 xl
     go_wp2_with fail
     refine (Za C4).mono ?_
     rintro e w4 ⟨⟨b4,b4n,b4c,rfl,hT4,sT4,-⟩,hb4⟩
     have HB4:=Zb (Ze (Za HB3) hb4)
     have X4:Hid (w4.heap[wr.heap.size]? = some (.cells [.int .i64 th,.slice ai ni ci,.slice ao no co].toArray 52 (0,0))):=(hb4.block _ (lt_of_block (Za X3))).trans (Za X3)
     have HT4:=Zb (And.intro hT4 sT4)
     clear hb4 C4 X3 HB3 hT4 sT4
     have xc0:=Zd (Za X4) 0 _ rfl
     have xc1:=Zd (Za X4) 1 _ rfl
     have xc2:=Zd (Za X4) 2 _ rfl
     have xl:=lt_of_block (Za X4)
     by_cases hx2:x2=0
     ·subst hx2
      obtain⟨y,M,s,hap⟩:∃ y M s,apD C (th,I,O) n2 ht=(y,M,s):=⟨_,_,_,rfl⟩
      have DA:=(Za HDN).2 rfl y M s hap
      have CA:=Zb (Fo oa oon oc C th ai ao ni ci no co I O n2 ht y M s w4 ((Za HC).1.later (Za HB4)) (Za HC).2.1 ((Za HIO).1.later (Za HB4)) ((Za HIO).2.later (Za HB4)) (Za HC).2.2 (Za HZ) hap)
      have HDA:=Zb DA
      have HAP:=Zb hap
      clear DA hap
      go_wp2_with fail
      refine (Za CA).mono ?_
      rintro e w5 ⟨am,mn,mc,sa,ns,cs,rfl,hM5,sM5,hS5,sS5,hb5⟩
      obtain⟨Y,hY⟩:∃ Y,Y=w5.alloc (.cells #[.slice sa ns cs] 130):=⟨_,rfl⟩
      have hbY:Below w5.heap.size w5 Y:=by rw[hY];exact Zf _ _
      have Y1:Hid (Y.heap[w5.heap.size]? = some (.cells [.slice sa ns cs].toArray 130 (0,0))):=by show _=_;rw[hY];exact heap_alloc_new _ _
      have HBY:=Zb (Ze (Za HB4) (Ze hb5 hbY))
      have XY:Hid (Y.heap[wr.heap.size]? = some (.cells [.int .i64 th,.slice ai ni ci,.slice ao no co].toArray 52 (0,0))):=((Ze hb5 hbY).block _ (lt_of_block (Za X4))).trans (Za X4)
      have HT5:=Zb (⟨(Za HT4).1.later (Ze hb5 hbY),(Za HT4).2⟩:Bk.TextsAt Y b4 b4n K2∧Bk.SlOk b4 b4n b4c)
      have HM5:=Zb (And.intro (hM5.later hbY) sM5)
      have HS5:=Zb (And.intro (hS5.later hbY) sS5)
      have HW5:Hid (w5.heap.size<Y.heap.size∧wr.heap.size<w5.heap.size):=⟨lt_of_block (Za Y1),Nat.lt_of_lt_of_le (lt_of_block (Za X4)) hb5.size⟩
      clear hb5 hbY hM5 sM5 hS5 sS5 CA X4 HT4 xc0 xc1 xc2 xl HB4
      go_upto_region 9 with fail
      rw[←hY]
      clear hY
      by_cases hy:y=0
      ·subst hy
       have few:=Zgm (Za HAP)
       have ho6:no≤6:=by rw[←(Za HIO).2.1];exact (Wm (Za HZ)).2.1
       have hs6:ns≤6:=by rw[←(Za HS5).1.1];exact few.1
       have asum:=(Zhx (Za HAP)).1
       have hRM:=(H9 (Za HAP)).2.1
       obtain⟨f,hf⟩:∃ f,Zp s - Xk O=f:=⟨_,rfl⟩
       have hFf:F+f=Zp C0 - Zp M:=by have:=Za HF;simp only at asum;omega
       have hbd:=Za HCB
       have hbm:=To hRM
       have hw:IntKind.i64.wrap (F+f)=F+f:=by rw[hFf,IntKind.wrap_i64];omega
       have FE:=Zb (fun U (hb:Below Y.heap.size Y U)=>Bx sa ns cs s th ai ao ni ci no co O f U hs6 ho6 ((Za HS5).1.later hb) ((Za HIO).2.later (Ze (Za HBY) hb)) few.2 (Ga (Za HZ)) hf)
       have GOOD:Hid (S++[(th,I,O)]++(Yb ht (T.drop (k+1)) (K2,M)).1=S1∧(Yb ht (T.drop (k+1)) (K2,M)).2=(K1,C1)):=by
        have e:=Za HQ2
        rw[((Za HDA).2 rfl),if_pos rfl] at e
        show _∧_
        rw[List.append_assoc,List.singleton_append]
        exact e
       have HR2:Hid (Bk.Right K2):=(Hl (Za HK).2.2 ((Za HDA).2 rfl)).1
       have HRM:=Zb hRM
       have HFF:=Zb hFf
       have hns:∀ q,vv.ownBlock=some q→q<wr.heap.size:=fun q e=>((Za HO).lt q e).2
       have KS:Hid (∀ U,Gr Y U (fun q=>vv.ownBlock=some q)→U.cell? ⟨wr.heap.size,0,none⟩=some (.int .i64 th)∧U.cell? ⟨wr.heap.size,1,none⟩=some (.slice ai ni ci)∧U.cell? ⟨wr.heap.size,2,none⟩=some (.slice ao no co)∧U.cell? ⟨w5.heap.size,0,none⟩=some (.slice sa ns cs)∧w5.heap.size<U.heap.size):=fun U hg=>⟨hg.cell (Zd (Za XY) 0 _ rfl) (fun e=>by have:=hns _ e;simp at this),hg.cell (Zd (Za XY) 1 _ rfl) (fun e=>by have:=hns _ e;simp at this),hg.cell (Zd (Za XY) 2 _ rfl) (fun e=>by have:=hns _ e;simp at this),hg.cell (Zd (Za Y1) 0 _ rfl) (fun e=>by have:=hns _ e;have:=(Za HW5).2;simp at *;omega),Nat.lt_of_lt_of_le (Za HW5).1 hg.size⟩
       clear few ho6 hs6 asum hRM hFf hbd hbm hf hns
       go_upto_region 10 with fail
       refine wp_region_held_drew (S:=fun U=>U.cell? ⟨wr.heap.size,0,none⟩=some (.int .i64 th)∧U.cell? ⟨wr.heap.size,1,none⟩=some (.slice ai ni ci)∧U.cell? ⟨wr.heap.size,2,none⟩=some (.slice ao no co)∧U.cell? ⟨w5.heap.size,0,none⟩=some (.slice sa ns cs)∧w5.heap.size<U.heap.size) (by kernel_rfl) ((Za KS) _ (Gr.of (Zi _))) (fun Zic=>?_)
       refine tk 0 ⟨some 57,.move (.tmp 14),22, "second.go:478",#[],none⟩ ?_ rfl ?_ Zic ?_
       rotate_left
       ·(intro W hSw;obtain⟨e1,e2,e3,e4,e5⟩:=hSw;go_simp;first|done|with_reducible rfl)
       (try simp only[Act.put,ZA,ZB,ZC])
       refine tk 1 ⟨some 58,.move (.tmp 17),29, "second.go:478",#[⟨12,.gcOnly .lateStores⟩],none⟩ ?_ rfl ?_ Zic ?_
       rotate_left
       ·(intro W hSw;obtain⟨e1,e2,e3,e4,e5⟩:=hSw;go_simp;first|done|with_reducible rfl)
       (try simp only[Act.put,ZA,ZB,ZC])
       refine tk 2 ⟨some 59,.move (.tmp 11),3, "second.go:478",#[⟨13,.gcOnly .lateStores⟩],none⟩ ?_ rfl ?_ Zic ?_
       rotate_left
       ·(intro W hSw;obtain⟨e1,e2,e3,e4,e5⟩:=hSw;go_simp;first|done|with_reducible rfl)
       (try simp only[Act.put,ZA,ZB,ZC])
       refine tk 3 ⟨some 60,.load 52 (.tmp 13),52, "second.go:478",#[],none⟩ ?_ rfl ?_ Zic ?_
       rotate_left
       ·(intro W hSw;obtain⟨e1,e2,e3,e4,e5⟩:=hSw;go_simp;first|done|with_reducible rfl)
       (try simp only[Act.put,ZA,ZB,ZC])
       refine tk 4 ⟨some 61,.fieldAddr 130 (.tmp 18) 0,0, "second.go:478",#[],none⟩ ?_ rfl ?_ Zic ?_
       rotate_left
       ·(intro W hSw;obtain⟨e1,e2,e3,e4,e5⟩:=hSw;go_simp;first|done|with_reducible rfl)
       (try simp only[Act.put,ZA,ZB,ZC])
       refine tk 5 ⟨some 62,.load 29 (.tmp 61),29, "second.go:478",#[⟨4,.data⟩],none⟩ ?_ rfl ?_ Zic ?_
       rotate_left
       ·(intro W hSw;obtain⟨e1,e2,e3,e4,e5⟩:=hSw;go_simp;first|done|with_reducible rfl)
       (try simp only[Act.put,ZA,ZB,ZC])
       refine tk 8 ⟨some 65,.move (.tmp 9),48, "second.go:478",#[],none⟩ ?_ rfl ?_ Zic ?_
       rotate_left
       ·(intro W hSw;obtain⟨e1,e2,e3,e4,e5⟩:=hSw;go_simp;first|done|with_reducible rfl)
       (try simp only[Act.put,ZA,ZB,ZC])
       refine tk 9 ⟨some 66,.load 52 (.tmp 13),52, "second.go:478",#[],none⟩ ?_ rfl ?_ Zic ?_
       rotate_left
       ·(intro W hSw;obtain⟨e1,e2,e3,e4,e5⟩:=hSw;go_simp;first|done|with_reducible rfl)
       (try simp only[Act.put,ZA,ZB,ZC])
       refine wpAnyH_ready (rs:=[6,10]) (by kernel_rfl) (by simp) ?_
       refine AllReadyH.cons (o:=⟨some 63,.call { callee:=Callee.value (.func 61),args:=#[.tmp 60,.tmp 62],argTypes:=#[52,29] },3, "second.go:478",#[⟨3,.data⟩,⟨5,.data⟩],none⟩) rfl (fun KQ hK=>?_) (AllReadyH.cons (o:=⟨some 67,.buildSlice 48 1 #[(0,.tmp 66)],48, "second.go:478",#[⟨9,.data⟩],none⟩) rfl (fun KQ hK=>?_) AllReadyH.nil)
       refine Yf (by kernel_rfl) 61 #[.agg #[.int .i64 th,.slice ai ni ci,.slice ao no co],.slice sa ns cs] (by kernel_rfl) ((Za FE) _ (Zi _)) ?_
       rintro e v6 ⟨rfl,hbc⟩
       refine⟨_,rfl,?_⟩
       have hb6:=Ze (Zi Y) hbc
       refine hK.out _ _ ((Za KS) _ (Gr.of hb6)) (fun Zid=>?_)
       clear hK KQ Zic
       have Zic:=Zid
       clear Zid
       (try simp only[Act.put,ZA,ZB,ZC])
       refine tk 7 ⟨some 64,.binOp BinOp.add 3 (.tmp 59) (.tmp 63) 3,3, "second.go:478",#[⟨2,.data⟩,⟨6,.data⟩,⟨13,.gcOnly .lateStores⟩],none⟩ (.int .i64 (F+f)) rfl ?_ Zic ?_
       ·(intro W hSw;(try dsimp only at hSw);go_simp;first|done|with_reducible rfl)
       (try simp only[Act.put,ZA,ZB,ZC])
       refine wpAnyH_ready (rs:=[10]) (by kernel_rfl) (by simp) ?_
       refine AllReadyH.cons (o:=⟨some 67,.buildSlice 48 1 #[(0,.tmp 66)],48, "second.go:478",#[⟨9,.data⟩],none⟩) rfl (fun KQ hK=>?_) AllReadyH.nil
       go_simp
       obtain⟨VZ,hVZ⟩:∃ VZ,VZ=v6.alloc (.cells #[.int .i64 th,.slice ai ni ci,.slice ao no co] 52):=⟨_,rfl⟩
       rw[←hVZ]
       obtain⟨g10,hg10⟩:∃ g,g=v6.heap.size:=⟨_,rfl⟩
       rw[←hg10]
       have h10:VZ.heap[g10]? = some (.cells [.int .i64 th,.slice ai ni ci,.slice ao no co].toArray 52 (0,0)):=by rw[hVZ,hg10];exact Zl _ _ _ _ _
       have hbZ:Below Y.heap.size Y VZ:=by rw[hVZ];exact Ze hb6 (Zf _ _)
       clear hVZ hg10 hb6 hbc
       refine hK.out _ _ ((Za KS) _ (Gr.of hbZ)) (fun Zid=>?_)
       clear hK KQ Zic
       have Zic:=Zid
       clear Zid
       (try simp only[Act.put,ZA,ZB,ZC])
       rotate_left
       go_simp
       obtain⟨WA,hWA⟩:∃ WA,WA=Y.drew.alloc (.cells #[.int .i64 th,.slice ai ni ci,.slice ao no co] 52):=⟨_,rfl⟩
       (first|rw[←hWA]|(rw[show (Y.alloc (.cells #[.int .i64 th,.slice ai ni ci,.slice ao no co] 52)).drew=WA from hWA.symm]))
       obtain⟨g10,hg10⟩:∃ g,g=Y.heap.size:=⟨_,rfl⟩
       rw[←hg10]
       have h10a:WA.heap[g10]? = some (.cells [.int .i64 th,.slice ai ni ci,.slice ao no co].toArray 52 (0,0)):=by rw[hWA,hg10];exact Zl Y.drew _ _ _ _
       have hbA:Below Y.heap.size Y WA:=by rw[hWA];exact Ze (Zi Y) (Zf _ _)
       clear hWA hg10
       refine hK.out _ _ ((Za KS) _ (Gr.of hbA)) (fun Zid=>?_)
       clear hK KQ Zic
       have Zic:=Zid
       clear Zid
       (try simp only[Act.put,ZA,ZB,ZC])
       refine wpAnyH_ready (rs:=[6]) (by kernel_rfl) (by simp) ?_
       refine AllReadyH.cons (o:=⟨some 63,.call { callee:=Callee.value (.func 61),args:=#[.tmp 60,.tmp 62],argTypes:=#[52,29] },3, "second.go:478",#[⟨3,.data⟩,⟨5,.data⟩],none⟩) rfl (fun KQ hK=>?_) AllReadyH.nil
       refine Yf (by kernel_rfl) 61 #[.agg #[.int .i64 th,.slice ai ni ci,.slice ao no co],.slice sa ns cs] (by kernel_rfl) ((Za FE) _ hbA) ?_
       rintro e VZ ⟨rfl,hbc⟩
       refine⟨_,rfl,?_⟩
       have hbZ:=Ze hbA hbc
       have h10:=(hbc.block _ (lt_of_block h10a)).trans h10a
       clear h10a hbA hbc
       refine hK.out _ _ ((Za KS) _ (Gr.of hbZ)) (fun Zid=>?_)
       clear hK KQ Zic
       have Zic:=Zid
       clear Zid
       (try simp only[Act.put,ZA,ZB,ZC])
       refine tk 7 ⟨some 64,.binOp BinOp.add 3 (.tmp 59) (.tmp 63) 3,3, "second.go:478",#[⟨2,.data⟩,⟨6,.data⟩,⟨13,.gcOnly .lateStores⟩],none⟩ (.int .i64 (F+f)) rfl ?_ Zic ?_
       ·(intro W hSw;(try dsimp only at hSw);go_simp;first|done|with_reducible rfl)
       (try simp only[Act.put,ZA,ZB,ZC])
       rotate_left
       all_goals
        have OWZ:=(Gr.of (S:=fun _=>False) (Ze (Za HBY) hbZ)).own (Za HO) (fun _ _ q=>q)
        have SHZ:Shp Kc 3 52 VZ vv:=fun g hg=>by obtain⟨cur,q1,q2⟩:=(Za HP) g hg;exact⟨cur,((Ze (Za HBY) hbZ).block g (lt_of_block q1)).trans q1,q2⟩
        have hsk:=Za HSK
        refine wpAnyH_ready (rs:=[11]) (by kernel_rfl) (by simp) ?_
        refine AllReadyH.cons (o:=⟨some 68,.call { callee:=Callee.builtin Builtin.append,args:=#[.tmp 65,.tmp 67],argTypes:=#[48,48] },48, "second.go:478",#[⟨8,.data⟩,⟨10,.data⟩,⟨6,.chain⟩],none⟩) rfl (fun KQ hK=>?_) AllReadyH.nil
        refine Ry (sh:=Kc) (by rfl) _ _ _ (by rfl) w.heap.size 52 i1 _ 3 56 Tryz.underlying48 ii iz0 iz1 iz2 rfl (by decide) vv S.length Kl.flatten (by rfl) OWZ ⟨g10,0,none⟩ 1 1 [.int .i64 th,.slice ai ni ci,.slice ao no co] (by rfl) (by rfl) (World.news_of_block (cs:=#[.int .i64 th,.slice ai ni ci,.slice ao no co]) (t:=52) (fr:=(0,0)) h10) (by simp[Value.oneCell']) (by decide) (by unfold maxLen;omega) (by omega) (Ze (Za HB) (Ze (Za HBY) hbZ)).size SHZ (fun j u h=>by match j,h with|0,h=>(cases h;exact⟨fun _=>⟨_,rfl⟩,fun q=>absurd rfl q⟩)|1,h=>(cases h;exact⟨fun q=>absurd q (by decide),fun _=>⟨_,_,_,rfl⟩⟩)|2,h=>(cases h;exact⟨fun q=>absurd q (by decide),fun _=>⟨_,_,_,rfl⟩⟩)|j+3,h=>simp at h) (fun j u h=>by match j,h with|0,h=>(cases h;exact⟨fun _=>⟨_,rfl⟩,fun q=>absurd rfl q⟩)|1,h=>(cases h;exact⟨fun q=>absurd q (by decide),fun _=>⟨_,_,_,rfl⟩⟩)|2,h=>(cases h;exact⟨fun q=>absurd q (by decide),fun _=>⟨_,_,_,rfl⟩⟩)|j+3,h=>simp[Value.cells] at h) ?_
        intro gb7 cap7 w7 hown7 hgrow7 hor7 hsh7
        have g7:Gr Y w7 (fun q=>vv.ownBlock=some q):=(Gr.of hbZ).grown hgrow7 (fun k e=>.inl e)
        refine hK.out _ _ ((Za KS) _ g7) (fun Zid=>?_)
        clear hK KQ Zic
        have Zic:=Zid
        clear Zid
        (try simp only[Act.put,ZA,ZB,ZC])
        refine tk 12 ⟨some 8,.assign (.tmp 57),22, "second.go:478",#[⟨0,.data⟩,⟨11,.chain⟩,⟨0,.phase⟩,⟨1,.textOnly .lateStores⟩,⟨2,.textOnly .lateStores⟩,⟨3,.textOnly .lateStores⟩,⟨4,.textOnly .lateStores⟩,⟨5,.textOnly .lateStores⟩,⟨6,.textOnly .lateStoresUnsure⟩,⟨7,.textOnly .lateStores⟩,⟨8,.textOnly .lateStores⟩,⟨9,.textOnly .lateStores⟩,⟨10,.textOnly .lateStores⟩,⟨11,.textOnly .lateStoresUnsure⟩],none⟩ ?_ rfl ?_ Zic ?_
        rotate_left
        ·(intro W hSw;(try dsimp only at hSw);go_simp;first|done|with_reducible rfl)
        (try simp only[Act.put,ZA,ZB,ZC])
        refine tk 13 ⟨some 10,.assign (.tmp 58),29, "second.go:478",#[⟨1,.data⟩,⟨12,.chain⟩,⟨0,.phase⟩,⟨1,.phase⟩,⟨2,.textOnly .lateStores⟩,⟨3,.textOnly .lateStores⟩,⟨4,.textOnly .lateStores⟩,⟨5,.textOnly .lateStores⟩,⟨6,.textOnly .lateStoresUnsure⟩,⟨7,.textOnly .lateStores⟩,⟨8,.textOnly .lateStores⟩,⟨9,.textOnly .lateStores⟩,⟨10,.textOnly .lateStores⟩,⟨11,.textOnly .lateStoresUnsure⟩,⟨12,.phase⟩],none⟩ ?_ rfl ?_ Zic ?_
        rotate_left
        ·(intro W hSw;(try dsimp only at hSw);go_simp;first|done|with_reducible rfl)
        (try simp only[Act.put,ZA,ZB,ZC])
        refine tk 14 ⟨some 11,.assign (.tmp 64),3, "second.go:478",#[⟨7,.data⟩,⟨13,.chain⟩,⟨0,.phase⟩,⟨1,.phase⟩,⟨2,.phase⟩,⟨3,.phase⟩,⟨4,.phase⟩,⟨5,.phase⟩,⟨6,.phase⟩,⟨7,.phase⟩,⟨8,.textOnly .lateStores⟩,⟨9,.textOnly .lateStores⟩,⟨10,.textOnly .lateStores⟩,⟨11,.textOnly .lateStoresUnsure⟩,⟨12,.phase⟩,⟨13,.phase⟩],none⟩ ?_ rfl ?_ Zic ?_
        rotate_left
        ·(intro W hSw;(try dsimp only at hSw);go_simp;first|done|with_reducible rfl)
        (try simp only[Act.put,ZA,ZB,ZC])
        refine tk 15 ⟨some 9,.assign (.tmp 68),48, "second.go:478",#[⟨11,.data⟩,⟨14,.chain⟩,⟨0,.phase⟩,⟨1,.phase⟩,⟨2,.phase⟩,⟨3,.phase⟩,⟨4,.phase⟩,⟨5,.phase⟩,⟨6,.phase⟩,⟨7,.phase⟩,⟨8,.phase⟩,⟨9,.phase⟩,⟨10,.phase⟩,⟨11,.phase⟩,⟨12,.phase⟩,⟨13,.phase⟩,⟨14,.phase⟩],none⟩ ?_ rfl ?_ Zic ?_
        rotate_left
        ·(intro W hSw;(try dsimp only at hSw);go_simp;first|done|with_reducible rfl)
        (try simp only[Act.put,ZA,ZB,ZC])
        refine wpAnyH_done (by kernel_rfl) ?_ _
        clear Zic
        have HO9:=Zb hown7
        have HP9:=Zb hsh7
        have HG9:=Zb g7
        clear hown7 hsh7 g7 hgrow7 hor7 OWZ SHZ hsk h10 hbZ
        have KEEP:=Zb (⟨Cv (Za HT5).1 (fun g hg=>by obtain⟨cur,q1,q2⟩:=(Za HP) g hg;exact⟨cur,((Za HBY).block g (lt_of_block q1)).trans q1,q2⟩) (Za HG9),(Za HT5).2,Za HR2⟩:Bk.TextsAt w7 b4 b4n K2∧Bk.SlOk b4 b4n b4c∧Bk.Right K2)
        have KEEC:=Zb (⟨Zai (Za HM5).1 (fun g hg=>by obtain⟨cur,q1,q2⟩:=(Za HP) g hg;exact⟨cur,((Za HBY).block g (lt_of_block q1)).trans q1,q2⟩) (Za HG9),(Za HM5).2,Za HRM⟩:CoinsAt w7 am mn M∧SlOk am mn mc∧Z5 M)
        have OWN9:Hid (w7.ownsRow w.heap.size 52 3 (.slice (some ⟨gb7,0,none⟩) (S.length+1) cap7) (S++[(th,I,O)]).length (Kl++([[.int .i64 th,.slice ai ni ci,.slice ao no co]]:List (List Value))).flatten):=by
         show World.ownsRow _ _ _ _ _ _ _
         rw[List.length_append,List.length_singleton,List.flatten_append,List.flatten_singleton]
         exact Za HO9
        have ALL9:Hid (∀ U,Below w0.heap.size w0 U→Tr.AllC Tr.txR U (Kl++[[.int .i64 th,.slice ai ni ci,.slice ao no co]]) (S++[(th,I,O)])):=fun U hu=>Tr.AllC.snoc ((Za HA) U hu) ((Za ACW) U hu)
        have HB9:Hid (Below w.heap.size w w7):=(Za HG9).below (Ze (Za HB) (Za HBY)) (Ze (Za HB) (Za HBY)).size (fun q e=>((Za HO).lt q e).1)
        have SK9:Hid ((S++[(th,I,O)]).length≤k+1):=by show _≤_;rw[List.length_append,List.length_singleton];exact Nat.succ_le_succ (Za HSK)
        go_wp2_with fail
        go_roundw
        case rel=>exact⟨k+1,b4,b4n,b4c,K2,am,mn,mc,M,S++[(th,I,O)],Kl++[[.int .i64 th,.slice ai ni ci,.slice ao no co]],F+f,_,by omega,rfl,rfl,rfl,rfl,by push_cast;rfl,KEEP,KEEC,OWN9,ALL9,HP9,HFF,SK9,GOOD,HB9⟩
        case measure=>simp[intOf];omega
      ·have hyb:(y != 0)=true:=by simp[hy]
       go_wp2_with fail
       go_roundw
       case rel=>exact (Za LEFT) _ (Za HBY) (((Za HDA).1 hy))
       case measure=>simp[intOf];omega
     ·have hxb:(x2 != 0)=true:=by simp[hx2]
      go_wp2_with fail
      go_roundw
      case rel=>exact (Za LEFT) _ (Za HB4) (((Za HDN).1 hx2))
      case measure=>simp[intOf];omega
   ·have hzb:(z != 0)=true:=by simp[hz0]
    go_wp2_with fail
    go_roundw
    case rel=>exact (Za LEFT) _ (Za HB2) (Zdx (.inl (by rw[hz];exact hz0)))
    case measure=>simp[intOf];omega
  ·obtain rfl:k=m:=by omega
   have hkn:¬((k:Int)<(k:Int)):=by omega
   have HQ2:=Za HQ
   rw[List.drop_of_length_le (by rw[Za ZT];exact Nat.le_refl _),Yb] at HQ2
   simp only[List.append_nil,Prod.mk.injEq] at HQ2
   obtain⟨rfl,rfl,rfl⟩:=HQ2
   obtain⟨sa,sc,rfl,hst,sst⟩:=Tr.rows_of_own Tr.txR (Za HO) ((Za HA) wr (Ze (Za HW0) (Za HB))) rfl
   have HFIN:Hid (Zen w0 w wr K' S C (Zp C0 - Zp C) (.returned (.tuple #[.slice ba bn bc,.slice sa S.length sc,.slice oa oon oc,.int .i64 F]))):=⟨ba,bn,bc,sa,S.length,sc,oa,oon,oc,Kl,by rw[Za HF],(Za HK).1,(Za HK).2.1,hst,sst,(Za HC).1,(Za HC).2.1,Za HB,Za HO,Za HA⟩
   clear hst sst HQ HK HC HO HA HP HF HSK HB
   go_wp2
   (try simp only[Exit.inBlock,Exit.then])
   refine bodyPost_ret (v:=.tuple #[.slice ba bn bc,.slice sa S.length sc,.slice oa oon oc,.int .i64 F]) ?_ rfl (Za HFIN)
   simp[results,Tryz.f23,go_sem]
theorem Ei(ka:Option Addr)(kn kc:Nat)(K:List ByteArray)(la:Option Addr)(ln lc:Nat)(C0:List Zg)(a:Option Addr)(m c:Nat)(T:List TxD)(ht:Int)(K1:List ByteArray)(S1:List TxD)(C1:List Zg)(w:World)(hE:EnvF w)(hK:Bk.TextsAt w ka kn K)(sK:Bk.SlOk ka kn kc)(hR:Bk.Right K)(hC:CoinsAt w la ln C0)(sC:SlOk la ln lc)(hRC:Z5 C0)(hT:TxsAt w a m T)(hm:m≤8)(hx:Yb ht T (K,C0)=(S1,K1,C1)) :
  Calls Tryz.prog 23 #[.slice ka kn kc,.slice la ln lc,.slice a m c,.int .i64 ht] w fun e w'=>Zhy w w' K1 S1 C1 (Zp C0 - Zp C1) e:=
 (Gs w ka kn kc K la ln lc C0 a m c T ht K1 S1 C1 w hE hK sK hR hC sC hRC (Below.refl _ _) hT hm hx).mono fun _ _ ⟨x1,x2,x3,x4,x5,x6,x7,x8,x9,_,h1,h2,h3,h4,h5,h6,h7,h8,_⟩=>⟨x1,x2,x3,x4,x5,x6,x7,x8,x9,h1,h2,h3,h4,h5,h6,h7,h8⟩
theorem F8(h r:Int)(w:World)(h1:1≤h)(h2:h≤1000)(hr:rwD h=(r,0)) :
  Calls Tryz.prog 71 #[.int .i64 h] w fun e w'=>e = .returned (.int .i64 r)∧Below w.heap.size w w':=by
 have e:r=(rwN ((h - 1).toNat / 8):Nat):=by
  unfold rwD at hr
  rw[if_pos (by simp only[Bool.and_eq_true,decide_eq_true_eq];omega)] at hr
  injection hr with e _
  exact e.symm
 have HE:=Zb e
 clear hr e
 go_enter Tryz.func71,Tryz.ntmps71
 go_wp2
 go_loopw [3,4] (fun nv hv wr=>∃ k q:Nat,nv = .int .i64 q∧hv = .int .i64 ((8:Int)+8*k)∧(8:Int)*k<h∧Hid (q=rwN k)∧wr=w) (fun _ hv _=>(h+8 - intOf hv).toNat)
 case atStart=>exact⟨0,64,rfl,rfl,by omega,rfl,rfl⟩
 case round=>
  obtain⟨k,q,rfl,rfl,hk,HQ,rfl⟩:=hrel
  have hq:q≤64:=by rw[Za HQ];exact T6 k
  have hqi:(0:Int)≤(q:Int):=by omega
  have hqj:(q:Int)≤64:=by omega
  by_cases hlt:(8:Int)+8*k<h
  ·have hw1:IntKind.i64.wrap ((8:Int)+8*k+8)=(8:Int)+8*k+8:=by rw[IntKind.wrap_i64];omega
   have Q2:Hid (q / 2=rwN (k+1)):=by show _=rwN k / 2;rw[Za HQ]
   go_wp2
   go_roundw
   case rel=>exact⟨k+1,q / 2,by go_num,by go_num,by omega,Q2,by first|rfl|trivial⟩
   case measure=>simp[intOf];omega
  ·have R:Hid (r=(q:Int)):=by
    show _=_
    rw[Za HE,Za HQ]
    congr 2
    omega
   go_wp2
   go_ret
   exact⟨by rw[Za R];rfl,Below.refl _ _⟩
end Go.Proofs.YtpikejjiignchaaGreatDoor
