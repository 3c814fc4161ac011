/- The contract of sweep, for whatever keeps what stays. -/
import Derived.Test.YtmomfkikogbdeaaGreatDoorTrClToPolDo
import Derived.Test.YtmomfkikogbdeaaGreatDoorTrCheckToTrAdd
import Derived.Deep.AppendLies
set_option maxHeartbeats 6400000
set_option maxRecDepth 10000
namespace Go.Proofs.YtmomfkikogbdeaaGreatDoor
open Go.RowKit
structure Zcs(f:Nat)(caps:Array Value)(w0:World)(C0:List Zd)(D0:Nat→Prop)(I:Nat→(Nat→Prop)→World→List (TxD×List Zd)→Prop):Prop where
 enters:∀ args w,(callFunc f args).run Tryz.prog w = .ok (.enter f args) w
 start:∀ p w,Below w0.heap.size w0 w→w0.heap.size≤p→p<w.heap.size→I p D0 w []
 dirty:∀ p D w X,I p D w X→∀ q,D q→q≠p∧q<w.heap.size∧(D0 q∨w0.heap.size≤q)
 on:∀ p D w w' X,I p D w X→Gr w w' (fun q=>q=p)→I p D w' X
 call:∀ p D wA w X t C' u0 u1 u2,I p D wA X→Below wA.heap.size wA w→Fresh wA.heap.size w (fun w2=>Tr.txR.C w2 [u0,u1,u2] t)→Yc (Yl C0 X)→Yc C'→Zi C'≤Zi (Yl C0 X)→X.length<8 →
  Calls Tryz.prog f (#[.agg #[u0,u1,u2],.int .i64 (Zi (Yl C0 X) - Zi C')]++caps) w fun e w'=>e = .returned (.tuple #[])∧Gr w w' D∧∃ D',I p D' w' (X++[(t,C')])
def SwR(w w':World)(x:Int)(D0:Nat→Prop)(K:List ByteArray)(C:List Zd)(h:Int)(I:Nat→(Nat→Prop)→World→List (TxD×List Zd)→Prop)(X:List (TxD×List Zd))(e:Ending):Prop:=
 (x≠0∧e = .returned (.tuple #[.pointer none,.int .i64 x])∧Below w.heap.size w w') ∨
 (x=0∧∃ p D,e = .returned (.tuple #[.pointer (some ⟨p,0,none⟩),.int .i64 0])∧w.heap.size≤p∧Gr w w' D0∧DoT w' w.heap.size p K C h∧I p D w' X)
structure SwS(w0 wr:World)(h:Int)(D0:Nat→Prop)(I:Nat→(Nat→Prop)→World→List (TxD×List Zd)→Prop)(s0:List ByteArray×List Zd)(L:List TxD)(p k:Nat):Prop where
 gr:Gr w0 wr D0
 all:∃ B D K C X,w0.heap.size≤B∧DoT wr B p K C h∧I p D wr X∧Bk.Right K∧Yc C∧Yl s0.2 X=C∧X.length≤k∧swT h L s0=X++swT h (L.drop k) (K,C)∧(Xt h L s0).2=(Xt h (L.drop k) (K,C)).2
theorem Gr.far{w w1 w2:World}{S T:Nat→Prop}(h:Gr w w1 S)(k:Gr w1 w2 T)(hT:∀ q,T q→w.heap.size≤q∨S q):Gr w w2 S:=
 ⟨k.os.trans h.os,k.tape.trans h.tape,k.output.trans h.output,Nat.le_trans h.size k.size,fun i hi hn=>(k.block i (Nat.lt_of_lt_of_le hi h.size) (fun q=>by
  rcases hT i q with q|q
  ·omega
  ·exact hn q)).trans (h.block i hi hn)⟩
theorem Zbm{h:Int}{L:List TxD}{k:Nat}(hk:k<L.length)(s:List ByteArray×List Zd):swT h (L.drop k) s=if (doD h s L[k]).1=0 then (L[k],(doD h s L[k]).2.2) :: swT h (L.drop (k+1)) (doD h s L[k]).2 else swT h (L.drop (k+1)) s:=by
 rw[List.drop_eq_getElem_cons hk,swT]
theorem Ec{h:Int}{L:List TxD}{k:Nat}(hk:k<L.length)(s:List ByteArray×List Zd):(Xt h (L.drop k) s).2=if (doD h s L[k]).1=0 then (Xt h (L.drop (k+1)) (doD h s L[k]).2).2 else (Xt h (L.drop (k+1)) s).2:=by
 rw[List.drop_eq_getElem_cons hk,Xt]
 split <;> rfl
theorem Pm(f:Nat)(caps:Array Value)(D0:Nat→Prop)(I:Nat→(Nat→Prop)→World→List (TxD×List Zd)→Prop)(ka:Option Addr)(kn kc:Nat)(K:List ByteArray)(la:Option Addr)(ln lc:Nat)(C:List Zd)(a:Option Addr)(m c:Nat)(L:List TxD)(h x:Int)(w:World)
  (hk:Zcs f caps w C D0 I) (win:World) (hin:∀ V,Gr w V D0→Below win.heap.size win V) (hE:Env win) (hK:Bk.TextsAt win ka kn K) (hC:CoinsAt win la ln C) (sC:SlOk la ln lc) (hL:TxsAt win a m L) (hx:swE K C L h=x) :
  Calls Tryz.prog 78 #[.agg #[.slice ka kn kc],.slice la ln lc,.slice a m c,.int .i64 h,.func (.func f) #[] caps] w fun e w'=>SwR w w' x D0 (Xt h L (K,C)).2.1 (Xt h L (K,C)).2.2 h I (swT h L (K,C)) e:=by
 obtain⟨X,hX⟩:∃ X,X=w.alloc (.cells #[.slice ka kn kc] 24):=⟨_,rfl⟩
 have hbX:Below w.heap.size w X:=by rw[hX];exact bel_new _ _
 have hX0:X.heap[w.heap.size]? = some (.cells [.slice ka kn kc].toArray 24 (0,0)):=by rw[hX];exact Z8 _ _ _
 obtain⟨x1,hx1⟩:∃ x1,J2 K C h=x1:=⟨_,rfl⟩
 have hLl:L.length=m:=hL.1
 have hinX:=hin X (Gr.of hbX)
 have C1:=hide (Ax ka kn kc K la ln lc C h x1 X (hK.later hinX) (hC.later hinX) sC hx1)
 unfold swE at hx
 rw[hx1,hLl] at hx
 have HK:=hide hk
 have HE:=hide hE
 have HL:=hide hL
 have HIN:=hide hin
 have HX:=hide hx
 have HX1:=hide hx1
 have HLl:=hide hLl
 have HBX:=hide hbX
 have t0:=Za hX0 0 _ rfl
 have tl:=lt_of_block hX0
 clear hk hE hK hC sC hL hx hx1 hLl hbX hX0 hin hinX
 go_enter Tryz.func78,Tryz.ntmps78
 go_wp2_with fail
 rw[←hX]
 clear hX
 (try go_wp2_with fail)
 refine (unhide C1).mono ?_
 rintro e w1 ⟨hr,hb1⟩
 have HB1:=hide (bel_on (unhide HBX) hb1)
 have HXS:=hide (unhide HBX).size
 rcases hr with ⟨h0,rfl⟩|⟨h0,p,rfl,hp1,hp2,hd⟩
 ·have gx:(x1 != 0)=true:=by simp[h0]
  have HXE:Hid (x=x1):=by have:=unhide HX;rw[if_pos h0] at this;exact this.symm
  clear HX hb1 C1
  go_wp2
  go_ret2
  rw[unhide HXE]
  exact .inl ⟨h0,rfl,unhide HB1⟩
 ·subst h0
  have HD1:=hide (hd.less (unhide HXS))
  have HP1:=hide (Nat.le_trans (unhide HXS) hp1)
  have HPL:=hide (show p<w1.heap.size by omega)
  clear hd hb1 C1 hp1 hp2
  by_cases e8:8<m
  ·have g8:(8:Int)<(m:Int):=by omega
   have HXE:Hid (x=2):=by have:=unhide HX;rw[if_neg (fun q=>q rfl),if_pos e8] at this;exact this.symm
   clear HX e8
   go_wp2
   go_ret2
   rw[unhide HXE]
   exact .inl ⟨by decide,rfl,unhide HB1⟩
  ·have g8:¬(8:Int)<(m:Int):=by omega
   have hm8:m≤8:=by omega
   have HXE:Hid (x=0):=by have:=unhide HX;rw[if_neg (fun q=>q rfl),if_neg e8] at this;exact this.symm
   obtain⟨hR,hRC,_,_⟩:=Tg (unhide HX1)
   have ST:Hid (SwS w w1 h D0 I (K,C) L p 0):=⟨Gr.of (unhide HB1),w.heap.size,D0,K,C,[],Nat.le_refl _,unhide HD1,(unhide HK).start p w1 (unhide HB1) (unhide HP1) (unhide HPL),hR,hRC,rfl,Nat.le_refl _,rfl,rfl⟩
   clear HX hR hRC e8 HX1 HD1
   go_wp2
   go_loopw [33] (fun i wr=>∃ k:Nat,k≤m∧i = .int .i64 k∧Hid (SwS w wr h D0 I (K,C) L p k)) (fun i _=>m - (intOf i).toNat)
   case atStart=>exact⟨0,Nat.zero_le _,rfl,ST⟩
   case round=>
    obtain⟨k,hk,rfl,HS⟩:=hrel
    by_cases hlt:k<m
    ·obtain⟨hg,B,D,Kk,Ck,Xs,hB,hd,hI,hR,hRC,hlast,hXl,hT1,hG1⟩:=unhide HS
     have hbi:=(unhide HIN) wr hg
     have hkL:k<L.length:=by rw[unhide HLl];exact hlt
     obtain⟨b,off,rfl,hbl,hrow⟩:=(unhide HL).2 (by omega)
     obtain⟨c0,⟨ai,ni,ci,c1,hI1,sI1⟩,ao,no,co,c2,hO1,sO1⟩:=hrow k hkL
     have c0:=cell_later hbi c0
     have c1:=cell_later hbi c1
     have c2:=cell_later hbi c2
     have hbl:b<wr.heap.size:=Nat.lt_of_lt_of_le hbl hbi.size
     rw[Zbm hkL] at hT1
     rw[Ec hkL] at hG1
     obtain⟨t,ht⟩:∃ t,L[k]=t:=⟨_,rfl⟩
     rw[ht] at hT1 hG1 c0 hI1 hO1
     obtain⟨th,tI,tO⟩:=t
     simp only at c0 hI1 hO1
     obtain⟨⟨y,K',C'⟩,hy⟩:∃ r,doD h (Kk,Ck) (th,tI,tO)=r:=⟨_,rfl⟩
     rw[hy] at hT1 hG1
     simp only at hT1 hG1
     obtain⟨Y,hY⟩:∃ Y,Y=wr.alloc (.cells #[.int .i64 th,.slice ai ni ci,.slice ao no co] 59):=⟨_,rfl⟩
     have hbY:Below wr.heap.size wr Y:=by rw[hY];exact bel_new _ _
     have hY0:Y.heap[wr.heap.size]? = some (.cells [.int .i64 th,.slice ai ni ci,.slice ao no co].toArray 59 (0,0)):=by rw[hY];exact Zm _ _ _ _ _
     have CD:=hide (Zbr p Kk Ck h th ai ao ni ci no co tI tO y K' C' Y ((unhide HE).later (bel_on hbi hbY)) (hd.later hbY).till hRC (hI1.later (bel_on hbi hbY)) (hO1.later (bel_on hbi hbY)) sI1 hy)
     have y0:=Za hY0 0 _ rfl
     have y1:=Za hY0 1 _ rfl
     have y2:=Za hY0 2 _ rfl
     have yl:=lt_of_block hY0
     have HG:=hide hg
     have HB:=hide hB
     have HDT:=hide hd
     have HI:=hide hI
     have HRr:=hide hR
     have HRC:=hide hRC
     have HLast:=hide hlast
     have HXl:=hide hXl
     have HT1:=hide hT1
     have HG1:=hide hG1
     have HBY:=hide hbY
     have HY0:=hide hY0
     have HIns:=hide hI1
     have HOuts:=hide hO1
     have HSI:=hide sI1
     have HSO:=hide sO1
     have HY:=hide hy
     clear hg hB hd hI hR hRC hlast hXl hT1 hG1 hbY hY0 hI1 hO1 sI1 sO1 hy hrow ht HS hbi
     go_wp2_with fail
     rw[←hY]
     clear hY c0 c1 c2
     (try go_wp2_with fail)
     refine (unhide CD).mono ?_
     rintro e w2 hdo
     rcases hdo with ⟨n0,rfl,hb2⟩|⟨n0,rfl,hg2,hd2⟩
     ·have gy:(y == 0)=false:=by simp[n0]
      have gy2:¬y=0:=n0
      have hbb:=bel_on (unhide HBY) hb2
      have REL:Hid (SwS w w2 h D0 I (K,C) L p (k+1)):=by
       refine⟨(unhide HG).on hbb,B,D,Kk,Ck,Xs,unhide HB,(unhide HDT).later hbb,(unhide HK).on p D wr w2 Xs (unhide HI) (Gr.of hbb),unhide HRr,unhide HRC,unhide HLast,Nat.le_succ_of_le (unhide HXl),?_,?_⟩
       ·have:=unhide HT1;rw[if_neg n0] at this;exact this
       ·have:=unhide HG1;rw[if_neg n0] at this;exact this
      clear hbb hb2 CD n0
      go_wp2
      go_roundw
      case rel=>exact⟨k+1,by omega,by go_num,REL⟩
      case measure=>simp[intOf];omega
     ·subst n0
      have hdf:=Bw (unhide HRr) (unhide HY)
      obtain⟨f1,_,f3,f4,f5⟩:=hdf
      have sm:=Tr.tx_small f5
      have HF1:=hide f1
      have HF3:=hide f3
      have HF4:=hide f4
      have hgY2:Gr wr w2 (fun q=>q=p):=(Gr.of (unhide HBY)).trans hg2
      have hdirty:=(unhide HK).dirty p D wr Xs (unhide HI)
      have hIp:=(unhide HK).on p D wr w2 Xs (unhide HI) hgY2
      have hpl0:p<wr.heap.size:=by obtain⟨_,_,_,_,_,_,hh,_⟩:=unhide HDT;exact lt_of_block hh
      have hgw2:Gr w w2 D0:=(unhide HG).far hgY2 (fun q e=>.inl (by rw[e];exact unhide HP1))
      have hbi2:=(unhide HIN) w2 hgw2
      have CT:=hide (Tr.clTx_is th ai ao ni ci no co tI tO w2 ((unhide HIns).later hbi2) ((unhide HOuts).later hbi2) (unhide HSI) (unhide HSO) (by rw[←(unhide HIns).1];exact sm.1) (by rw[←(unhide HOuts).1];exact sm.2.1) sm.2.2.1 sm.2.2.2)
      have h20:=(hg2.block _ (lt_of_block (unhide HY0)) (by intro q;have q:wr.heap.size=p:=q;omega)).trans (unhide HY0)
      have z0:=Za h20 0 _ rfl
      have z1:=Za h20 1 _ rfl
      have z2:=Za h20 2 _ rfl
      have zl:=lt_of_block h20
      have HGW2:=hide hgw2
      have HDI:=hide hdirty
      have HIP:=hide hIp
      have HD2:=hide hd2
      have HYS:=hide (unhide HBY).size
      have hlast:Yl C Xs=Ck:=unhide HLast
      have CALL:=hide (fun w3 (hb3:Below w2.heap.size w2 w3) a1 c1 a2 c2 (hF3:Fresh w2.heap.size w3 (fun W=>Tr.txR.C W [.int .i64 th,.slice a1 ni c1,.slice a2 no c2] (th,tI,tO)))=>(unhide HK).call p D w2 w3 Xs (th,tI,tO) C' _ _ _ hIp hb3 hF3 (by rw[hlast];exact unhide HRC) f3 (by rw[hlast];exact f4) (by have:=unhide HXl;omega))
      rw[hlast] at CALL
      clear f1 f3 f4 f5 sm hgY2 hdirty hIp hgw2 hbi2 h20 hd2 hg2 hlast CD y0 y1 y2 yl
      go_wp2_with fail
      refine (unhide CT).mono ?_
      rintro e w3 ⟨a1,c1,a2,c2,rfl,hF3,hb3⟩
      have CL:=hide ((unhide CALL) w3 hb3 a1 c1 a2 c2 hF3)
      have HB3:=hide hb3
      clear hF3 hb3 CT CALL z0 z1 z2 zl
      have eg:=(unhide HK).enters
      go_wp2_with fail
      refine (unhide CL).mono ?_
      rintro e w4 ⟨rfl,hg4,D',hI4⟩
      have REL:Hid (SwS w w4 h D0 I (K,C) L p (k+1)):=by
       have hdir:=unhide HDI
       refine⟨((unhide HGW2).on (unhide HB3)).far hg4 (fun q e=>(hdir q e).2.2.symm),Y.heap.size,D',K',C',Xs++[((th,tI,tO),C')],?_,?_,hI4,unhide HF1,unhide HF3,Xd _ _ _ _,?_,?_,?_⟩
       ·exact Nat.le_trans (unhide HG).size (unhide HYS)
       ·refine (unhide HD2).on ((Gr.of (unhide HB3)).trans (hg4.mono (fun q _ e=>Nat.lt_of_lt_of_le (hdir q e).2.1 (unhide HYS)))) ?_
        have hpl2:p<w2.heap.size:=by obtain⟨_,_,_,_,_,_,hh,_⟩:=unhide HD2;exact lt_of_block hh
        exact (hg4.block p (Nat.lt_of_lt_of_le hpl2 (unhide HB3).size) (fun e=>(hdir p e).1 rfl)).trans ((unhide HB3).block p hpl2)
       ·rw[List.length_append];exact Nat.succ_le_succ (unhide HXl)
       ·have:=unhide HT1;(first|rw[if_pos rfl] at this|rw[if_pos trivial] at this);rw[this,List.append_assoc];rfl
       ·have:=unhide HG1;(first|rw[if_pos rfl] at this|rw[if_pos trivial] at this);exact this
      clear hg4 hI4 CL eg
      go_wp2
      go_roundw
      case rel=>exact⟨k+1,by omega,by go_num,REL⟩
      case measure=>simp[intOf];omega
    ·have ek:k=m:=by omega
     subst ek
     obtain⟨hg,B,D,Kk,Ck,Xs,hB,hd,hI,_,_,_,_,hT1,hG1⟩:=unhide HS
     rw[List.drop_of_length_le (by rw[unhide HLl];exact Nat.le_refl _)] at hT1 hG1
     rw[swT,List.append_nil] at hT1
     have e1:(Xt h L (K,C)).2=(Kk,Ck):=hG1
     have FIN:Hid (SwR w wr x D0 (Xt h L (K,C)).2.1 (Xt h L (K,C)).2.2 h I (swT h L (K,C)) (.returned (.tuple #[.pointer (some ⟨p,0,none⟩),.int .i64 0]))):=by
      rw[e1,hT1]
      exact .inr ⟨unhide HXE,p,D,rfl,unhide HP1,hg,hd.less hB,hI⟩
     clear hg hB hd hI hT1 hG1 e1 HS
     go_wp2
     go_ret2
     exact unhide FIN
structure St(b p:Nat)(w:World)(v:Value)(K:List (List Value))(L:List TxD):Prop where
 box:w.heap[b]? = some (.cells #[v] 37 (0,0))
 own:w.ownsRow (p+1) 59 3 v L.length K.flatten
 kept:∀ w2,Gr w w2 (fun q=>q≤p∨v.ownBlock=some q)→Tr.AllC Tr.txR w2 K L
 bp:b<p
 pl:p<w.heap.size
theorem St.start{b p:Nat}{w:World}(h:w.heap[b]? = some (.cells #[.slice none 0 0] 37 (0,0)))(bp:b<p)(pl:p<w.heap.size):St b p w (.slice none 0 0) [] []:=
 ⟨h,⟨rfl,.inl ⟨rfl,rfl⟩⟩,fun _ _=>⟨rfl,fun i h1 _=>absurd h1 (by simp)⟩,bp,pl⟩
theorem St.on{b p:Nat}{w w':World}{v:Value}{K:List (List Value)}{L:List TxD}{S:Nat→Prop}(h:St b p w v K L)(g:Gr w w' S)(hS:∀ q,S q→q≤p∧q≠b):St b p w' v K L:=
 ⟨g.heap h.box (fun e=>(hS b e).2 rfl),g.own h.own (fun k hk e=>by have:=(h.own.lt k hk).1;have:=(hS k e).1;omega),
  fun w2 g2=>h.kept w2 ((g.mono (fun q _ e=>.inl (hS q e).1)).trans g2),h.bp,Nat.lt_of_lt_of_le h.pl g.size⟩
theorem St.push{b p:Nat}{wA w Y w':World}{v v':Value}{K:List (List Value)}{L:List TxD}{u0 u1 u2:Value}{t:TxD}(h:St b p wA v K L)(hb:Below wA.heap.size wA w)(hF:Fresh wA.heap.size w (fun w2=>Tr.txR.C w2 [u0,u1,u2] t))(hbw:Below w.heap.size w Y)
  (hgr:Y.grownBy w' v.ownBlock) (hown:w'.ownsRow (p+1) 59 3 v' (L.length+1) (K.flatten++[u0,u1,u2])) (hv:v.ownBlock=v'.ownBlock∨∃ g,v'.ownBlock=some g∧Y.heap.size≤g) :
  St b p (w'.setCell ⟨b,0,none⟩ v') v' (K++[[u0,u1,u2]]) (L++[t])∧Gr w (w'.setCell ⟨b,0,none⟩ v') (fun q=>q=b∨v.ownBlock=some q):=by
 have hAY:Below wA.heap.size wA Y:=bel_on hb hbw
 have hbp:=h.bp
 have hpl:=h.pl
 have hs1:=hb.size
 have hs2:=hbw.size
 have hs3:=hgr.size
 have hnb:v.ownBlock≠some b:=fun e=>by have:=(h.own.lt b e).1;omega
 have bx:w'.heap[b]? = some (.cells #[v] 37 (0,0)):=((hgr.block b (by omega) (fun e=>hnb e.symm)).trans (hAY.block b (by omega))).trans h.box
 have g1:Gr wA w' (fun q=>q≤p∨v.ownBlock=some q):=(Gr.of hAY).grown hgr (fun k e=>.inl (.inr e))
 have g2:Gr w w' (fun q=>q=b∨v.ownBlock=some q):=(Gr.of hbw).grown hgr (fun k e=>.inl (.inr e))
 have g3:Gr w (w'.setCell ⟨b,0,none⟩ v') (fun q=>q=b∨v.ownBlock=some q):=g2.one b 0 (.inl (.inl rfl)) v'
 have g4:Gr wA (w'.setCell ⟨b,0,none⟩ v') (fun q=>q≤p∨v.ownBlock=some q):=g1.one b 0 (.inl (.inl (by omega))) v'
 refine⟨⟨Wa bx,?_,fun w2 gw=>?_,hbp,by have:=g4.size;omega⟩,g3⟩
 ·rw[List.length_append,List.flatten_append]
  exact (((Gr.refl w' (fun q=>q=b)).one b 0 (.inl rfl) v').own hown (fun k hk e=>by have:=(hown.lt k hk).1;omega))
 ·refine Tr.AllC.snoc (h.kept w2 (g4.far gw (fun q e=>?_))) (hF w2 ?_)
  ·rcases e with e|e
   ·exact .inr (.inl e)
   ·rcases hv with q1|⟨g,q1,q2⟩
    ·exact .inr (.inr (q1.trans e))
    ·rw[q1] at e;injection e with e;exact .inl (by omega)
  ·refine (g3.mono (T:=fun q=>q<wA.heap.size) (fun q _ e=>?_)).far gw (fun q e=>?_)
   ·rcases e with e|e
    ·omega
    ·exact (h.own.lt q e).2
   ·rcases e with e|e
    ·exact .inr (by omega)
    ·rcases hv with q1|⟨g,q1,q2⟩
     ·exact .inr (h.own.lt q (q1.trans e)).2
     ·rw[q1] at e;injection e with e;exact .inl (by omega)
theorem St.txs{b p:Nat}{w:World}{v:Value}{K:List (List Value)}{L:List TxD}(h:St b p w v K L):∃ a c,v = .slice a L.length c∧TxsAt w a L.length L∧SlOk a L.length c:=
 Tr.rows_of_own Tr.txR h.own (h.kept w (Gr.refl _ _)) rfl
theorem Tryz.infoTx9:(Tryz.prog.info? 59).map (fun i=>(i.zero,i.size,i.bytes))=some (some (.agg #[.int .i64 0,.slice none 0 0,.slice none 0 0]),3,56):=by kernel_rfl
def FeI(w:World)(b:Nat)(F:Int):Prop:=w.heap[b]? = some (.cells #[.int .i64 F] 3 (0,0))
theorem Di(b b2 p:Nat)(va:Option Addr)(vc:Nat)(K:List (List Value))(L:List TxD)(fee:Int)(u0 u1 u2:Value)(t:TxD)(wA w:World)(h:St b p wA (.slice va L.length vc) K L)(F:Int)(h2:FeI wA b2 F)(hne:b≠b2)(hb2:b2<p)(f1:0≤F)(f2:F≤1000000000)(f3:0≤fee)(f4:fee≤1000000000)(hb:Below wA.heap.size wA w)(hF:Fresh wA.heap.size w (fun w2=>Tr.txR.C w2 [u0,u1,u2] t))(hl:L.length<8) :
  Calls Tryz.prog 79 (#[.agg #[u0,u1,u2],.int .i64 fee]++#[.pointer (some ⟨b,0,none⟩),.pointer (some ⟨b2,0,none⟩)]) w fun e w'=>e = .returned (.tuple #[])∧(∃ v',∃ K',St b p w' v' K' (L++[t])∧FeI w' b2 (F+fee))∧Gr w w' (fun q=>(q=b∨q=b2)∨(Value.slice va L.length vc).ownBlock=some q):=by
 obtain⟨i0,hi,hz0,hz1,hz2⟩:=info_parts Tryz.infoTx9
 obtain⟨ai,ni,ci,ao,no,co,e,_⟩:=hF w (Gr.refl _ _)
 simp only[List.cons.injEq,and_true] at e
 obtain⟨rfl,rfl,rfl⟩:=e
 obtain⟨U,hU⟩:∃ U,U=(w.alloc (.cells #[.int .i64 t.1,.slice ai ni ci,.slice ao no co] 59)).alloc (.cells #[.int .i64 t.1,.slice ai ni ci,.slice ao no co] 59):=⟨_,rfl⟩
 have hbU:Below w.heap.size w U:=by rw[hU];exact bel_on (bel_new _ _) (bel_new _ _)
 have hU1:U.heap[w.heap.size+1]? = some (.cells #[.int .i64 t.1,.slice ai ni ci,.slice ao no co] 59 (0,0)):=by
  rw[hU]
  have:=Zm (w.alloc (.cells #[.int .i64 t.1,.slice ai ni ci,.slice ao no co] 59)) (.int .i64 t.1) (.slice ai ni ci) (.slice ao no co) 59
  rw[show (w.alloc (.cells #[.int .i64 t.1,.slice ai ni ci,.slice ao no co] 59)).heap.size=w.heap.size+1 by simp] at this
  exact this
 have hUs:U.heap.size=w.heap.size+2:=by rw[hU];simp
 have hbp:=h.bp
 have hpl:=h.pl
 have hsz:=hb.size
 have hAU:=bel_on hb hbU
 have OWNU:U.ownsRow (p+1) 59 3 (.slice va L.length vc) L.length K.flatten:=(Gr.of (S:=fun _=>False) hAU).own h.own (fun _ _ q=>q)
 have bxw:=(hb.block b (by omega)).trans h.box
 have bxU:=(hAU.block b (by omega)).trans h.box
 have b0:=Za bxw 0 _ rfl
 have bl:b<w.heap.size:=lt_of_block bxw
 have fxU:=(hAU.block b2 (by omega)).trans h2
 have NEWR:Hid (∀ j u,[Value.int .i64 t.1,.slice ai ni ci,.slice ao no co][j]? = some u→World.cell? ((w.alloc (.cells #[.int .i64 t.1,.slice ai ni ci,.slice ao no co] 59)).alloc (.cells #[.int .i64 t.1,.slice ai ni ci,.slice ao no co] 59)) ((⟨w.heap.size+1,0,none⟩:Addr).add j)=some u):=by rw[←hU];exact World.news_of_block hU1
 have OWNR:Hid (World.ownsRow ((w.alloc (.cells #[.int .i64 t.1,.slice ai ni ci,.slice ao no co] 59)).alloc (.cells #[.int .i64 t.1,.slice ai ni ci,.slice ao no co] 59)) (p+1) 59 3 (.slice va L.length vc) L.length K.flatten):=by rw[←hU];exact OWNU
 have SZR:p+1≤((w.alloc (.cells #[.int .i64 t.1,.slice ai ni ci,.slice ao no co] 59)).alloc (.cells #[.int .i64 t.1,.slice ai ni ci,.slice ao no co] 59)).heap.size:=by rw[←hU];omega
 have HNB:Hid (∀ q,q≤p→(Value.slice va L.length vc).ownBlock≠some q):=fun q hq e=>by have:=(h.own.lt q e).1;omega
 have HH:=hide h
 have HBW:=hide hb
 have HFF:=hide hF
 have HBU:=hide hbU
 have BXU:=hide bxU
 have HLL:=hide hl
 obtain⟨n,hn⟩:∃ n,L.length=n:=⟨_,rfl⟩
 have FXU:=hide fxU
 have fw:w.cell? ⟨b2,0,none⟩=some (.int .i64 F):=Za ((hb.block b2 (by omega)).trans h2) 0 _ rfl
 have HN:=hide hn
 rw[hn] at OWNR HLL b0 HNB BXU HH bxU
 simp only[hn]
 clear h hb hF hbU hU1 OWNU bxw hAU hpl hsz hn hl h2 fxU
 go_enter Tryz.func79,Tryz.ntmps79
 go_wp2_with (at_builtin;refine wpList_append_lies _ rfl _ _ 37 rfl (p+1) 59 i0 (.agg #[.int .i64 0,.slice none 0 0,.slice none 0 0]) 3 56 Tryz.underlying37 hi hz0 hz1 hz2 rfl (by decide) _ _ _ rfl (unhide OWNR) ⟨w.heap.size+1,0,none⟩ 1 1 [.int .i64 t.1,.slice ai ni ci,.slice ao no co] rfl rfl (unhide NEWR) (fun u hu=>by simp at hu;rcases hu with rfl|rfl|rfl <;> rfl) (by decide) (by have:=unhide HLL;unfold maxLen;omega) (by have:=unhide HLL;omega) SZR _ rfl ?_;intro g7 cap7 w7 hown7 hgrow7 hor7 _;rw[←hU] at hgrow7 hor7;have hx7:=(hgrow7.block b (lt_of_block (unhide BXU)) (fun e=>(unhide HNB) b (by omega) e.symm)).trans (unhide BXU);have HX7:=hide hx7;have HO7:=hide hown7;have HG7:=hide hgrow7;have HOR7:=hide hor7;have yy0:=Za hx7 0 _ rfl;have yyl:=lt_of_block hx7;have yyf:=Zb hx7 0;have hf7:=(hgrow7.block b2 (lt_of_block (unhide FXU)) (fun e=>(unhide HNB) b2 (by omega) e.symm)).trans (unhide FXU);have HF7:=hide hf7;have ff0:=Za hf7 0 _ rfl;have ffl:=lt_of_block hf7;have fff:=Zb hf7 0;clear hf7;clear hx7 hown7 hgrow7 hor7)
 have PU:=St.push (v':=.slice (some ⟨g7,0,none⟩) (n+1) cap7) (unhide HH) (unhide HBW) (unhide HFF) (unhide HBU) (unhide HG7) (by rw[unhide HN];exact unhide HO7) (by
  rcases unhide HOR7 with q|q
  ·exact .inl q
  ·exact .inr ⟨g7,rfl,by omega⟩)
 have g9:Gr (w7.setCell ⟨b,0,none⟩ (.slice (some ⟨g7,0,none⟩) (n+1) cap7)) ((w7.setCell ⟨b,0,none⟩ (.slice (some ⟨g7,0,none⟩) (n+1) cap7)).setCell ⟨b2,0,none⟩ (.int .i64 (F+fee))) (fun q=>q=b2):=(Gr.refl _ (fun q=>q=b2)).one b2 0 (.inl rfl) _
 have R1:=hide (PU.1.on g9 (fun q e=>by subst e;exact⟨by omega,fun q=>hne q.symm⟩))
 have R2:Hid (FeI ((w7.setCell ⟨b,0,none⟩ (.slice (some ⟨g7,0,none⟩) (n+1) cap7)).setCell ⟨b2,0,none⟩ (.int .i64 (F+fee))) b2 (F+fee)):=Wa ((heap_setCell_other w7 ⟨b,0,none⟩ b2 _ (fun e=>hne e.symm)).trans (unhide HF7))
 have R3:Hid (Gr w ((w7.setCell ⟨b,0,none⟩ (.slice (some ⟨g7,0,none⟩) (n+1) cap7)).setCell ⟨b2,0,none⟩ (.int .i64 (F+fee))) (fun q=>(q=b∨q=b2)∨(Value.slice va n vc).ownBlock=some q)):=(PU.2.mono (fun q _ e=>e.elim (fun e=>.inl (.inl e)) .inr)).trans (g9.mono (fun q _ e=>.inl (.inr e)))
 clear PU g9
 (try go_wp2)
 ((try simp only[Exit.inBlock,Exit.then]);first|refine bodyPost_end (results_none rfl _ _ _) rfl ?_|refine bodyPost_ret (results_none rfl _ _ _) rfl ?_)
 exact⟨rfl,⟨_,_,unhide R1,unhide R2⟩,unhide R3⟩
theorem Bh(b b2 p:Nat)(va:Option Addr)(vc:Nat)(K:List (List Value))(L:List TxD)(fee:Int)(u0 u1 u2:Value)(t:TxD)(wA w:World)(h:St b p wA (.slice va L.length vc) K L)(F:Int)(h2:FeI wA b2 F)(hne:b≠b2)(hb2:b2<p)(f1:0≤F)(f2:F≤1000000000)(f3:0≤fee)(f4:fee≤1000000000)(hb:Below wA.heap.size wA w)(hF:Fresh wA.heap.size w (fun w2=>Tr.txR.C w2 [u0,u1,u2] t))(hl:L.length<3) :
  Calls Tryz.prog 82 (#[.agg #[u0,u1,u2],.int .i64 fee]++#[.pointer (some ⟨b,0,none⟩),.pointer (some ⟨b2,0,none⟩)]) w fun e w'=>e = .returned (.tuple #[])∧(∃ v',∃ K',St b p w' v' K' (L++[t])∧FeI w' b2 (F+fee))∧Gr w w' (fun q=>(q=b∨q=b2)∨(Value.slice va L.length vc).ownBlock=some q):=by
 obtain⟨i0,hi,hz0,hz1,hz2⟩:=info_parts Tryz.infoTx9
 obtain⟨ai,ni,ci,ao,no,co,e,_⟩:=hF w (Gr.refl _ _)
 simp only[List.cons.injEq,and_true] at e
 obtain⟨rfl,rfl,rfl⟩:=e
 obtain⟨U,hU⟩:∃ U,U=(w.alloc (.cells #[.int .i64 t.1,.slice ai ni ci,.slice ao no co] 59)).alloc (.cells #[.int .i64 t.1,.slice ai ni ci,.slice ao no co] 59):=⟨_,rfl⟩
 have hbU:Below w.heap.size w U:=by rw[hU];exact bel_on (bel_new _ _) (bel_new _ _)
 have hU1:U.heap[w.heap.size+1]? = some (.cells #[.int .i64 t.1,.slice ai ni ci,.slice ao no co] 59 (0,0)):=by
  rw[hU]
  have:=Zm (w.alloc (.cells #[.int .i64 t.1,.slice ai ni ci,.slice ao no co] 59)) (.int .i64 t.1) (.slice ai ni ci) (.slice ao no co) 59
  rw[show (w.alloc (.cells #[.int .i64 t.1,.slice ai ni ci,.slice ao no co] 59)).heap.size=w.heap.size+1 by simp] at this
  exact this
 have hUs:U.heap.size=w.heap.size+2:=by rw[hU];simp
 have hbp:=h.bp
 have hpl:=h.pl
 have hsz:=hb.size
 have hAU:=bel_on hb hbU
 have OWNU:U.ownsRow (p+1) 59 3 (.slice va L.length vc) L.length K.flatten:=(Gr.of (S:=fun _=>False) hAU).own h.own (fun _ _ q=>q)
 have bxw:=(hb.block b (by omega)).trans h.box
 have bxU:=(hAU.block b (by omega)).trans h.box
 have b0:=Za bxw 0 _ rfl
 have bl:b<w.heap.size:=lt_of_block bxw
 have fxU:=(hAU.block b2 (by omega)).trans h2
 have NEWR:Hid (∀ j u,[Value.int .i64 t.1,.slice ai ni ci,.slice ao no co][j]? = some u→World.cell? ((w.alloc (.cells #[.int .i64 t.1,.slice ai ni ci,.slice ao no co] 59)).alloc (.cells #[.int .i64 t.1,.slice ai ni ci,.slice ao no co] 59)) ((⟨w.heap.size+1,0,none⟩:Addr).add j)=some u):=by rw[←hU];exact World.news_of_block hU1
 have OWNR:Hid (World.ownsRow ((w.alloc (.cells #[.int .i64 t.1,.slice ai ni ci,.slice ao no co] 59)).alloc (.cells #[.int .i64 t.1,.slice ai ni ci,.slice ao no co] 59)) (p+1) 59 3 (.slice va L.length vc) L.length K.flatten):=by rw[←hU];exact OWNU
 have SZR:p+1≤((w.alloc (.cells #[.int .i64 t.1,.slice ai ni ci,.slice ao no co] 59)).alloc (.cells #[.int .i64 t.1,.slice ai ni ci,.slice ao no co] 59)).heap.size:=by rw[←hU];omega
 have HNB:Hid (∀ q,q≤p→(Value.slice va L.length vc).ownBlock≠some q):=fun q hq e=>by have:=(h.own.lt q e).1;omega
 have HH:=hide h
 have HBW:=hide hb
 have HFF:=hide hF
 have HBU:=hide hbU
 have BXU:=hide bxU
 have HLL:=hide hl
 obtain⟨n,hn⟩:∃ n,L.length=n:=⟨_,rfl⟩
 have FXU:=hide fxU
 have fw:w.cell? ⟨b2,0,none⟩=some (.int .i64 F):=Za ((hb.block b2 (by omega)).trans h2) 0 _ rfl
 have HN:=hide hn
 rw[hn] at OWNR HLL b0 HNB BXU HH bxU
 simp only[hn]
 clear h hb hF hbU hU1 OWNU bxw hAU hpl hsz hn hl h2 fxU
 go_enter Tryz.func82,Tryz.ntmps82
 have gl:(n:Int)<3:=by have:=unhide HLL;omega
 go_wp2_with (at_builtin;refine wpList_append_lies _ rfl _ _ 37 rfl (p+1) 59 i0 (.agg #[.int .i64 0,.slice none 0 0,.slice none 0 0]) 3 56 Tryz.underlying37 hi hz0 hz1 hz2 rfl (by decide) _ _ _ rfl (unhide OWNR) ⟨w.heap.size+1,0,none⟩ 1 1 [.int .i64 t.1,.slice ai ni ci,.slice ao no co] rfl rfl (unhide NEWR) (fun u hu=>by simp at hu;rcases hu with rfl|rfl|rfl <;> rfl) (by decide) (by have:=unhide HLL;unfold maxLen;omega) (by have:=unhide HLL;omega) SZR _ rfl ?_;intro g7 cap7 w7 hown7 hgrow7 hor7 _;rw[←hU] at hgrow7 hor7;have hx7:=(hgrow7.block b (lt_of_block (unhide BXU)) (fun e=>(unhide HNB) b (by omega) e.symm)).trans (unhide BXU);have HX7:=hide hx7;have HO7:=hide hown7;have HG7:=hide hgrow7;have HOR7:=hide hor7;have yy0:=Za hx7 0 _ rfl;have yyl:=lt_of_block hx7;have yyf:=Zb hx7 0;have hf7:=(hgrow7.block b2 (lt_of_block (unhide FXU)) (fun e=>(unhide HNB) b2 (by omega) e.symm)).trans (unhide FXU);have HF7:=hide hf7;have ff0:=Za hf7 0 _ rfl;have ffl:=lt_of_block hf7;have fff:=Zb hf7 0;clear hf7;clear hx7 hown7 hgrow7 hor7)
 have PU:=St.push (v':=.slice (some ⟨g7,0,none⟩) (n+1) cap7) (unhide HH) (unhide HBW) (unhide HFF) (unhide HBU) (unhide HG7) (by rw[unhide HN];exact unhide HO7) (by
  rcases unhide HOR7 with q|q
  ·exact .inl q
  ·exact .inr ⟨g7,rfl,by omega⟩)
 have g9:Gr (w7.setCell ⟨b,0,none⟩ (.slice (some ⟨g7,0,none⟩) (n+1) cap7)) ((w7.setCell ⟨b,0,none⟩ (.slice (some ⟨g7,0,none⟩) (n+1) cap7)).setCell ⟨b2,0,none⟩ (.int .i64 (F+fee))) (fun q=>q=b2):=(Gr.refl _ (fun q=>q=b2)).one b2 0 (.inl rfl) _
 have R1:=hide (PU.1.on g9 (fun q e=>by subst e;exact⟨by omega,fun q=>hne q.symm⟩))
 have R2:Hid (FeI ((w7.setCell ⟨b,0,none⟩ (.slice (some ⟨g7,0,none⟩) (n+1) cap7)).setCell ⟨b2,0,none⟩ (.int .i64 (F+fee))) b2 (F+fee)):=Wa ((heap_setCell_other w7 ⟨b,0,none⟩ b2 _ (fun e=>hne e.symm)).trans (unhide HF7))
 have R3:Hid (Gr w ((w7.setCell ⟨b,0,none⟩ (.slice (some ⟨g7,0,none⟩) (n+1) cap7)).setCell ⟨b2,0,none⟩ (.int .i64 (F+fee))) (fun q=>(q=b∨q=b2)∨(Value.slice va n vc).ownBlock=some q)):=(PU.2.mono (fun q _ e=>e.elim (fun e=>.inl (.inl e)) .inr)).trans (g9.mono (fun q _ e=>.inl (.inr e)))
 clear PU g9
 (try go_wp2)
 ((try simp only[Exit.inBlock,Exit.then]);first|refine bodyPost_end (results_none rfl _ _ _) rfl ?_|refine bodyPost_ret (results_none rfl _ _ _) rfl ?_)
 exact⟨rfl,⟨_,_,unhide R1,unhide R2⟩,unhide R3⟩
theorem Mk(b b2 p:Nat)(va:Option Addr)(vc:Nat)(K:List (List Value))(L:List TxD)(fee:Int)(u0 u1 u2:Value)(t:TxD)(wA w:World)(h:St b p wA (.slice va L.length vc) K L)(hb:Below wA.heap.size wA w)(hF:Fresh wA.heap.size w (fun w2=>Tr.txR.C w2 [u0,u1,u2] t))(hl:3≤L.length) :
  Calls Tryz.prog 82 (#[.agg #[u0,u1,u2],.int .i64 fee]++#[.pointer (some ⟨b,0,none⟩),.pointer (some ⟨b2,0,none⟩)]) w fun e w'=>e = .returned (.tuple #[])∧Below w.heap.size w w':=by
 obtain⟨ai,ni,ci,ao,no,co,e,_⟩:=hF w (Gr.refl _ _)
 simp only[List.cons.injEq,and_true] at e
 obtain⟨rfl,rfl,rfl⟩:=e
 have HB:=hide (bel_new w (.cells #[.int .i64 t.1,.slice ai ni ci,.slice ao no co] 59))
 have hbp:=h.bp
 have hpl:=h.pl
 have bxw:=(hb.block b (by omega)).trans h.box
 have b0:=Za bxw 0 _ rfl
 have bl:b<w.heap.size:=lt_of_block bxw
 have gl:¬((L.length:Int)<3):=by omega
 obtain⟨n,hn⟩:∃ n,L.length=n:=⟨_,rfl⟩
 rw[hn] at b0 gl
 clear h hb hF hbp hpl bxw hl hn
 go_enter Tryz.func82,Tryz.ntmps82
 go_wp2
 ((try simp only[Exit.inBlock,Exit.then]);first|refine bodyPost_end (results_none rfl _ _ _) rfl ?_|refine bodyPost_ret (results_none rfl _ _ _) rfl ?_)
 exact⟨rfl,unhide HB⟩
end Go.Proofs.YtmomfkikogbdeaaGreatDoor
