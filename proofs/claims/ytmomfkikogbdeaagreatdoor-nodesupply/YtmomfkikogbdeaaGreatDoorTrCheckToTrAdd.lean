/- The contract of tree.Check. -/
import Derived.Test.YtmomfkikogbdeaaGreatDoorTrClTreeToTrFirst
import Derived.Test.YtmomfkikogbdeaaGreatDoorCoinApplyToCoinApplyB
import Derived.Test.YtmomfkikogbdeaaGreatDoorChnKitToPolWorth
import Derived.Deep.AppendLies
set_option maxHeartbeats 12800000
set_option maxRecDepth 10000
namespace Go.Proofs.YtmomfkikogbdeaaGreatDoor.Tr
open Go.RowKit
theorem Ub{N:List Int}{T:List Zg}{x:Int}{b:Zg}(h:Xq N T x b=0):Yg b=0:=by
 unfold Xq at h
 split at h
 ·cases h
 ·split at h
  ·next q=>exact absurd h q
  ·next q=>exact Classical.not_not.1 q
theorem Mq{T:List Zg}{j:Nat}(hj:j<T.length)(h:Y3 (T.take j))(hb:Yg T[j]=0):Y3 (T.take (j+1)):=by
 rw[List.take_succ_eq_append_getElem hj]
 intro b hm
 rcases List.mem_append.1 hm with q|q
 ·exact h b q
 ·rw[List.mem_singleton.1 q];exact Jz hb
theorem V3(a b:Option Addr)(n c m d:Nat)(N:List Int)(T:List Zg)(x:Int)(w:World)(hN:IntsAt w a n N)(hT:BlksAt w b m T)(sN:SlOk a n c)(sT:SlOk b m d)(hx:chkTr N T=x) :
  Calls Tryz.prog 69 #[.agg #[.slice a n c,.slice b m d]] w fun e w'=>e = .returned (.int .i64 x)∧Below w.heap.size w w':=by
 subst hx
 obtain⟨X,hX⟩:∃ X,X=w.alloc (.cells #[.slice a n c,.slice b m d] 28):=⟨_,rfl⟩
 have hbX:Below w.heap.size w X:=by rw[hX];exact bel_new _ _
 have hX0:X.heap[w.heap.size]? = some (.cells [.slice a n c,.slice b m d].toArray 28 (0,0)):=by rw[hX];exact Yh _ _ _ _
 have HB:=hide hbX
 have HX0:=hide hX0
 have x0:=Za hX0 0 _ rfl
 have x1:=Za hX0 1 _ rfl
 have xl:=lt_of_block hX0
 have HN:=hide (hN.later hbX)
 have HT:=hide (hT.later hbX)
 have HZN:=hide hN.1
 have HZT:=hide hT.1
 have hm:=sN.2.1
 have hm2:=sT.2.1
 have hlc:=sN.1
 unfold maxLen at hm hm2
 by_cases e:n=m
 ·subst e
  by_cases h24:24<n
  ·have R:Hid (chkTr N T=2):=by show _=_;unfold chkTr;rw[hN.1,hT.1,if_neg (by simp),if_pos h24]
   have g0:((n:Int) != (n:Int))=false:=by simp
   have g1:(24:Int)<(n:Int):=by omega
   clear hN hT sN sT hX0 hbX
   go_enter Tryz.func69,Tryz.ntmps69
   go_wp2_with fail
   rw[←hX]
   clear hX
   go_wp2
   go_ret
   exact⟨by rw[unhide R];rfl,unhide HB⟩
  ·have R:Hid (chkTr N T=Yt (N.take 0) (T.take 0) (N.drop 0) (T.drop 0)):=by show _=_;unfold chkTr;rw[hN.1,hT.1,if_neg (by simp),if_neg h24];rfl
   have g0:((n:Int) != (n:Int))=false:=by simp
   have g1:¬(24:Int)<(n:Int):=by omega
   have SN:=hide sN
   have ST:=hide sT
   clear hN hT sN sT hX0 hbX
   go_enter Tryz.func69,Tryz.ntmps69
   go_wp2_with fail
   rw[←hX]
   clear hX
   go_wp2
   go_loopw [19] (fun i wr=>∃ j:Nat,j≤n∧i = .int .i64 j∧Hid (chkTr N T=Yt (N.take j) (T.take j) (N.drop j) (T.drop j))∧Hid (Y3 (T.take j))∧Hid (Below X.heap.size X wr)) (fun i _=>n - (intOf i).toNat)
   case atStart=>exact⟨0,Nat.zero_le _,rfl,R,(fun b hb=>(by simp at hb):Y3 (T.take 0)),(Below.refl _ _:Below X.heap.size X X)⟩
   case round=>
    obtain⟨j,hj,rfl,A,HH,HBr⟩:=hrel
    clear R
    by_cases hlt:j<n
    ·have h1:j<N.length:=by rw[unhide HZN];exact hlt
     have h2:j<T.length:=by rw[unhide HZT];exact hlt
     obtain⟨b1,off1,rfl,hl1,hc1⟩:=(unhide HN).2 (by omega)
     obtain⟨b2,off2,rfl,hl2,hc2⟩:=(unhide HT).2 (by omega)
     have f1:=cell_later (unhide HBr) (hc1 j h1)
     have hin:=BlkAt.kept _ _ _ _ _ (unhide HBr) (hc2 j h2)
     have AT:=hide (Ch N T j h1 h2)
     have HM:=hide (Mq h2 (unhide HH))
     obtain⟨s,hs⟩:∃ s,N[j]=s:=⟨_,rfl⟩
     obtain⟨t,ht⟩:∃ t,T[j]=t:=⟨_,rfl⟩
     rw[hs] at f1 AT
     rw[ht] at hin AT HM
     obtain⟨p,h,k,o,L⟩:=t
     obtain⟨g0',g1',g2,g3,ta,tn,tc,g4,hL,_⟩:=hin
     simp only at g0' g1' g2 g3 hL
     obtain⟨y,hy⟩:∃ y,Xq (N.take j) (T.take j) s (p,h,k,o,L)=y:=⟨_,rfl⟩
     have w0:=cell_later (unhide HBr) x0
     have w1:=cell_later (unhide HBr) x1
     have wl:=Nat.lt_of_lt_of_le xl (unhide HBr).size
     have ll1:=Nat.lt_of_lt_of_le hl1 (unhide HBr).size
     have ll2:=Nat.lt_of_lt_of_le hl2 (unhide HBr).size
     have C1:=hide (fun W=>Bp (some ⟨b1,off1,none⟩) (some ⟨b2,off2,none⟩) n c d j W hj (unhide SN) (unhide ST))
     have hjm:j≤maxLen:=by unfold maxLen;omega
     have C2:=hide (fun W (hb:Below wr.heap.size wr W)=>Nv (some ⟨b1,off1,none⟩) (some ⟨b2,off2,none⟩) j c d (N.take j) (T.take j) s p h k o ta tn tc L y W hjm (((unhide HN).later (bel_on (unhide HBr) hb)).take j hj) (RowsAt.take ((unhide HT).later (bel_on (unhide HBr) hb)) j hj) (hL.later hb) (unhide HH) hy)
     rw[hy] at AT
     have HY:Hid (y=0→Yg (p,h,k,o,L)=0):=fun q=>Ub (hy.trans q)
     clear hc1 hc2 hL hs ht hy x0 x1 xl hl1 hl2
     by_cases q:y=0
     ·subst q
      have R:Hid (chkTr N T=Yt (N.take (j+1)) (T.take (j+1)) (N.drop (j+1)) (T.drop (j+1))):=by show _=_;rw[unhide A,unhide AT,if_neg (by simp)]
      have HH2:=hide ((unhide HM) ((unhide HY) rfl))
      clear A AT HM HY
      go_wp2_with fail
      go_region_held3 (fun W'=>Below wr.heap.size wr W'∧W'.cell? ⟨w.heap.size,0,none⟩=some (.slice (some ⟨b1,off1,none⟩) n c)∧W'.cell? ⟨w.heap.size,1,none⟩=some (.slice (some ⟨b2,off2,none⟩) n d)∧W'.cell? ⟨b1,off1+j,none⟩=some (.int .i64 s)∧W'.cell? ⟨b2,off2+j*5,none⟩=some (.int .i64 p)∧W'.cell? ⟨b2,off2+j*5+1,none⟩=some (.int .i64 h)∧W'.cell? ⟨b2,off2+j*5+2,none⟩=some (.int .i64 k)∧W'.cell? ⟨b2,off2+j*5+3,none⟩=some (.int .i64 o)∧W'.cell? ⟨b2,off2+j*5+4,none⟩=some (.slice ta tn tc))
       (first
       | exact⟨Ze _,w0,w1,f1,g0',g1',g2,g3,g4⟩
       | (go_split_ands;refine⟨bel_on (by assumption) hbc,cell_later hbc (by assumption),cell_later hbc (by assumption),cell_later hbc (by assumption),cell_later hbc (by assumption),cell_later hbc (by assumption),cell_later hbc (by assumption),cell_later hbc (by assumption),cell_later hbc (by assumption)⟩))
       (first|(go_at_call 140;refine ((unhide C1) _).mono ?_;rintro e w' ⟨rfl,hbc⟩)|(go_at_call 134;go_split_ands;refine ((unhide C2) _ (by assumption)).mono ?_;rintro e w' ⟨rfl,hbc⟩))
      rename_i hq
      have HB3:=hide (bel_on (unhide HBr) hq.1)
      clear hq
      go_wp2
      go_roundw
      case rel=>exact⟨j+1,by omega,by go_num,R,HH2,HB3⟩
      case measure=>simp[intOf];omega
     ·have R:Hid (chkTr N T=y):=by show _=_;rw[unhide A,unhide AT,if_pos q]
      have gy:(y != 0)=true:=by simp[q]
      clear A AT HM HY q
      go_wp2_with fail
      go_region_held3 (fun W'=>Below wr.heap.size wr W'∧W'.cell? ⟨w.heap.size,0,none⟩=some (.slice (some ⟨b1,off1,none⟩) n c)∧W'.cell? ⟨w.heap.size,1,none⟩=some (.slice (some ⟨b2,off2,none⟩) n d)∧W'.cell? ⟨b1,off1+j,none⟩=some (.int .i64 s)∧W'.cell? ⟨b2,off2+j*5,none⟩=some (.int .i64 p)∧W'.cell? ⟨b2,off2+j*5+1,none⟩=some (.int .i64 h)∧W'.cell? ⟨b2,off2+j*5+2,none⟩=some (.int .i64 k)∧W'.cell? ⟨b2,off2+j*5+3,none⟩=some (.int .i64 o)∧W'.cell? ⟨b2,off2+j*5+4,none⟩=some (.slice ta tn tc))
       (first
       | exact⟨Ze _,w0,w1,f1,g0',g1',g2,g3,g4⟩
       | (go_split_ands;refine⟨bel_on (by assumption) hbc,cell_later hbc (by assumption),cell_later hbc (by assumption),cell_later hbc (by assumption),cell_later hbc (by assumption),cell_later hbc (by assumption),cell_later hbc (by assumption),cell_later hbc (by assumption),cell_later hbc (by assumption)⟩))
       (first|(go_at_call 140;refine ((unhide C1) _).mono ?_;rintro e w' ⟨rfl,hbc⟩)|(go_at_call 134;go_split_ands;refine ((unhide C2) _ (by assumption)).mono ?_;rintro e w' ⟨rfl,hbc⟩))
      rename_i hq
      have HB3:=hide (bel_on (unhide HB) (bel_on (unhide HBr) hq.1))
      clear hq
      go_wp2
      go_ret
      exact⟨by rw[unhide R];rfl,unhide HB3⟩
    ·have R:Hid (chkTr N T=0):=by show _=_;rw[unhide A,Fy N T j (by rw[unhide HZN];omega)]
     have HBF:=hide (bel_on (unhide HB) (unhide HBr))
     clear A
     go_wp2
     go_ret
     exact⟨by rw[unhide R];rfl,unhide HBF⟩
 ·have R:Hid (chkTr N T=4):=by show _=_;unfold chkTr;rw[hN.1,hT.1,if_pos e]
  have g0:((n:Int) != (m:Int))=true:=by simp;omega
  clear hN hT sN sT hX0 hbX
  go_enter Tryz.func69,Tryz.ntmps69
  go_wp2_with fail
  rw[←hX]
  clear hX
  go_wp2
  go_ret
  exact⟨by rw[unhide R];rfl,unhide HB⟩
theorem Re:∀ (M:List Int) (U:List Zg) (N:List Int) (T:List Zg),M.length=U.length→Yt N T M U=0→Y3 U
 | [],[],_,_,_,_=>fun b hb=>by cases hb
 | [],_ :: _,_,_,h,_=>by cases h
 | _ :: _,[],_,_,h,_=>by cases h
 | x :: M,b :: U,N,T,h,hc=>by
  rw[Yt] at hc
  split at hc
  ·next q=>exact absurd hc q
  ·next q=>
   have h1:=Jz (Ub (Classical.not_not.1 q))
   have h2:=Re M U _ _ (by simpa using h) hc
   intro y hy
   rcases List.mem_cons.1 hy with rfl|hy
   ·exact h1
   ·exact h2 y hy
theorem Vm{N:List Int}{T:List Zg}(h:chkTr N T=0):N.length=T.length∧N.length≤24∧Y3 T∧Yt [] [] N T=0:=by
 unfold chkTr at h
 split at h
 ·cases h
 ·next q=>
  split at h
  ·cases h
  ·next q2=>exact⟨Classical.not_not.1 q,by omega,Re N T [] [] (Classical.not_not.1 q) h,h⟩
theorem Ek{N:List Int}{T:List Zg}(h:Y3 T)(s:Int):(Jn N T s).length≤1000:=by
 unfold Jn
 rw[Gb]
 have:=(Jw h s N)
 omega
theorem Dy(a b:Option Addr)(n c d:Nat)(N:List Int)(T:List Zg)(s:Int)(P:List Int)(pn:Nat)(w:World)(hn:n≤maxLen)(hN:IntsAt w a n N)(hT:BlksAt w b n T)(hH:Y3 T)(hP:Jn N T s=P)(hpn:P.length=pn) :
  Calls Tryz.prog 131 #[.agg #[.slice a n c,.slice b n d],.int .i64 s] w fun e w'=>∃ v,e = .returned v∧w'.ownsRow w.heap.size 3 1 v pn (P.map (Value.int .i64))∧Below w.heap.size w w':=by
 subst hP hpn
 exact Dx a b n c d N T s w hn hN hT hH
def addE(N:List Int)(T:List Zg)(x:Int)(b:Zg):List Int×List Zg×Int:=
 if chkTr N T≠0 then ([],[],chkTr N T) else if Xq N T x b≠0 then ([],[],Xq N T x b) else if N.length=24 then ([],[],12) else (N++[x],T++[b],0)
theorem Pv:∀ (l pre:List InD),Z3 pre l=0→∀ x∈l,x.2.2.length≤16
 | [],_,_,x,hx=>by cases hx
 | y :: r,pre,h,x,hx=>by
  rw[Z3] at h
  split at h
  ·next q=>
   rcases List.mem_cons.1 hx with rfl|hx
   ·unfold Xe at q
    split at q
    ·cases q
    ·split at q
     ·next q1=>exact absurd q q1
     ·next q1=>exact Ja (Classical.not_not.1 q1)
   ·exact Pv r _ h x hx
  ·next q=>exact absurd h q
theorem Te:∀ (l:List Zw),Z4 l=0→∀ x∈l,x.2.length≤16
 | [],_,x,hx=>by cases hx
 | y :: r,h,x,hx=>by
  rw[Z4] at h
  split at h
  ·next q=>
   rcases List.mem_cons.1 hx with rfl|hx
   ·unfold Yp at q
    split at q
    ·cases q
    ·exact Ja q
   ·exact Te r h x hx
  ·next q=>exact absurd h q
theorem tx_small{t:TxD}(h:Zp t=0):TxSmall t:=by
 unfold Zp at h
 split at h
 ·cases h
 ·next q0=>
  split at h
  ·cases h
  ·split at h
   ·cases h
   ·split at h
    ·next q=>exact absurd h q
    ·next q=>
     have h1:=Pv _ _ (Classical.not_not.1 q)
     unfold Z6 at h
     split at h
     ·next q2=>
      have h2:=Te _ q2
      exact⟨by omega,by omega,fun x hx=>by have:=h1 x hx;omega,fun x hx=>by have:=h2 x hx;omega⟩
     ·next q2=>exact absurd h q2
theorem chkTs_all(h:Int):∀ (T:List TxD) (i:Nat),Y7 h i T=0→∀ t∈T,Zp t=0
 | [],_,_,t,ht=>by cases ht
 | u :: r,i,q,t,ht=>by
  rw[Y7] at q
  split at q
  ·next q1=>exact absurd q q1
  ·next q1=>
   split at q
   ·cases q
   ·rcases List.mem_cons.1 ht with rfl|ht
    ·exact Classical.not_not.1 q1
    ·exact chkTs_all h r _ q t ht
theorem blk_small{b:Zg}(h:Yg b=0):BlkSmall b:=by
 unfold Yg at h
 split at h
 ·cases h
 ·split at h
  ·cases h
  ·next q=>
   split at h
   ·cases h
   ·exact⟨by omega,fun t ht=>tx_small (chkTs_all _ _ _ h t ht)⟩
theorem Qj:∀ (M:List Int) (U:List Zg) (N:List Int) (T:List Zg),M.length=U.length→Yt N T M U=0→∀ b∈U,Yg b=0
 | [],[],_,_,_,_=>fun b hb=>by cases hb
 | [],_ :: _,_,_,h,_=>by cases h
 | _ :: _,[],_,_,h,_=>by cases h
 | x :: M,b :: U,N,T,h,hc=>by
  rw[Yt] at hc
  split at hc
  ·next q=>exact absurd hc q
  ·next q=>
   have h1:=Ub (Classical.not_not.1 q)
   have h2:=Qj M U _ _ (by simpa using h) hc
   intro y hy
   rcases List.mem_cons.1 hy with rfl|hy
   ·exact h1
   ·exact h2 y hy
def AddR(w w':World)(N:List Int)(T:List Zg)(n:Nat)(x:Int)(e:Ending):Prop:=
 ∃ a1 c1 a2 c2,e = .returned (.tuple #[.agg #[.slice a1 n c1,.slice a2 n c2],.int .i64 x])∧Fresh w.heap.size w' (fun w2=>IntsAt w2 a1 n N∧BlksAt w2 a2 n T)∧SlOk a1 n c1∧SlOk a2 n c2∧Below w.heap.size w w'
theorem Sn{w w':World}{x:Int}(hb:Below w.heap.size w w'):AddR w w' [] [] 0 x (.returned (.tuple #[.agg #[.slice none 0 0,.slice none 0 0],.int .i64 x])):=
 ⟨none,0,none,0,rfl,fun _ _=>⟨IntsAt.nil _ _,RowsAt.nil _ _⟩,⟨Nat.le_refl _,Nat.zero_le _,fun _=>⟨rfl,rfl⟩⟩,⟨Nat.le_refl _,Nat.zero_le _,fun _=>⟨rfl,rfl⟩⟩,hb⟩
theorem Qk{w W:World}{t:Nat}(hb:Below w.heap.size w W)(ht:w.heap.size≤t)(hs:w.heap.size≤W.heap.size)(u v:Value):Below w.heap.size w ((W.setCell ⟨t,0,none⟩ u).setCell ⟨t,1,none⟩ v):=
 (((Gr.refl W (fun q=>q=t)).one t 0 (.inl rfl) u).one t 1 (.inl rfl) v).below hb hs (fun k e=>by omega)
theorem Zat{B B5 G O t6 n:Nat}{w5 w9 w10 w12 wF:World}{v1 v2:Value}{g cap g2 cap2:Nat}{N:List Int}{T:List Zg}{s:Int}{b:Zg}{K:List (List Value)}{cs:List Value}
  (hB:B≤B5) (ht6:t6<B5) (hBG:B5≤G) (hTn:T.length=n) (hF:Fresh G w5 (fun w2=>AllC blkR w2 K T)) (hf:Fresh w9.heap.size w10 (fun w2=>blkR.C w2 cs b))
  (h1:∀ q,v1.ownBlock=some q→q<G) (h2:∀ q,v2.ownBlock=some q→q<G) (h2':∀ q,v2.ownBlock=some q→B5≤q∧q<w5.heap.size) (hO:O=w5.heap.size) (hO9:O<w9.heap.size) (hB9:B≤w9.heap.size) (ht9:t6<w9.heap.size)
  (g9:Gr w5 w9 (fun q=>v1.ownBlock=some q)) (gF:Gr w9 wF (fun q=>v2.ownBlock=some q∨q=O∨q=t6)) (g10:Gr w10 wF (fun q=>v2.ownBlock=some q∨q=O∨q=t6)) (g12:Gr w12 wF (fun q=>q=O∨q=t6))
  (on9:w9.ownsRow B5 3 1 (.slice (some ⟨g,0,none⟩) (n+1) cap) (n+1) ((N++[s]).map (Value.int .i64))) (hg:g≠O) (hg2:v2.ownBlock≠some g)
  (o12:w12.ownsRow B5 39 5 (.slice (some ⟨g2,0,none⟩) (n+1) cap2) (n+1) (K.flatten++cs)) (hgg:g2≠O) :
  Fresh B wF (fun w2=>IntsAt w2 (some ⟨g,0,none⟩) (n+1) (N++[s])∧BlksAt w2 (some ⟨g2,0,none⟩) (n+1) (T++[b]))∧SlOk (some ⟨g,0,none⟩) (n+1) cap∧SlOk (some ⟨g2,0,none⟩) (n+1) cap2:=by
 have gb:=(on9.lt g rfl).1
 have gb2:=(o12.lt g2 rfl).1
 have onF:=gF.own on9 (fun q hq e=>by
  cases hq
  rcases e with e|e|e
  ·exact hg2 e
  ·exact hg e
  ·simp only at e;omega)
 have obF:=g12.own o12 (fun q hq e=>by
  cases hq
  rcases e with e|e
  ·exact hgg e
  ·simp only at e;omega)
 have hFF:Fresh G wF (fun w2=>AllC blkR w2 K T):=hF.on (((g9.mono (T:=fun q=>v1.ownBlock=some q∨v2.ownBlock=some q∨q=O∨q=t6) fun q _ e=>.inl e).trans (gF.mono fun q _ e=>.inr e)).mono fun q hq e=>by
  rcases e with e|e|e|e
  ·exact h1 q e
  ·exact h2 q e
  ·omega
  ·omega)
 have hfF:Fresh w9.heap.size wF (fun w2=>blkR.C w2 cs b):=hf.on (g10.mono fun q _ e=>by
  rcases e with e|e|e
  ·have:=(h2' q e).2;omega
  ·omega
  ·omega)
 have s1:=own_slice onF
 have s2:=own_slice obF
 obtain⟨a1,c1,e1,s1,_⟩:=s1
 obtain⟨a2,c2,e2,s2,_⟩:=s2
 cases e1
 cases e2
 refine⟨fun w2 g2=>?_,s1,s2⟩
 have onW:=g2.own onF (fun q hq=>by have:=(onF.lt q hq).1;omega)
 have obW:=g2.own obF (fun q hq=>by have:=(obF.lt q hq).1;omega)
 obtain⟨a1,c1,e1,_,i1⟩:=Ud onW
 cases e1
 have hA:=(hFF w2 (g2.mono fun q _ e=>by omega)).snoc (hfF w2 (g2.mono fun q _ e=>by omega))
 have hfl:K.flatten++cs=(K++[cs]).flatten:=by simp
 rw[hfl] at obW
 obtain⟨a2,c2,e2,r2,_⟩:=rows_of_own blkR obW hA (by rw[List.length_append,hTn];rfl)
 cases e2
 exact⟨i1,r2⟩
theorem add_is(a b:Option Addr)(n c m d:Nat)(N:List Int)(T:List Zg)(s p h k o:Int)(ta:Option Addr)(tn tc:Nat)(L:List TxD)(N':List Int)(T':List Zg)(n':Nat)(x:Int)(w:World)(hN:IntsAt w a n N)(hT:BlksAt w b m T)(sN:SlOk a n c)(sT:SlOk b m d)(hL:TxsAt w ta tn L)(sL:SlOk ta tn tc)(hx:addE N T s (p,h,k,o,L)=(N',T',x))(hn':N'.length=n') :
  Calls Tryz.prog 63 #[.agg #[.slice a n c,.slice b m d],.int .i64 s,.agg #[.int .i64 p,.int .i64 h,.int .i64 k,.int .i64 o,.slice ta tn tc]] w fun e w'=>AddR w w' N' T' n' x e:=by
 obtain⟨i0,hi,hz0,hz1,hz2⟩:=info_parts Tryz.infoInt
 obtain⟨j0,ji,jz0,jz1,jz2⟩:=info_parts Tryz.infoBlkC
 obtain⟨X,hX⟩:∃ X,X=((w.alloc (.cells #[.slice a n c,.slice b m d] 28)).alloc (.cells #[.int .i64 p,.int .i64 h,.int .i64 k,.int .i64 o,.slice ta tn tc] 39)).alloc (.cells #[.slice none 0 0,.slice none 0 0] 28):=⟨_,rfl⟩
 have hbX:Below w.heap.size w X:=by rw[hX];exact bel_on (bel_on (bel_new _ _) (bel_new _ _)) (bel_new _ _)
 have hX0:X.heap[w.heap.size]? = some (.cells [.slice a n c,.slice b m d].toArray 28 (0,0)):=by
  rw[hX,Below.heap_alloc _ _ _ (by simp;omega),Below.heap_alloc _ _ _ (by simp)];exact Yh _ _ _ _
 have hX1:X.heap[w.heap.size+1]? = some (.cells [.int .i64 p,.int .i64 h,.int .i64 k,.int .i64 o,.slice ta tn tc].toArray 39 (0,0)):=by
  rw[hX,Below.heap_alloc _ _ _ (by simp)]
  have:=Zl (w.alloc (.cells #[.slice a n c,.slice b m d] 28)) (.int .i64 p) (.int .i64 h) (.int .i64 k) (.int .i64 o) (.slice ta tn tc) 39
  rw[show (w.alloc (.cells #[.slice a n c,.slice b m d] 28)).heap.size=w.heap.size+1 by simp] at this
  exact this
 have hX2:X.heap[w.heap.size+2]? = some (.cells [.slice none 0 0,.slice none 0 0].toArray 28 (0,0)):=by
  rw[hX]
  have:=Yh ((w.alloc (.cells #[.slice a n c,.slice b m d] 28)).alloc (.cells #[.int .i64 p,.int .i64 h,.int .i64 k,.int .i64 o,.slice ta tn tc] 39)) (.slice none 0 0) (.slice none 0 0) 28
  rw[show ((w.alloc (.cells #[.slice a n c,.slice b m d] 28)).alloc (.cells #[.int .i64 p,.int .i64 h,.int .i64 k,.int .i64 o,.slice ta tn tc] 39)).heap.size=w.heap.size+2 by simp] at this
  exact this
 have hm:=sN.2.1
 unfold maxLen at hm
 have hnc:=sN.1
 have HB:=hide hbX
 have HX0:=hide hX0
 have HX1:=hide hX1
 have HX2:=hide hX2
 obtain⟨y,hy⟩:∃ y,chkTr N T=y:=⟨_,rfl⟩
 obtain⟨z,hz⟩:∃ z,Xq N T s (p,h,k,o,L)=z:=⟨_,rfl⟩
 have C1:=hide (V3 a b n c m d N T y X (hN.later hbX) (hT.later hbX) sN sT hy)
 have x0:=Za hX0 0 _ rfl
 have x1:=Za hX0 1 _ rfl
 have xl:=lt_of_block hX0
 unfold addE at hx
 rw[hy,hz] at hx
 by_cases q:y=0
 ·subst q
  rw[if_neg (by simp)] at hx
  obtain⟨hl,h24,hH,hgo⟩:=Vm hy
  obtain rfl:n=m:=by rw[←hN.1,←hT.1,hl]
  have hnm:n≤maxLen:=sN.len
  have hn24:n≤24:=by rw[←hN.1];exact h24
  have HS:=hide (fun t ht=>blk_small (Qj N T [] [] hl hgo t ht))
  have C2:=hide (fun W (hb:Below X.heap.size X W)=>Nv a b n c d N T s p h k o ta tn tc L z W hnm (hN.later (bel_on hbX hb)) (hT.later (bel_on hbX hb)) (hL.later (bel_on hbX hb)) hH hz)
  rw[hN.1] at hx
  have HXX:=hide hx
  have HNN:=hide hn'
  have CT:=hide (fun W (hb:Below X.heap.size X W)=>clTree_is a b n c d N T W (hN.later (bel_on hbX hb)) (hT.later (bel_on hbX hb)) sN sT (by omega) (unhide HS))
  have CB:=hide (fun W (hb:Below w.heap.size w W) (q:z=0)=>Qi p h k o ta tn tc L W (hL.later hb) sL (by rw[←hL.1];exact (blk_small (Ub (hz.trans q))).1) (blk_small (Ub (hz.trans q))).2)
  have HZN:=hide hN.1
  clear hbX hX0 hX1 hX2 hN hT sN sT hL sL hy hz hl h24 hH hgo hnm hx hn' HS
  go_enter Tryz.func63,Tryz.ntmps63
  go_wp2_with fail
  rw[←hX]
  clear hX
  refine (unhide C1).mono ?_
  rintro e w1 ⟨rfl,hb1⟩
  have HB1:=hide hb1
  have h0:=(hb1.block _ (lt_of_block (unhide HX0))).trans (unhide HX0)
  have h1:=(hb1.block _ (lt_of_block (unhide HX1))).trans (unhide HX1)
  have a0:=Za h0 0 _ rfl
  have a1:=Za h0 1 _ rfl
  have al:=lt_of_block h0
  have b0:=Za h1 0 _ rfl
  have b1:=Za h1 1 _ rfl
  have b2:=Za h1 2 _ rfl
  have b3:=Za h1 3 _ rfl
  have b4:=Za h1 4 _ rfl
  have bl:=lt_of_block h1
  clear hb1 h0 h1 x0 x1 xl C1
  go_wp2_with fail
  refine ((unhide C2) _ (unhide HB1)).mono ?_
  rintro e w2 ⟨rfl,hb2⟩
  have HB2:=hide (bel_on (unhide HB1) hb2)
  clear hb2 a0 a1 al b0 b1 b2 b3 b4 bl C2 HB1
  have h0:=((unhide HB2).block _ (lt_of_block (unhide HX0))).trans (unhide HX0)
  have h1:=((unhide HB2).block _ (lt_of_block (unhide HX1))).trans (unhide HX1)
  have h2:=((unhide HB2).block _ (lt_of_block (unhide HX2))).trans (unhide HX2)
  have c0:=Za h2 0 _ rfl
  have c1:=Za h2 1 _ rfl
  have f0:=Zb h2 0
  have f1:=Zb h2 1
  have cl:=lt_of_block h2
  have HBW:=hide (bel_on (unhide HB) (unhide HB2))
  by_cases q2:z=0
  ·subst q2
   have a0:=Za h0 0 _ rfl
   have a1:=Za h0 1 _ rfl
   have al:=lt_of_block h0
   by_cases q3:n=24
   ·subst q3
    obtain⟨rfl,rfl,rfl⟩:([]:List Int)=N'∧([]:List Zg)=T'∧12=x:=by
     have q:=unhide HXX
     rw[if_neg (by simp),if_pos rfl] at q
     exact⟨congrArg (·.1) q,congrArg (·.2.1) q,congrArg (·.2.2) q⟩
    obtain rfl:0=n':=unhide HNN
    clear HXX h0 h1 h2
    go_wp2
    (try simp only[Exit.inBlock,Exit.then])
    refine bodyPost_ret (v:=.tuple #[.agg #[.slice none 0 0,.slice none 0 0],.int .i64 12]) ?_ rfl (Sn ?_)
    ·rw[Zq rfl]
     go_simp
    ·exact Qk (unhide HBW) (by omega) (unhide HBW).size _ _
   ·have R:Hid (N++[s]=N'∧T++[(p,h,k,o,L)]=T'∧0=x):=by
     have q:=unhide HXX
     rw[if_neg (by simp),if_neg q3] at q
     exact⟨congrArg (·.1) q,congrArg (·.2.1) q,congrArg (·.2.2) q⟩
    obtain rfl:0=x:=(unhide R).2.2
    have g3:((n:Int) == 24)=false:=by simp;omega
    have H0:=hide h0
    have H1:=hide h1
    have H2:=hide h2
    obtain rfl:n+1=n':=by rw[←unhide HNN,←(unhide R).1,List.length_append,unhide HZN];rfl
    clear HXX q3 h0 h1 h2 c0 c1 f0 f1
    go_wp2_with fail
    refine ((unhide CT) _ (unhide HB2)).mono ?_
    rintro e w5 ⟨v1,v2,rfl,hTO,hb5⟩
    obtain⟨K,G,o1,o2,g1,g2,hBG,hTn,hF⟩:=hTO
    obtain⟨a1',c1',rfl,s1,r1⟩:=own_slice o1
    obtain⟨a2',c2',rfl,s2,r2⟩:=own_slice o2
    obtain⟨t6,ht6⟩:∃ t6,t6=w.heap.size+2:=⟨_,rfl⟩
    have hB5:w.heap.size+3≤w2.heap.size+2:=by omega
    have hs5:w2.heap.size≤w5.heap.size:=hb5.size
    have hb1lt:∀ q,(Value.slice a1' n c1').ownBlock=some q→w2.heap.size+2≤q∧q<w5.heap.size:=fun q hq=>o1.lt q hq
    have hb2lt:∀ q,(Value.slice a2' n c2').ownBlock=some q→w2.heap.size+2≤q∧q<w5.heap.size:=fun q hq=>o2.lt q hq
    have OWN:Hid (((w5.alloc (.cells #[.slice a1' n c1',.slice a2' n c2'] 28)).alloc (.cells #[.int .i64 s] 3)).ownsRow (w2.heap.size+2) 3 1 (.slice a1' n c1') n (N.map (Value.int .i64))):=(o1.alloc _).alloc _
    have NEWS:Hid (∀ j u,([.int .i64 s]:List Value)[j]? = some u→((w5.alloc (.cells #[.slice a1' n c1',.slice a2' n c2'] 28)).alloc (.cells #[.int .i64 s] 3)).cell? ((⟨w5.heap.size+1,0,none⟩:Addr).add j)=some u):=by
     have:=heap_alloc_new (w5.alloc (.cells #[.slice a1' n c1',.slice a2' n c2'] 28)) (.cells #[.int .i64 s] 3)
     rw[show (w5.alloc (.cells #[.slice a1' n c1',.slice a2' n c2'] 28)).heap.size=w5.heap.size+1 by simp] at this
     exact World.news_of_block (cs:=#[.int .i64 s]) (t:=3) (fr:=(0,0)) this
    have BX:Hid (((w5.alloc (.cells #[.slice a1' n c1',.slice a2' n c2'] 28)).alloc (.cells #[.int .i64 s] 3)).heap[w5.heap.size]? = some (.cells [.slice a1' n c1',.slice a2' n c2'].toArray 28 (0,0))):=by
     show _=_
     rw[Below.heap_alloc _ _ _ (by simp)]
     exact Yh _ _ _ _
    have HO2:=hide o2
    have HF:=hide hF
    have HG1:=hide g1
    have HG2:=hide g2
    have HL1:=hide hb1lt
    have HL2:=hide hb2lt
    have HB5:=hide hb5
    have HTN:=hide hTn
    have HBG:=hide hBG
    have HS2:=hide s2
    clear o1 o2 hF g1 g2 hb1lt hb2lt hb5 a0 a1 al r1 r2 CT hTn hBG s1 s2
    go_wp2_with (at_builtin;refine wpList_append_lies _ rfl _ _ 25 rfl (w2.heap.size+2) 3 i0 (.int .i64 0) 1 8 Tryz.underlying25 hi hz0 hz1 hz2 rfl (by decide) _ _ _ rfl (unhide OWN) ⟨w5.heap.size+1,0,none⟩ 1 1 [.int .i64 s] rfl rfl (unhide NEWS) (fun u hu=>by simp at hu;subst hu;rfl) (by decide) (by unfold maxLen;omega) (by omega) (by simp;omega) (w5.heap.size+2) (by simp) ?_;intro g cap w8 hown8 hgrow8 hor8 hlt8;have bx8:=(hgrow8.block w5.heap.size (by simp;omega) (fun e=>by have:=((unhide HL1) _ e.symm).2;omega)).trans (unhide BX);have d0:=Za bx8 0 _ rfl;have d1:=Za bx8 1 _ rfl;have df:=Zb bx8 0;have dl:=lt_of_block bx8;have HW8:=hide hown8;have HGR8:=hide hgrow8;have HOR8:=hide hor8;have HX8:=hide bx8;clear hown8 hgrow8 hor8 bx8)
    obtain⟨w9,hw9⟩:∃ w9,w9=w8.setCell ⟨w5.heap.size,0,none⟩ (.slice (some ⟨g,0,none⟩) (n+1) cap):=⟨_,rfl⟩
    rw[←hw9]
    have hG8:Gr w5 w8 (fun q=>(Value.slice a1' n c1').ownBlock=some q):=(((Gr.refl w5 (fun q=>(Value.slice a1' n c1').ownBlock=some q)).new _).new _).grown (unhide HGR8) (fun k hk=>.inl hk)
    have hG9:Gr w5 w9 (fun q=>(Value.slice a1' n c1').ownBlock=some q):=by rw[hw9];exact hG8.one w5.heap.size 0 (.inr (Nat.le_refl _)) _
    have bx9:w9.heap[w5.heap.size]? = some (.cells [.slice (some ⟨g,0,none⟩) (n+1) cap,.slice a2' n c2'].toArray 28 (0,0)):=by rw[hw9];exact set_cells (unhide HX8) 0 _
    have hb9:Below w.heap.size w w9:=hG9.below (bel_on (unhide HBW) (unhide HB5)) (by omega) (fun q hq=>by have:=((unhide HL1) q hq).1;omega)
    have h91:=hG9.heap (((unhide HB5).block _ (lt_of_block (unhide H1))).trans (unhide H1)) (fun hq=>by have:=((unhide HL1) _ hq).1;have:=lt_of_block (unhide H1);omega)
    have h92:=hG9.heap (((unhide HB5).block _ (lt_of_block (unhide H2))).trans (unhide H2)) (fun hq=>by have:=((unhide HL1) _ hq).1;omega)
    have hg8:g≠w5.heap.size∧w2.heap.size+2≤g:=by
     rcases unhide HOR8 with e|e
     ·have:=(unhide HL1) g e;omega
     ·omega
    have hg82:(Value.slice a2' n c2').ownBlock≠some g:=by
     have o28:w8.ownsRow (w2.heap.size+2) 39 5 (.slice a2' n c2') n K.flatten:=hG8.own (unhide HO2) (fun q hq e=>Wp ((((unhide OWN).kept (w':=(w5.alloc (.cells #[.slice a1' n c1',.slice a2' n c2'] 28)).alloc (.cells #[.int .i64 s] 3)) (row:=none) (World.grownBy.refl _ _) (by cases a1' <;> simp[Value.ownBlock])))) (((unhide HO2).alloc _).alloc _) (by decide) q e hq)
     exact Wp (unhide HW8) o28 (by decide) g rfl
    have on9:w9.ownsRow (w2.heap.size+2) 3 1 (.slice (some ⟨g,0,none⟩) (n+1) cap) (n+1) ((N++[s]).map (Value.int .i64)):=by
     rw[hw9]
     have:=((Gr.refl w8 (fun q=>q=w5.heap.size)).one w5.heap.size 0 (.inl rfl) (.slice (some ⟨g,0,none⟩) (n+1) cap)).own (unhide HW8) (fun q hq e=>by cases hq;exact hg8.1 e)
     simpa using this
    have ob9:w9.ownsRow (w2.heap.size+2) 39 5 (.slice a2' n c2') n K.flatten:=hG9.own (unhide HO2) (fun q hq e=>Wp (unhide OWN) (((unhide HO2).alloc _).alloc _) (by decide) q e hq)
    have l9:w5.heap.size<w9.heap.size:=lt_of_block bx9
    have CC:=hide ((unhide CB) w9.drew (bel_on hb9 (Ze _)) (by trivial))
    have e0:=Za bx9 0 _ rfl
    have e1:=Za bx9 1 _ rfl
    have k0:=Za h91 0 _ rfl
    have k1:=Za h91 1 _ rfl
    have k2:=Za h91 2 _ rfl
    have k3:=Za h91 3 _ rfl
    have k4:=Za h91 4 _ rfl
    have kl:=lt_of_block h91
    have HBX9:=hide bx9
    have HG9:=hide hG9
    have H92:=hide h92
    have HON9:=hide on9
    have HOB9:=hide ob9
    have HB9:=hide hb9
    clear hw9 hG8 hG9 bx9 hb9 h91 h92 on9 ob9 d0 d1 df dl CB
    go_region_law (first
     | (refine Ge (by rfl) 71 #[.agg #[.int .i64 p,.int .i64 h,.int .i64 k,.int .i64 o,.slice ta tn tc]] (by kernel_rfl) (unhide CC) ?_;rintro e w10 ⟨a5,c5,rfl,hf10,hb10⟩;refine⟨_,rfl,?_⟩;have bx10:=(hb10.block _ (lt_of_block (unhide HBX9))).trans (unhide HBX9);have m0:=Za bx10 0 _ rfl;have m1:=Za bx10 1 _ rfl;have ml:=lt_of_block bx10;have HF10:=hide hf10;have HB10:=hide hb10;have HBX10:=hide bx10;have HOB10:=hide ((Gr.of (S:=fun _=>False) hb10).own (unhide HOB9).drew (fun _ _ q=>q));clear hf10 hb10 bx10)
     | (refine step_append_lies _ (by rfl) _ _ _ (by rfl) (w2.heap.size+2) 39 j0 _ 5 56 Tryz.underlying26 ji jz0 jz1 jz2 rfl (by decide) (.slice a2' n c2') n K.flatten (by rfl) ((unhide HOB10).alloc _) ⟨w10.heap.size,0,none⟩ 1 1 [.int .i64 p,.int .i64 h,.int .i64 k,.int .i64 o,.slice a5 tn c5] (by rfl) (by rfl) (World.news_of_block (cs:=#[.int .i64 p,.int .i64 h,.int .i64 k,.int .i64 o,.slice a5 tn c5]) (t:=39) (fr:=(0,0)) (heap_alloc_new w10 _)) (by simp[Value.oneCell']) (by decide) (by unfold maxLen;omega) (by omega) (by simp;omega) (w10.heap.size+1) (by simp) ?_;intro g2 cap2 w12 hown12 hgrow12 hor12 hlt12;have bx12:=(hgrow12.block w5.heap.size (by simp;omega) (fun e=>by have:=((unhide HL2) _ e.symm).2;omega)).trans ((Below.heap_alloc _ _ _ ml).trans (unhide HBX10));have n0:=Za bx12 0 _ rfl;have n1:=Za bx12 1 _ rfl;have nf:=Zb bx12 1;have nl:=lt_of_block bx12;have HW12:=hide hown12;have HGR12:=hide hgrow12;have HOR12:=hide hor12;have HBX12:=hide bx12;clear hown12 hgrow12 hor12 bx12))
    all_goals
     have g912:Gr w9 w12 (fun q=>(Value.slice a2' n c2').ownBlock=some q):=((Gr.of (bel_on (Ze w9) (unhide HB10))).new _).grown (unhide HGR12) (fun k hk=>.inl hk)
     have g1012:Gr w10 w12 (fun q=>(Value.slice a2' n c2').ownBlock=some q):=((Gr.refl w10 _).new _).grown (unhide HGR12) (fun k hk=>.inl hk)
     have t12:=g912.heap (unhide H92) (fun e=>by have:=((unhide HL2) _ e).1;omega)
     obtain⟨w13,hw13⟩:∃ w13,w13=w12.setCell ⟨w5.heap.size,1,none⟩ (.slice (some ⟨g2,0,none⟩) (n+1) cap2):=⟨_,rfl⟩
     have bx13:w13.heap[w5.heap.size]? = some (.cells [.slice (some ⟨g,0,none⟩) (n+1) cap,.slice (some ⟨g2,0,none⟩) (n+1) cap2].toArray 28 (0,0)):=by rw[hw13];exact set_cells (unhide HBX12) 1 _
     have t13:w13.heap[w.heap.size+2]? = some (.cells [.slice none 0 0,.slice none 0 0].toArray 28 (0,0)):=by rw[hw13];exact ((Gr.refl w12 (fun q=>q=w5.heap.size)).one w5.heap.size 1 (.inl rfl) _).heap t12 (by omega)
     have gf:∀ {W:World} {S:Nat→Prop},Gr W w12 S→Gr W ((w13.setCell ⟨w.heap.size+2,0,none⟩ (.slice (some ⟨g,0,none⟩) (n+1) cap)).setCell ⟨w.heap.size+2,1,none⟩ (.slice (some ⟨g2,0,none⟩) (n+1) cap2)) (fun q=>S q∨q=w5.heap.size∨q=w.heap.size+2):=by
      intro W S hW
      rw[hw13]
      exact (((hW.mono (fun q _ e=>.inl e)).one w5.heap.size 1 (.inl (.inr (.inl rfl))) _).one (w.heap.size+2) 0 (.inl (.inr (.inr rfl))) _).one (w.heap.size+2) 1 (.inl (.inr (.inr rfl))) _
     have hsz9:=(unhide HB10).size
     have FIN:=Zat (w9:=w9) (B:=w.heap.size) (t6:=w.heap.size+2) (by omega) (by omega) (unhide HBG) (unhide HTN) (unhide HF) (unhide HF10) (unhide HG1) (unhide HG2) (unhide HL2) rfl l9 (by omega) (by have:=lt_of_block (unhide H92);omega) (unhide HG9) (gf g912) (gf g1012) ((gf (Gr.refl w12 (fun _=>False))).mono fun q _ e=>by rcases e with e|e;exact e.elim;exact e) (unhide HON9) hg8.1 hg82 (unhide HW12) (by
      rcases unhide HOR12 with e|e
      ·have:=(unhide HL2) g2 e;omega
      ·have:w9.heap.size≤w10.heap.size:=hsz9
       omega)
     have HFIN:=hide FIN
     have HBF:Hid (Below w.heap.size w ((w13.setCell ⟨w.heap.size+2,0,none⟩ (.slice (some ⟨g,0,none⟩) (n+1) cap)).setCell ⟨w.heap.size+2,1,none⟩ (.slice (some ⟨g2,0,none⟩) (n+1) cap2))):=(gf g912).below (unhide HB9) (by omega) (fun q e=>by
      rcases e with e|e|e
      ·have:=((unhide HL2) _ e).1;omega
      ·omega
      ·omega)
     have y0:=Za bx13 0 _ rfl
     have y1:=Za bx13 1 _ rfl
     have yl:=lt_of_block bx13
     have u0:=Za t13 0 _ rfl
     have u1:=Za t13 1 _ rfl
     have uf0:=Zb t13 0
     have uf1:=Zb t13 1
     have ul:=lt_of_block t13
     rw[←hw13]
     clear hw13 gf FIN g912 g1012 t12 bx13 t13 n0 n1 nf nl m0 m1 ml e0 e1 k0 k1 k2 k3 k4 kl
     go_wp2
     (try simp only[Exit.inBlock,Exit.then])
     refine bodyPost_ret (v:=.tuple #[.agg #[.slice (some ⟨g,0,none⟩) (n+1) cap,.slice (some ⟨g2,0,none⟩) (n+1) cap2],.int .i64 0]) ?_ rfl ?_
     ·rw[Zq rfl]
      go_simp
     ·obtain⟨f1,f2,f3⟩:=unhide HFIN
      rw[←(unhide R).1,←(unhide R).2.1]
      exact⟨_,_,_,_,rfl,f1,f2,f3,unhide HBF⟩
  ·obtain⟨rfl,rfl,rfl⟩:([]:List Int)=N'∧([]:List Zg)=T'∧z=x:=by
    have q:=unhide HXX
    rw[if_pos q2] at q
    exact⟨congrArg (·.1) q,congrArg (·.2.1) q,congrArg (·.2.2) q⟩
   obtain rfl:0=n':=unhide HNN
   have g2:(z != 0)=true:=by simp[q2]
   clear HXX h0 h1 h2 q2
   go_wp2
   (try simp only[Exit.inBlock,Exit.then])
   refine bodyPost_ret (v:=.tuple #[.agg #[.slice none 0 0,.slice none 0 0],.int .i64 z]) ?_ rfl (Sn ?_)
   ·rw[Zq rfl]
    go_simp
   ·exact Qk (unhide HBW) (by omega) (unhide HBW).size _ _
 ·rw[if_pos q] at hx
  obtain⟨rfl,rfl,rfl⟩:([]:List Int)=N'∧([]:List Zg)=T'∧y=x:=⟨congrArg (·.1) hx,congrArg (·.2.1) hx,congrArg (·.2.2) hx⟩
  obtain rfl:0=n':=hn'
  have g:(y != 0)=true:=by simp[q]
  clear hbX hX0 hX1 hX2 hN hT sN sT hL sL hy hz hx q
  go_enter Tryz.func63,Tryz.ntmps63
  go_wp2_with fail
  rw[←hX]
  clear hX
  refine (unhide C1).mono ?_
  rintro e w1 ⟨rfl,hb1⟩
  have h2:=(hb1.block _ (lt_of_block (unhide HX2))).trans (unhide HX2)
  have c0:=Za h2 0 _ rfl
  have c1:=Za h2 1 _ rfl
  have f0:=Zb h2 0
  have f1:=Zb h2 1
  have cl:=lt_of_block h2
  have HB1:=hide (bel_on (unhide HB) hb1)
  clear hb1 h2 x0 x1 xl C1
  go_wp2
  (try simp only[Exit.inBlock,Exit.then])
  refine bodyPost_ret (v:=.tuple #[.agg #[.slice none 0 0,.slice none 0 0],.int .i64 y]) ?_ rfl (Sn ?_)
  ·rw[Zq rfl]
   go_simp
  ·exact Qk (unhide HB1) (by omega) (unhide HB1).size _ _
end Go.Proofs.YtmomfkikogbdeaaGreatDoor.Tr
