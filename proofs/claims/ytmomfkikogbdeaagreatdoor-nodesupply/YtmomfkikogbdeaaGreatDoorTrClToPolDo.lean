/- Records that are copied one by one into a row that the call has made. Nothing of the program but output.Copy. -/
import Derived.Test.YtmomfkikogbdeaaGreatDoorTrMemToTrIdx
import Derived.Deep.CutRange
import Derived.Test.YtmomfkikogbdeaaGreatDoorChnKitToPolWorth
import Derived.Test.YtmomfkikogbdeaaGreatDoorLockPrintToBlkPrint
set_option maxHeartbeats 12800000
set_option maxRecDepth 10000
namespace Go.Proofs.YtmomfkikogbdeaaGreatDoor.Tr
open Go.RowKit
def Wid(sz:Nat)(K:List (List Value)):Prop:=∀ c∈K,c.length=sz
theorem AllC.wid{α : Type}{Z:Rec α}{w:World}{K:List (List Value)}{L:List α}(h:AllC Z w K L):Wid Z.sz K:=by
 intro c hc
 obtain⟨i,hi,rfl⟩:=List.getElem_of_mem hc
 exact Z.wide _ _ _ (h.2 i (by rw[←h.1];exact hi) hi)
theorem Aa{sz:Nat}:∀ {K:List (List Value)} (_:Wid sz K) (k:Nat) (h:k<K.length) (j:Nat) (_:j<sz),K.flatten[k*sz+j]? = (K[k])[j]?
 | [],_,_,h,_,_=>absurd h (by simp)
 | c :: K,hw,0,_,j,hj=>by
  have h2:=hw c (by simp)
  rw[List.flatten_cons,List.getElem?_append_left (by omega)]
  simp
 | c :: K,hw,k+1,h,j,hj=>by
  have h2:=hw c (by simp)
  rw[List.flatten_cons,List.getElem?_append_right (by rw[h2,Nat.succ_mul];omega),h2]
  rw[show (k+1)*sz+j - sz=k*sz+j by rw[Nat.succ_mul];omega]
  rw[Aa (fun c hc=>hw c (by simp[hc])) k (by simpa using h) j hj]
  simp
theorem Yq{sz:Nat}:∀ {K:List (List Value)} (_:Wid sz K) (k:Nat) (h:k<K.length) (j:Nat) (_:j<sz) (u:Value),K.flatten.set (k*sz+j) u=(K.set k ((K[k]).set j u)).flatten
 | [],_,_,h,_,_,_=>absurd h (by simp)
 | c :: K,hw,0,_,j,hj,u=>by
  have h2:=hw c (by simp)
  rw[List.flatten_cons,Nat.zero_mul,Nat.zero_add,List.set_append_left _ _ (by omega)]
  simp
 | c :: K,hw,k+1,h,j,hj,u=>by
  have h2:=hw c (by simp)
  rw[List.flatten_cons,List.set_append_right _ _ (by rw[h2,Nat.succ_mul];omega),h2]
  rw[show (k+1)*sz+j - sz=k*sz+j by rw[Nat.succ_mul];omega]
  rw[Yq (fun c hc=>hw c (by simp[hc])) k (by simpa using h) j hj u]
  simp
theorem W4{sz:Nat}{K:List (List Value)}(hw:Wid sz K)(k:Nat){c:List Value}(hc:c.length=sz):Wid sz (K.set k c):=by
 intro x hx
 rcases List.mem_or_eq_of_mem_set hx with q|rfl
 ·exact hw x q
 ·exact hc
structure Cl{α : Type}(Z:Rec α)(e:TypeId)(B G:Nat)(w0 wr:World)(v:Value)(n:Nat)(K:List (List Value))(L:List α)(k:Nat):Prop where
 own:wr.ownsRow B e Z.sz v n K.flatten
 wid:Wid Z.sz K
 len:K.length=L.length
 ln:L.length=n
 gt:∀ q,v.ownBlock=some q→q<G
 new:∀ i (h:i<L.length) (h':i<K.length),i<k→Fresh G wr (fun w2=>Z.C w2 K[i] L[i])
 old:∀ i (h:i<L.length) (h':i<K.length),k≤i→Z.C w0 K[i] L[i]
section
variable {α : Type} {Z : Rec α} {e : TypeId} {B G : Nat} {w0 wr w' : World} {v : Value} {n : Nat} {K : List (List Value)} {L : List α} {k : Nat}
theorem Cl.start(h:wr.ownsRow B e Z.sz v n K.flatten)(hc:AllC Z w0 K L)(hn:L.length=n)(hG:wr.heap.size≤G):Cl Z e B G w0 wr v n K L 0:=
 ⟨h,hc.wid,hc.1,hn,fun q hq=>Nat.lt_of_lt_of_le (h.lt q hq).2 hG,fun _ _ _ h=>absurd h (by omega),fun i h h' _=>hc.2 i h h'⟩
theorem Cl.gr{S:Nat→Prop}(h:Cl Z e B G w0 wr v n K L k)(g:Gr wr w' S)(hs:∀ q,S q→q<G)(hv:∀ q,v.ownBlock=some q→¬S q):Cl Z e B G w0 w' v n K L k:=
 ⟨g.own h.own hv,h.wid,h.len,h.ln,h.gt,fun i a b c=>(h.new i a b c).on (g.mono fun q _ hq=>hs q hq),h.old⟩
theorem Cl.keep(h:Cl Z e B G w0 wr v n K L k)(hb:Below wr.heap.size wr w'):Cl Z e B G w0 w' v n K L k:=
 h.gr (S:=fun _=>False) (Gr.of hb) (fun _ q=>q.elim) (fun _ _ q=>q)
theorem Cl.form(h:Cl Z e B G w0 wr v n K L k)(hn:0<n):∃ g cap,v = .slice (some ⟨g,0,none⟩) n cap∧B≤g∧g<G∧g<wr.heap.size:=by
 rcases h.own.2 with ⟨_,h0⟩|⟨g,cap,cur,rfl,hg,hh,_⟩
 ·omega
 ·exact⟨g,cap,rfl,hg,h.gt g rfl,lt_of_block hh⟩
theorem Cl.cell{g cap:Nat}(h:Cl Z e B G w0 wr (.slice (some ⟨g,0,none⟩) n cap) n K L k)(i:Nat)(hi:i<K.length)(j:Nat)(hj:j<Z.sz):wr.cell? ⟨g,i*Z.sz+j,none⟩=(K[i])[j]?:=by
 have hin:i<n:=by rw[←h.ln,←h.len];exact hi
 have:(i+1)*Z.sz≤n*Z.sz:=Nat.mul_le_mul_right _ (by omega)
 rw[Nat.succ_mul] at this
 rw[World.ownsRow.cellAt h.own _ (by omega),Aa h.wid i hi j hj]
theorem Cl.free{g cap:Nat}(h:Cl Z e B G w0 wr (.slice (some ⟨g,0,none⟩) n cap) n K L k)(j:Nat):wr.frozen? ⟨g,j,none⟩=false:=h.own.frozenAt j
theorem Cl.step{g cap:Nat}(h:Cl Z e B G w0 wr (.slice (some ⟨g,0,none⟩) n cap) n K L k)(hk:k<L.length){cs:List Value}(hc:Fresh G wr (fun w2=>Z.C w2 cs L[k]))(hg:Gr wr w' (fun q=>q=g))(ho:w'.ownsRow B e Z.sz (.slice (some ⟨g,0,none⟩) n cap) n (K.set k cs).flatten):Cl Z e B G w0 w' (.slice (some ⟨g,0,none⟩) n cap) n (K.set k cs) L (k+1):=by
 have hgG:=h.gt g rfl
 have hw:=Z.wide _ _ _ hc.now
 have hm:Gr wr w' (fun q=>q<G):=hg.mono fun q _ e=>by omega
 refine⟨ho,W4 h.wid k hw,by rw[List.length_set];exact h.len,h.ln,h.gt,fun i a b c=>?_,fun i a b c=>?_⟩
 ·by_cases e:i=k
  ·subst e
   rw[List.getElem_set_self]
   exact hc.on hm
  ·rw[List.getElem_set_ne (by omega)]
   exact (h.new i a (by simpa using b) (by omega)).on hm
 ·rw[List.getElem_set_ne (by omega)]
  exact h.old i a (by simpa using b) (by omega)
theorem Cl.done(h:Cl Z e B G w0 wr v n K L n):Fresh G wr (fun w2=>AllC Z w2 K L):=fun w2 g2=>
 ⟨h.len,fun i a b=>h.new i a b (by rw[←h.ln];exact a) w2 g2⟩
theorem Cl.rows(h:Cl Z e B G w0 wr v n K L n)(hB:B≤G):∃ a c,v = .slice a n c∧Fresh B wr (fun w2=>RowsAt Z.R Z.sz w2 a n L∧SlOk a n c):=by
 obtain⟨a,c,rfl,_,_⟩:=rows_of_own Z h.own h.done.now h.ln
 refine⟨a,c,rfl,fun w2 g2=>?_⟩
 have ho:=g2.own h.own (fun q hq=>by have:=(h.own.lt q hq).1;omega)
 obtain⟨a',c',e,h1,h2⟩:=rows_of_own Z ho (h.done w2 (g2.mono fun q _ hq=>by omega)) h.ln
 cases e
 exact⟨h1,h2⟩
end
theorem set_cells{w:World}{b:Nat}{X:List Value}{t:TypeId}(h:w.heap[b]? = some (.cells X.toArray t (0,0)))(j:Nat)(u:Value):(w.setCell ⟨b,j,none⟩ u).heap[b]? = some (.cells (X.set j u).toArray t (0,0)):=by
 rw[setCell_eq_setRow w b j X.toArray t (0,0) u h]
 have:=setRow_heap w b _ (X.toArray.setIfInBounds j u) t _ h
 simpa using this
theorem len1{c:List Value}(h:c.length=2):∃ x y,c=[x,y]:=by
 match c,h with
 | [x,y],_=>exact⟨x,y,rfl⟩
theorem len3{c:List Value}(h:c.length=3):∃ x y z,c=[x,y,z]:=by
 match c,h with
 | [x,y,z],_=>exact⟨x,y,z,rfl⟩
theorem len5{c:List Value}(h:c.length=5):∃ x y z r s,c=[x,y,z,r,s]:=by
 match c,h with
 | [x,y,z,r,s],_=>exact⟨x,y,z,r,s,rfl⟩
theorem put2{K:List (List Value)}(hw:Wid 2 K)(k:Nat)(h:k<K.length)(a b:Value):((K.flatten.set (k*2) a).set (k*2+1) b)=(K.set k [a,b]).flatten:=by
 obtain⟨x,y,e⟩:=len1 (hw _ (List.getElem_mem h))
 have h1:=Yq hw k h 0 (by decide) a
 rw[Nat.add_zero] at h1
 rw[h1,Yq (W4 hw k (by rw[List.length_set,e];rfl)) k (by rw[List.length_set];exact h) 1 (by decide) b,List.getElem_set_self,List.set_set,e]
 rfl
theorem put3{K:List (List Value)}(hw:Wid 3 K)(k:Nat)(h:k<K.length)(a b c:Value):(((K.flatten.set (k*3) a).set (k*3+1) b).set (k*3+2) c)=(K.set k [a,b,c]).flatten:=by
 obtain⟨x,y,z,e⟩:=len3 (hw _ (List.getElem_mem h))
 have h1:=Yq hw k h 0 (by decide) a
 rw[Nat.add_zero] at h1
 rw[h1,Yq (W4 hw k (by rw[List.length_set,e];rfl)) k (by rw[List.length_set];exact h) 1 (by decide) b,List.getElem_set_self,List.set_set,e]
 rw[Yq (W4 hw k rfl) k (by rw[List.length_set];exact h) 2 (by decide) c,List.getElem_set_self,List.set_set]
 rfl
theorem put5{K:List (List Value)}(hw:Wid 5 K)(k:Nat)(h:k<K.length)(a b c d f:Value):(((((K.flatten.set (k*5) a).set (k*5+1) b).set (k*5+2) c).set (k*5+3) d).set (k*5+4) f)=(K.set k [a,b,c,d,f]).flatten:=by
 obtain⟨x,y,z,r,s,e⟩:=len5 (hw _ (List.getElem_mem h))
 have h1:=Yq hw k h 0 (by decide) a
 rw[Nat.add_zero] at h1
 rw[h1,Yq (W4 hw k (by rw[List.length_set,e];rfl)) k (by rw[List.length_set];exact h) 1 (by decide) b,List.getElem_set_self,List.set_set,e]
 rw[Yq (W4 hw k rfl) k (by rw[List.length_set];exact h) 2 (by decide) c,List.getElem_set_self,List.set_set]
 rw[Yq (W4 hw k rfl) k (by rw[List.length_set];exact h) 3 (by decide) d,List.getElem_set_self,List.set_set]
 rw[Yq (W4 hw k rfl) k (by rw[List.length_set];exact h) 4 (by decide) f,List.getElem_set_self,List.set_set]
 rfl
theorem outCopy_is(x:Int)(a:Option Addr)(n c:Nat)(l:List (Int×Int))(w:World)(hn:n≤8796093022208)(h:OpsAt w a n l)(hs:SlOk a n c) :
  Calls Tryz.prog 161 #[.agg #[.int .i64 x,.slice a n c]] w fun e w'=>∃ a' c',e = .returned (.agg #[.int .i64 x,.slice a' n c'])∧Fresh w.heap.size w' (fun w2=>OpsAt w2 a' n l∧SlOk a' n c')∧Below w.heap.size w w':=by
 obtain⟨X,hX⟩:∃ X,X=(w.alloc (.cells #[.int .i64 x,.slice a n c] 122)).alloc (.cells #[.int .i64 0,.slice none 0 0] 122):=⟨_,rfl⟩
 have hbX:Below w.heap.size w X:=by rw[hX];exact bel_on (bel_new _ _) (bel_new _ _)
 have x0:X.cell? ⟨w.heap.size,0,none⟩=some (.int .i64 x):=by rw[hX];exact cell_later (bel_new _ _) (Zu w _ _ _).1
 have x1:X.cell? ⟨w.heap.size,1,none⟩=some (.slice a n c):=by rw[hX];exact cell_later (bel_new _ _) (Zu w _ _ _).2
 have hX1:X.heap[w.heap.size+1]? = some (.cells [.int .i64 0,.slice none 0 0].toArray 122 (0,0)):=by
  rw[hX]
  have:=Yh (w.alloc (.cells #[.int .i64 x,.slice a n c] 122)) (.int .i64 0) (.slice none 0 0) 122
  rw[show (w.alloc (.cells #[.int .i64 x,.slice a n c] 122)).heap.size=w.heap.size+1 by simp] at this
  exact this
 have C:=hide (cloneOp_any a n c l X.drew hn (h.later (bel_on hbX (Ze X))) hs)
 have HX1:=hide hX1
 have HBX:=hide hbX
 clear h hs hbX hX1
 go_enter Tryz.func161,Tryz.ntmps161
 go_wp2_with fail
 rw[←hX]
 clear hX
 go_region_with (go_at_call 150;refine (unhide C).mono ?_;rintro e w3 ⟨a',c',rfl,ho3,hb3⟩;have o2:w3.cell? ⟨w.heap.size,0,none⟩=some (.int .i64 x):=cell_later hb3 (cell_later (Ze _) x0);have hz3:=(hb3.block _ (lt_of_block (unhide HX1))).trans (unhide HX1);have c0:=Za hz3 0 _ rfl;have c1:=Za hz3 1 _ rfl;have f0:=Zb hz3 0;have f1:=Zb hz3 1;have H3:Hid (Fresh X.drew.heap.size w3 (fun w2=>OpsAt w2 a' n l∧SlOk a' n c')∧Below X.drew.heap.size X.drew w3):=⟨ho3,hb3⟩;clear ho3 hb3 hz3)
 all_goals
  go_wp2
  (try simp only[Exit.inBlock,Exit.then])
  obtain⟨ho3,hb3⟩:=unhide H3
  have hG:=((Gr.refl w3 (fun q=>q=w.heap.size+1)).one (w.heap.size+1) 0 (.inl rfl) (.int .i64 x)).one (w.heap.size+1) 1 (.inl rfl) (.slice a' n c')
  have hlt:w.heap.size+1<X.drew.heap.size:=lt_of_block (unhide HX1)
  refine bodyPost_ret (v:=.agg #[.int .i64 x,.slice a' n c']) ?_ rfl ⟨a',c',rfl,(ho3.on (hG.mono fun q _ e=>by omega)).less (by omega),?_⟩
  ·rw[Zz rfl]
   go_simp
  ·have hsz:=hb3.size
   exact hG.below (bel_on (bel_on (unhide HBX) (Ze _)) hb3) (by omega) (fun k hk=>by omega)
end Go.Proofs.YtmomfkikogbdeaaGreatDoor.Tr
namespace Go.Proofs.YtmomfkikogbdeaaGreatDoor
open Go.RowKit
def DoR(w w':World)(p:Nat)(x:Int)(K:List ByteArray)(C:List Zd)(h f:Int)(e:Ending):Prop:=
 (x≠0∧e = .returned (.tuple #[.int .i64 0,.int .i64 x])∧Below w.heap.size w w') ∨
 (x=0∧e = .returned (.tuple #[.int .i64 f,.int .i64 0])∧Gr w w' (fun q=>q=p)∧DoT w' w.heap.size p K C h)
theorem DoR.err{w w':World}{p:Nat}{x y:Int}{K:List ByteArray}{C:List Zd}{h f:Int}(h0:y≠0)(hx:x=y)(hb:Below w.heap.size w w'):DoR w w' p x K C h f (.returned (.tuple #[.int .i64 0,.int .i64 y])):=by
 subst hx;exact .inl ⟨h0,rfl,hb⟩
def Zbe(V wx:World)(M:List Zd)(s9:Value):Prop:=
 ∃ am nm cm,s9 = .slice am nm cm∧Fresh V.heap.size wx (fun w2=>CoinsAt w2 am nm M)∧SlOk am nm cm∧Below V.heap.size V wx
theorem Le{V W wx:World}{M:List Zd}{Z:Nat}{am:Option Addr}{nm cm:Nat}(hF:Fresh Z W (fun w2=>CoinsAt w2 am nm M))(hZ:V.heap.size≤Z)(hs:SlOk am nm cm)(hb:Below V.heap.size V W)(hg:Gr W wx (fun q=>q<Z∧V.heap.size≤q)):Zbe V wx M (.slice am nm cm):=
 ⟨am,nm,cm,rfl,fun w2 g2=>hF w2 ((hg.mono (fun _ _ q=>q.1)).trans (g2.mono (fun _ _ q=>Nat.lt_of_lt_of_le q hZ))),hs,hg.below hb hb.size (fun _ q=>q.2)⟩
theorem Zbr(p:Nat)(K:List ByteArray)(C:List Zd)(h th:Int)(ai ao:Option Addr)(ni ci no co:Nat)(I:List InD)(O:List Zw)(x:Int)(K':List ByteArray)(C':List Zd)(w:World)(hE:Env w)(hT:Ct w p K C h)(hRC:Yc C)(hI:InsAt w ai ni I)(hO:OutsAt w ao no O)(sI:SlOk ai ni ci)(hx:doD h (K,C) (th,I,O)=(x,K',C')) :
  Calls Tryz.prog 91 #[.pointer (some ⟨p,0,none⟩),.agg #[.int .i64 th,.slice ai ni ci,.slice ao no co]] w fun e w'=>DoR w w' p x K' C' h (Zi C - Zi C') e:=by
 obtain⟨ka,kn,kc,la,ln,lc,hp,hK,sK,hC,sC⟩:=hT
 obtain⟨X,hX⟩:∃ X,X=w.alloc (.cells #[.int .i64 th,.slice ai ni ci,.slice ao no co] 59):=⟨_,rfl⟩
 have hbX:Below w.heap.size w X:=by rw[hX];exact bel_new _ _
 have hX0:X.heap[w.heap.size]? = some (.cells [.int .i64 th,.slice ai ni ci,.slice ao no co].toArray 59 (0,0)):=by rw[hX];exact Zm _ _ _ _ _
 have hni:I.length=ni:=hI.1
 obtain⟨x1,hx1⟩:∃ x1,Zp (th,I,O)=x1:=⟨_,rfl⟩
 obtain⟨T,hTx⟩:∃ T,txT (th,I,O)=T:=⟨_,rfl⟩
 obtain⟨⟨K1,nm,x2⟩,hx2⟩:∃ r,Bk.nameR K T=r:=⟨_,rfl⟩
 obtain⟨⟨x3,M,S⟩,hx3⟩:∃ r,apD C (th,I,O) nm h=r:=⟨_,rfl⟩
 unfold doD at hx
 simp only[hx1,hTx,hx2,hx3,hni] at hx
 have HBR:=hide (fun V (hv:Below X.heap.size X V)=>(show V.heap[w.heap.size]? = some (.cells [.int .i64 th,.slice ai ni ci,.slice ao no co].toArray 59 (0,0)) from (hv.block _ (lt_of_block hX0)).trans hX0))
 have HPP:=hide (fun V (hv:Below w.heap.size w V)=>(show V.heap[p]? = some (.cells [.slice ka kn kc,.slice la ln lc,.int .i64 h].toArray 162 (0,0)) from (hv.block _ (lt_of_block hp)).trans hp))
 have hpl:p<w.heap.size:=lt_of_block hp
 have C1:=hide (Rs th ai ao ni ci no co I O T x1 X (hE.later hbX) (hI.later hbX) (hO.later hbX) sI hx1 hTx)
 have C2:=hide (fun V (hv:Below w.heap.size w V)=>Bk.name_fresh ka kn kc K K1 T nm x2 V (hK.later hv) hx2)
 have C3:=hide (fun V (hv:Below w.heap.size w V)=>Rg la ln lc C th ai ao ni ci no co I O nm h x3 M S V (hC.later hv) sC (hI.later hv) (hO.later hv) sI hx3)
 have hRM:Hid (x3=0→Yc M∧Zi M≤1000000000∧0≤Zi M):=fun q=>by
  subst q
  have r:=(Sj hx3).2.1
  exact⟨r,r.sum,Xg M (fun c hc=>by have:=Z9 (r.one c hc);omega)⟩
 obtain⟨s1,hs1⟩:∃ s,Zi C=s:=⟨_,rfl⟩
 have b1:s1≤1000000000:=by rw[←hs1];exact hRC.sum
 have b2:0≤s1:=by rw[←hs1];exact Xg C (fun c hc=>by have:=Z9 (hRC.one c hc);omega)
 have C4:=hide (fun V (hv:Below w.heap.size w V)=>Po la ln lc C s1 V (hC.later hv) hRC hs1)
 have HX:=hide hx
 have HBX:=hide hbX
 have HS1:=hide hs1
 have t0:=Za hX0 0 _ rfl
 have t1:=Za hX0 1 _ rfl
 have t2:=Za hX0 2 _ rfl
 have tl:=lt_of_block hX0
 clear hE hK sK hC sC hI hO sI hx hx1 hTx hx2 hx3 hbX hX0 hp hRC hs1 hni
 go_enter Tryz.func91,Tryz.ntmps91
 go_wp2_with fail
 rw[←hX]
 clear hX
 (try go_wp2_with fail)
 refine (unhide C1).mono ?_
 rintro e w1 ⟨rfl,hb1⟩
 have h10:=(unhide HBR) _ hb1
 have t0:=Za h10 0 _ rfl
 have t1:=Za h10 1 _ rfl
 have t2:=Za h10 2 _ rfl
 have tl:=lt_of_block h10
 have HB1:=hide (bel_on (unhide HBX) hb1)
 have HB1X:=hide hb1
 clear hb1 h10 C1
 by_cases e1:x1=0
 ·subst e1
  by_cases e2:ni=0
  ·subst e2
   have HXE:Hid (x=4):=by have:=unhide HX;rw[if_neg (fun q=>q rfl),if_pos rfl] at this;injection this with this _;exact this.symm
   clear HX
   go_wp2
   go_ret2
   exact DoR.err (by decide) (unhide HXE) (unhide HB1)
  have gn:((ni:Int) == 0)=false:=by simp;omega
  have gn2:¬((ni:Int)=0):=by omega
  have p1:=(unhide HPP) _ (unhide HB1)
  have q0:=Za p1 0 _ rfl
  have q1:=Za p1 1 _ rfl
  have q2:=Za p1 2 _ rfl
  have ql:=lt_of_block p1
  clear p1
  go_wp2_with fail
  refine ((unhide C2) _ (unhide HB1)).mono ?_
  rintro e w2 ⟨⟨ka',kn',kc',rfl,hF2,sK2⟩,hb2⟩
  have HB2:=hide (bel_on (unhide HB1) hb2)
  have HF2:=hide hF2
  have HSK2:=hide sK2
  have hsz:w1.heap.size≤w2.heap.size:=hb2.size
  obtain⟨V,hV⟩:∃ V,V=w2.alloc (.cells #[.slice ka' kn' kc'] 24):=⟨_,rfl⟩
  have hbV:Below w2.heap.size w2 V:=by rw[hV];exact bel_new _ _
  have hV0:V.heap[w2.heap.size]? = some (.cells [.slice ka' kn' kc'].toArray 24 (0,0)):=by rw[hV];exact Z8 _ _ _
  have HBV:=hide (bel_on (unhide HB2) hbV)
  have HB2V:=hide hbV
  have HV0:=hide hV0
  have H1V:=hide (bel_on (unhide HB1X) (bel_on hb2 hbV))
  clear hb2 hF2 sK2 hbV hV0 q0 q1 q2 ql t0 t1 t2 tl
  have t20:=Za ((unhide HBR) _ (unhide H1V)) 0 _ rfl
  have t21:=Za ((unhide HBR) _ (unhide H1V)) 1 _ rfl
  have t22:=Za ((unhide HBR) _ (unhide H1V)) 2 _ rfl
  have t2l:=lt_of_block ((unhide HBR) _ (unhide H1V))
  have q20:=Za ((unhide HPP) _ (unhide HBV)) 0 _ rfl
  have q21:=Za ((unhide HPP) _ (unhide HBV)) 1 _ rfl
  have q22:=Za ((unhide HPP) _ (unhide HBV)) 2 _ rfl
  have q2l:=lt_of_block ((unhide HPP) _ (unhide HBV))
  by_cases e3:x2=0
  ·subst e3
   go_upto_region 9 with fail
   rw[←hV]
   clear hV
   have HVD:=hide (bel_on (unhide HBV) (Ze V))
   have HVA:=hide (bel_on (bel_on (unhide HBV) (bel_new V (.cells #[.slice none 0 0] 153))) (Ze _))
   have v0:(V.alloc (.cells #[.slice none 0 0] 153)).drew.heap[V.heap.size]? = some (.cells #[.slice none 0 0] 153 (0,0)):=Z8 V (.slice none 0 0) 153
   have HV1:=hide v0
   clear v0
   have KS:Hid (∀ U:World,Below V.heap.size V U→((U.cell? ⟨p,1,none⟩=some (.slice la ln lc)∧U.cell? ⟨p,2,none⟩=some (.int .i64 h)∧p<U.heap.size)∧U.cell? ⟨w.heap.size,0,none⟩=some (.int .i64 th)∧U.cell? ⟨w.heap.size,1,none⟩=some (.slice ai ni ci)∧U.cell? ⟨w.heap.size,2,none⟩=some (.slice ao no co)∧w.heap.size<U.heap.size)):=fun U hu=>⟨⟨cell_later hu q21,cell_later hu q22,Nat.lt_of_lt_of_le q2l hu.size⟩,cell_later hu t20,cell_later hu t21,cell_later hu t22,Nat.lt_of_lt_of_le t2l hu.size⟩
   go_cut [5,9,10] from 36 to 50 (fun s5 s9 s10 wx=>s5 = .int .i64 x3∧Hid (Zbe V wx M s9))
   case first=>
    refine wp_region_held_drew (S:=fun U=>(U.cell? ⟨p,1,none⟩=some (.slice la ln lc)∧U.cell? ⟨p,2,none⟩=some (.int .i64 h)∧p<U.heap.size)∧U.cell? ⟨w.heap.size,0,none⟩=some (.int .i64 th)∧U.cell? ⟨w.heap.size,1,none⟩=some (.slice ai ni ci)∧U.cell? ⟨w.heap.size,2,none⟩=some (.slice ao no co)∧w.heap.size<U.heap.size) (by kernel_rfl) ((unhide KS) _ (Ze _)) (fun hHeld=>?_)
    refine tk 0 ⟨some 37,.move (.tmp 0),157, "till.go:47",#[],none⟩ ?_ rfl ?_ hHeld ?_
    rotate_left
    ·(intro U hSw;obtain⟨⟨s1,s2,s3⟩,s4,s5,s6,s7⟩:=hSw;go_simp;first|done|with_reducible rfl)
    (try simp only[Act.put,ZA,ZB,ZC])
    refine tk 1 ⟨some 38,.nilCheck (.tmp 37),0, "till.go:47",#[⟨0,.data⟩],none⟩ ?_ rfl ?_ hHeld ?_
    rotate_left
    ·(intro U hSw;obtain⟨⟨s1,s2,s3⟩,s4,s5,s6,s7⟩:=hSw;go_simp;first|done|with_reducible rfl)
    (try simp only[Act.put,ZA,ZB,ZC])
    refine tk 2 ⟨some 39,.fieldAddr 162 (.tmp 38) 1,0, "till.go:47",#[⟨1,.data⟩],none⟩ ?_ rfl ?_ hHeld ?_
    rotate_left
    ·(intro U hSw;obtain⟨⟨s1,s2,s3⟩,s4,s5,s6,s7⟩:=hSw;go_simp;first|done|with_reducible rfl)
    (try simp only[Act.put,ZA,ZB,ZC])
    refine tk 3 ⟨some 40,.load 29 (.tmp 39),29, "till.go:47",#[⟨2,.data⟩],none⟩ ?_ rfl ?_ hHeld ?_
    rotate_left
    ·(intro U hSw;obtain⟨⟨s1,s2,s3⟩,s4,s5,s6,s7⟩:=hSw;go_simp;first|done|with_reducible rfl)
    (try simp only[Act.put,ZA,ZB,ZC])
    refine tk 4 ⟨some 41,.load 59 (.tmp 3),59, "till.go:47",#[],none⟩ ?_ rfl ?_ hHeld ?_
    rotate_left
    ·(intro U hSw;obtain⟨⟨s1,s2,s3⟩,s4,s5,s6,s7⟩:=hSw;go_simp;first|done|with_reducible rfl)
    (try simp only[Act.put,ZA,ZB,ZC])
    refine tk 5 ⟨some 42,.move (.tmp 8),3, "till.go:47",#[],none⟩ ?_ rfl ?_ hHeld ?_
    rotate_left
    ·(intro U hSw;obtain⟨⟨s1,s2,s3⟩,s4,s5,s6,s7⟩:=hSw;go_simp;first|done|with_reducible rfl)
    (try simp only[Act.put,ZA,ZB,ZC])
    refine tk 6 ⟨some 43,.move (.tmp 0),157, "till.go:47",#[],none⟩ ?_ rfl ?_ hHeld ?_
    rotate_left
    ·(intro U hSw;obtain⟨⟨s1,s2,s3⟩,s4,s5,s6,s7⟩:=hSw;go_simp;first|done|with_reducible rfl)
    (try simp only[Act.put,ZA,ZB,ZC])
    refine tk 7 ⟨some 44,.nilCheck (.tmp 43),0, "till.go:47",#[⟨6,.data⟩],none⟩ ?_ rfl ?_ hHeld ?_
    rotate_left
    ·(intro U hSw;obtain⟨⟨s1,s2,s3⟩,s4,s5,s6,s7⟩:=hSw;go_simp;first|done|with_reducible rfl)
    (try simp only[Act.put,ZA,ZB,ZC])
    refine tk 8 ⟨some 45,.fieldAddr 162 (.tmp 44) 2,0, "till.go:47",#[⟨7,.data⟩],none⟩ ?_ rfl ?_ hHeld ?_
    rotate_left
    ·(intro U hSw;obtain⟨⟨s1,s2,s3⟩,s4,s5,s6,s7⟩:=hSw;go_simp;first|done|with_reducible rfl)
    (try simp only[Act.put,ZA,ZB,ZC])
    refine tk 9 ⟨some 46,.load 3 (.tmp 45),3, "till.go:47",#[⟨8,.data⟩],none⟩ ?_ rfl ?_ hHeld ?_
    rotate_left
    ·(intro U hSw;obtain⟨⟨s1,s2,s3⟩,s4,s5,s6,s7⟩:=hSw;go_simp;first|done|with_reducible rfl)
    (try simp only[Act.put,ZA,ZB,ZC])
    refine wpAnyH_ready (rs:=[10,15]) (by kernel_rfl) (by simp) ?_
    refine AllReadyH.cons (o:=⟨some 47,.call { callee:=Callee.value (.func 76),args:=#[.tmp 40,.tmp 41,.tmp 42,.tmp 46],argTypes:=#[29,59,3,3] },154, "till.go:47",#[⟨3,.data⟩,⟨4,.data⟩,⟨5,.data⟩,⟨9,.data⟩],none⟩) rfl (fun KQ hK=>?_) (AllReadyH.cons (o:=⟨some 10,.alloc 153,0, "till.go:47",#[],none⟩) rfl (fun KQ hK=>?_) AllReadyH.nil)
    ·refine Zf (by kernel_rfl) 76 #[.slice la ln lc,.agg #[.int .i64 th,.slice ai ni ci,.slice ao no co],.int .i64 nm,.int .i64 h] (by kernel_rfl) ((unhide C3) V.drew (unhide HVD)) ?_
     rintro e w5 ⟨am,nm5,cm,sa,ns,cs,rfl,hF5,sM5,-,-,hb5⟩
     refine⟨_,rfl,?_⟩
     have hb:Below V.heap.size V w5:=bel_on (Ze V) hb5
     refine hK.out _ _ ((unhide KS) _ hb) (fun hHeld2=>?_)
     clear hK KQ hHeld
     have hHeld:=hHeld2
     clear hHeld2
     (try simp only[Act.put,ZA,ZB,ZC])
     refine tk 11 ⟨some 36,.move (.tmp 47),154, "till.go:47",#[⟨10,.data⟩],none⟩ ?_ rfl ?_ hHeld ?_
     rotate_left
     ·(intro U hSw;(try dsimp only at hSw);go_simp;first|done|with_reducible rfl)
     (try simp only[Act.put,ZA,ZB,ZC])
     refine tk 12 ⟨some 48,.extract (.tmp 36) 0,29, "till.go:47",#[⟨11,.data⟩],none⟩ ?_ rfl ?_ hHeld ?_
     rotate_left
     ·(intro U hSw;(try dsimp only at hSw);go_simp;first|done|with_reducible rfl)
     (try simp only[Act.put,ZA,ZB,ZC])
     refine tk 13 ⟨some 49,.extract (.tmp 36) 1,153, "till.go:47",#[⟨11,.data⟩,⟨16,.gcOnly .lateStores⟩],none⟩ ?_ rfl ?_ hHeld ?_
     rotate_left
     ·(intro U hSw;(try dsimp only at hSw);go_simp;first|done|with_reducible rfl)
     (try simp only[Act.put,ZA,ZB,ZC])
     refine tk 14 ⟨some 50,.extract (.tmp 36) 2,30, "till.go:47",#[⟨11,.data⟩,⟨17,.gcOnly .lateStores⟩],none⟩ ?_ rfl ?_ hHeld ?_
     rotate_left
     ·(intro U hSw;(try dsimp only at hSw);go_simp;first|done|with_reducible rfl)
     (try simp only[Act.put,ZA,ZB,ZC])
     refine wpAnyH_ready (rs:=[15]) (by kernel_rfl) (by simp) ?_
     refine AllReadyH.cons (o:=⟨some 10,.alloc 153,0, "till.go:47",#[],none⟩) rfl (fun KQ hK=>?_) AllReadyH.nil
     go_simp
     refine hK.out _ _ ((unhide KS) _ (bel_on hb (bel_new _ _))) (fun hHeld2=>?_)
     clear hK KQ hHeld
     have hHeld:=hHeld2
     clear hHeld2
     (try simp only[Act.put,ZA,ZB,ZC])
     refine tk 16 ⟨some 9,.assign (.tmp 48),29, "till.go:47",#[⟨12,.data⟩,⟨10,.chain⟩,⟨0,.phase⟩,⟨1,.phase⟩,⟨2,.phase⟩,⟨3,.phase⟩,⟨4,.phase⟩,⟨5,.phase⟩,⟨6,.phase⟩,⟨7,.phase⟩,⟨8,.phase⟩,⟨9,.phase⟩,⟨10,.phase⟩,⟨11,.phase⟩,⟨12,.phase⟩,⟨13,.textOnly .lateStores⟩,⟨14,.textOnly .lateStores⟩,⟨15,.phase⟩],none⟩ ?_ rfl ?_ hHeld ?_
     rotate_left
     ·(intro U hSw;(try dsimp only at hSw);go_simp;first|done|with_reducible rfl)
     (try simp only[Act.put,ZA,ZB,ZC])
     refine wpAnyH_ready (rs:=[17]) (by kernel_rfl) (by simp) ?_
     refine AllReadyH.cons (o:=⟨none,.store 153 (.tmp 10) (.tmp 49),0, "till.go:47",#[⟨15,.data⟩,⟨13,.data⟩,⟨16,.chain⟩,⟨0,.phase⟩,⟨1,.phase⟩,⟨2,.phase⟩,⟨3,.phase⟩,⟨4,.phase⟩,⟨5,.phase⟩,⟨6,.phase⟩,⟨7,.phase⟩,⟨8,.phase⟩,⟨9,.phase⟩,⟨10,.phase⟩,⟨11,.phase⟩,⟨12,.phase⟩,⟨13,.phase⟩,⟨14,.textOnly .lateStores⟩,⟨15,.phase⟩,⟨16,.phase⟩],none⟩) rfl (fun KQ hK=>?_) AllReadyH.nil
     go_simp
     refine hK.out _ _ ((unhide KS) _ (bel_on hb (bel_new _ _))) (fun hHeld2=>?_)
     clear hK KQ hHeld
     have hHeld:=hHeld2
     clear hHeld2
     (try simp only[Act.put])
     refine tk 18 ⟨some 5,.assign (.tmp 50),30, "till.go:47",#[⟨14,.data⟩,⟨17,.chain⟩,⟨0,.phase⟩,⟨1,.phase⟩,⟨2,.phase⟩,⟨3,.phase⟩,⟨4,.phase⟩,⟨5,.phase⟩,⟨6,.phase⟩,⟨7,.phase⟩,⟨8,.phase⟩,⟨9,.phase⟩,⟨10,.phase⟩,⟨11,.phase⟩,⟨12,.phase⟩,⟨13,.phase⟩,⟨14,.phase⟩,⟨15,.phase⟩,⟨16,.phase⟩,⟨17,.phase⟩],none⟩ ?_ rfl ?_ hHeld ?_
     rotate_left
     ·(intro U hSw;(try dsimp only at hSw);go_simp;first|done|with_reducible rfl)
     (try simp only[Act.put,ZA,ZB,ZC])
     refine wpAnyH_done (by kernel_rfl) ?_ _
     clear hHeld
     go_wp2_with fail
     go_meet
     case rel=>exact⟨rfl,Le hF5 (Nat.le_refl _) sM5 hb (Gr.of (bel_new _ _))⟩
    ·go_simp
     obtain⟨v6,hv6⟩:∃ v6,v6=(V.alloc (.cells #[.slice none 0 0] 153)).drew:=⟨_,rfl⟩
     have h6:=unhide HV1
     have hbA:=unhide HVA
     rw[←hv6] at h6 hbA
     rw[←hv6]
     have hb6:Below V.heap.size V v6:=by rw[hv6];exact bel_on (bel_new _ _) (Ze _)
     have hv6s:v6.heap.size=V.heap.size+1:=by rw[hv6];simp
     refine hK.out _ _ ((unhide KS) _ hb6) (fun hHeld2=>?_)
     clear hK KQ hHeld
     have hHeld:=hHeld2
     clear hHeld2
     (try simp only[Act.put,ZA,ZB,ZC])
     refine wpAnyH_ready (rs:=[10]) (by kernel_rfl) (by simp) ?_
     refine AllReadyH.cons (o:=⟨some 47,.call { callee:=Callee.value (.func 76),args:=#[.tmp 40,.tmp 41,.tmp 42,.tmp 46],argTypes:=#[29,59,3,3] },154, "till.go:47",#[⟨3,.data⟩,⟨4,.data⟩,⟨5,.data⟩,⟨9,.data⟩],none⟩) rfl (fun KQ hK=>?_) AllReadyH.nil
     refine Zf (by kernel_rfl) 76 #[.slice la ln lc,.agg #[.int .i64 th,.slice ai ni ci,.slice ao no co],.int .i64 nm,.int .i64 h] (by kernel_rfl) ((unhide C3) v6 hbA) ?_
     rintro e w5 ⟨am,nm5,cm,sa,ns,cs,rfl,hF5,sM5,-,-,hb5⟩
     refine⟨_,rfl,?_⟩
     have hb:Below V.heap.size V w5:=bel_on hb6 hb5
     have h5:=(hb5.block _ (lt_of_block h6)).trans h6
     have u50:=Za (X:=[.slice none 0 0]) h5 0 _ rfl
     have u5f:=Zb h5 0
     have u5l:=lt_of_block h5
     refine hK.out _ _ ((unhide KS) _ hb) (fun hHeld2=>?_)
     clear hK KQ hHeld
     have hHeld:=hHeld2
     clear hHeld2
     (try simp only[Act.put,ZA,ZB,ZC])
     refine tk 11 ⟨some 36,.move (.tmp 47),154, "till.go:47",#[⟨10,.data⟩],none⟩ ?_ rfl ?_ hHeld ?_
     rotate_left
     ·(intro U hSw;(try dsimp only at hSw);go_simp;first|done|with_reducible rfl)
     (try simp only[Act.put,ZA,ZB,ZC])
     refine tk 12 ⟨some 48,.extract (.tmp 36) 0,29, "till.go:47",#[⟨11,.data⟩],none⟩ ?_ rfl ?_ hHeld ?_
     rotate_left
     ·(intro U hSw;(try dsimp only at hSw);go_simp;first|done|with_reducible rfl)
     (try simp only[Act.put,ZA,ZB,ZC])
     refine tk 13 ⟨some 49,.extract (.tmp 36) 1,153, "till.go:47",#[⟨11,.data⟩,⟨16,.gcOnly .lateStores⟩],none⟩ ?_ rfl ?_ hHeld ?_
     rotate_left
     ·(intro U hSw;(try dsimp only at hSw);go_simp;first|done|with_reducible rfl)
     (try simp only[Act.put,ZA,ZB,ZC])
     refine tk 14 ⟨some 50,.extract (.tmp 36) 2,30, "till.go:47",#[⟨11,.data⟩,⟨17,.gcOnly .lateStores⟩],none⟩ ?_ rfl ?_ hHeld ?_
     rotate_left
     ·(intro U hSw;(try dsimp only at hSw);go_simp;first|done|with_reducible rfl)
     (try simp only[Act.put,ZA,ZB,ZC])
     refine tk 16 ⟨some 9,.assign (.tmp 48),29, "till.go:47",#[⟨12,.data⟩,⟨10,.chain⟩,⟨0,.phase⟩,⟨1,.phase⟩,⟨2,.phase⟩,⟨3,.phase⟩,⟨4,.phase⟩,⟨5,.phase⟩,⟨6,.phase⟩,⟨7,.phase⟩,⟨8,.phase⟩,⟨9,.phase⟩,⟨10,.phase⟩,⟨11,.phase⟩,⟨12,.phase⟩,⟨13,.textOnly .lateStores⟩,⟨14,.textOnly .lateStores⟩,⟨15,.phase⟩],none⟩ ?_ rfl ?_ hHeld ?_
     rotate_left
     ·(intro U hSw;(try dsimp only at hSw);go_simp;first|done|with_reducible rfl)
     (try simp only[Act.put,ZA,ZB,ZC])
     refine wpAnyH_ready (rs:=[17]) (by kernel_rfl) (by simp) ?_
     refine AllReadyH.cons (o:=⟨none,.store 153 (.tmp 10) (.tmp 49),0, "till.go:47",#[⟨15,.data⟩,⟨13,.data⟩,⟨16,.chain⟩,⟨0,.phase⟩,⟨1,.phase⟩,⟨2,.phase⟩,⟨3,.phase⟩,⟨4,.phase⟩,⟨5,.phase⟩,⟨6,.phase⟩,⟨7,.phase⟩,⟨8,.phase⟩,⟨9,.phase⟩,⟨10,.phase⟩,⟨11,.phase⟩,⟨12,.phase⟩,⟨13,.phase⟩,⟨14,.textOnly .lateStores⟩,⟨15,.phase⟩,⟨16,.phase⟩],none⟩) rfl (fun KQ hK=>?_) AllReadyH.nil
     go_simp
     refine hK.out _ _ ((unhide KS) _ (hb.setCell (p:=⟨V.heap.size,0,none⟩) (Nat.le_refl _) _)) (fun hHeld2=>?_)
     clear hK KQ hHeld
     have hHeld:=hHeld2
     clear hHeld2
     (try simp only[Act.put])
     refine tk 18 ⟨some 5,.assign (.tmp 50),30, "till.go:47",#[⟨14,.data⟩,⟨17,.chain⟩,⟨0,.phase⟩,⟨1,.phase⟩,⟨2,.phase⟩,⟨3,.phase⟩,⟨4,.phase⟩,⟨5,.phase⟩,⟨6,.phase⟩,⟨7,.phase⟩,⟨8,.phase⟩,⟨9,.phase⟩,⟨10,.phase⟩,⟨11,.phase⟩,⟨12,.phase⟩,⟨13,.phase⟩,⟨14,.phase⟩,⟨15,.phase⟩,⟨16,.phase⟩,⟨17,.phase⟩],none⟩ ?_ rfl ?_ hHeld ?_
     rotate_left
     ·(intro U hSw;(try dsimp only at hSw);go_simp;first|done|with_reducible rfl)
     (try simp only[Act.put,ZA,ZB,ZC])
     refine wpAnyH_done (by kernel_rfl) ?_ _
     clear hHeld
     go_wp2_with fail
     go_meet
     case rel=>exact⟨rfl,Le hF5 (by omega) sM5 hb ((Gr.refl w5 _).one V.heap.size 0 (.inl ⟨by omega,Nat.le_refl _⟩) _)⟩
   case rest=>
    obtain⟨rfl,hc⟩:=hcut
    obtain⟨am,nm5,cm,rfl,hF5,sM5,hb5⟩:=unhide hc
    have hbw:=bel_on (unhide HBV) hb5
    have HBC:=hide hbw
    have HB5:=hide hb5
    have HF5:=hide hF5
    have HSM5:=hide sM5
    have p5:=(unhide HPP) _ hbw
    have q50:=Za p5 0 _ rfl
    have q51:=Za p5 1 _ rfl
    have q52:=Za p5 2 _ rfl
    have q5l:=lt_of_block p5
    have CM:=hide (fun U (hu:Below wc.heap.size wc U) (h0:x3=0) s2 (hs:Zi M=s2)=>Po am nm5 cm M s2 U ((hF5 wc (Gr.refl _ _)).later hu) ((unhide hRM) h0).1 hs)
    clear hc hF5 sM5 hb5 hbw p5 t20 t21 t22 t2l q20 q21 q22 q2l KS HVD HVA HV1 C3
    by_cases e4:x3=0
    ·obtain⟨hRM1,hRM2,hRM3⟩:=(unhide hRM) e4
     obtain⟨s2,hs2⟩:∃ s2,Zi M=s2:=⟨_,rfl⟩
     rw[hs2] at hRM2 hRM3
     have CM2:=hide (fun U hu=>(unhide CM) U hu e4 s2 hs2)
     have HS2:=hide hs2
     have HXE:Hid (x=0∧K'=K1∧C'=M):=by have:=unhide HX;rw[if_neg (fun q=>q rfl),if_neg e2,if_neg (fun q=>q rfl),if_neg (fun q=>q e4)] at this;injection this with h1 h2;injection h2 with h2 h3;exact⟨h1.symm,h2.symm,h3.symm⟩
     subst e4
     clear hs2 CM HX hRM hRM1
     have C5:=hide ((unhide C4) wc (unhide HBC))
     go_wp2_with fail
     refine (unhide C5).mono ?_
     rintro e w6 ⟨rfl,hb6⟩
     have C6:=hide ((unhide CM2) w6 hb6)
     have HB6:=hide hb6
     clear hb6 C5 C4
     go_wp2_with fail
     refine (unhide C6).mono ?_
     rintro e w7 ⟨rfl,hb7⟩
     have hb57:=bel_on (unhide HB6) hb7
     have hbw7:=bel_on (unhide HBC) hb57
     have p7:=(unhide HPP) _ hbw7
     have q70:=Za p7 0 _ rfl
     have q71:=Za p7 1 _ rfl
     have q7f0:=Zb p7 0
     have q7f1:=Zb p7 1
     have q7l:=lt_of_block p7
     have k7:=((bel_on (unhide HB5) hb57).block _ (lt_of_block (unhide HV0))).trans (unhide HV0)
     have k70:=Za k7 0 _ rfl
     have k7l:=lt_of_block k7
     have hpk:p≠w2.heap.size:=by have:=(unhide HB2).size;omega
     have hpk2:w2.heap.size≠p:=fun q=>hpk q.symm
     have G7:Gr w7 ((w7.setCell ⟨p,0,none⟩ (.slice ka' kn' kc')).setCell ⟨p,1,none⟩ (.slice am nm5 cm)) (fun q=>q=p):=((Gr.refl w7 (fun q=>q=p)).one p 0 (.inl rfl) _).one p 1 (.inl rfl) _
     have HFIN:Hid (DoR w ((w7.setCell ⟨p,0,none⟩ (.slice ka' kn' kc')).setCell ⟨p,1,none⟩ (.slice am nm5 cm)) p x K' C' h (Zi C - Zi C') (.returned (.tuple #[.int .i64 (s1 - s2),.int .i64 0]))):=by
      obtain⟨rfl,rfl,rfl⟩:=unhide HXE
      rw[unhide HS1,unhide HS2]
      refine .inr ⟨rfl,rfl,(Gr.of hbw7).trans G7,ka',kn',kc',am,nm5,cm,Tr.set_cells (Tr.set_cells p7 0 _) 1 _,fun W g2=>⟨(unhide HF2) W ?_,(unhide HF5) W ?_⟩,unhide HSK2,unhide HSM5⟩
      ·exact ((Gr.of (bel_on (unhide HB2V) (bel_on (unhide HB5) hb57))).trans (G7.mono (fun q _ e=>by rw[e];exact Nat.lt_of_lt_of_le hpl (unhide HB1).size))).trans (g2.mono (fun q _ e=>Nat.lt_of_lt_of_le e (unhide HB1).size))
      ·exact ((Gr.of hb57).trans (G7.mono (fun q _ e=>by rw[e];exact Nat.lt_of_lt_of_le hpl (unhide HBV).size))).trans (g2.mono (fun q _ e=>Nat.lt_of_lt_of_le e (unhide HBV).size))
     clear G7 hb57 hbw7 p7 k7 hb7 C6 CM2
     go_wp2
     go_ret2
     exact unhide HFIN
    ·have gx3:(x3 != 0)=true:=by simp[e4]
     have HXE:Hid (x=x3):=by have:=unhide HX;rw[if_neg (fun q=>q rfl),if_neg e2,if_neg (fun q=>q rfl),if_pos e4] at this;injection this with this _;exact this.symm
     clear HX CM
     go_wp2
     go_ret2
     exact DoR.err e4 (unhide HXE) (unhide HBC)
  ·have gx2:(x2 != 0)=true:=by simp[e3]
   have HXE:Hid (x=x2):=by have:=unhide HX;rw[if_neg (fun q=>q rfl),if_neg e2,if_pos e3] at this;injection this with this _;exact this.symm
   clear HX
   go_wp2
   rw[←hV]
   go_ret2
   exact DoR.err e3 (unhide HXE) (unhide HBV)
 ·have gx1:(x1 != 0)=true:=by simp[e1]
  have HXE:Hid (x=x1):=by have:=unhide HX;rw[if_pos e1] at this;injection this with this _;exact this.symm
  clear HX
  go_wp2
  go_ret2
  exact DoR.err e1 (unhide HXE) (unhide HB1)
end Go.Proofs.YtmomfkikogbdeaaGreatDoor
