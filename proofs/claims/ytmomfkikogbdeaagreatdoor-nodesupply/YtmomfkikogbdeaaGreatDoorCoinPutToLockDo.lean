/- The contract of put: a coin is put at its place, if there is none of its point. -/
import Derived.Test.YtmomfkikogbdeaaGreatDoorCoinTakeToBlkHead
import Derived.Test.YtmomfkikogbdeaaGreatDoorCoinMathToCoinCheck
import Derived.Test.YtmomfkikogbdeaaGreatDoorLockMathToTxSum
set_option maxHeartbeats 6400000
set_option maxRecDepth 10000
namespace Go.Proofs.YtmomfkikogbdeaaGreatDoor
open Go.RowKit
theorem own_slice{w:World}{base:Nat}{e:TypeId}{size:Nat}{v:Value}{n:Nat}{xs:List Value}(h:w.ownsRow base e size v n xs):∃ a c,v = .slice a n c:=by
 rcases h.2 with ⟨rfl,rfl⟩|⟨g,cap,cur,rfl,_⟩
 ·exact⟨none,0,rfl⟩
 ·exact⟨_,_,rfl⟩
def Hw(y:CV):List Value:=[.int .i64 y.1.1,.int .i64 y.1.2.1,.int .i64 (cv y.1),.slice y.2.1 y.2.2.1 y.2.2.2,.int .i64 (ch y.1),.bool (cr y.1)]
theorem Bo(y:CV):Zh [y]=Hw y:=rfl
theorem El(w0 w:World)(p:Nat)(v:Value)(K:List CV)(y:CV)(h:Pu w0 w p v K)(hs:Srt (K.map (·.1)))(hn:K.length≤4096)(hf:Xl (pt y.1) (K.map (·.1))=true) :
  Calls Tryz.prog 207 #[.pointer (some ⟨p,0,none⟩),cnV y.1 y.2.1 y.2.2.1 y.2.2.2] w fun e w'=>e = .returned (.bool false)∧Below w.heap.size w w':=by
 obtain⟨a,c,rfl,hC,hS⟩:=h.coins
 obtain⟨n,hn'⟩:∃ n,K.length=n:=⟨_,rfl⟩
 obtain⟨k,hk⟩:∃ k,pos (pt y.1) (K.map (·.1))=k:=⟨_,rfl⟩
 have hbox:=h.box
 rw[hn'] at hC hbox hn
 unfold cnV
 obtain⟨X,hX⟩:∃ X,X=w.alloc (.cells #[.int .i64 y.1.1,.int .i64 y.1.2.1,.int .i64 (cv y.1),.slice y.2.1 y.2.2.1 y.2.2.2,.int .i64 (ch y.1),.bool (cr y.1)] 124):=⟨_,rfl⟩
 have hbX:Below w.heap.size w X:=by rw[hX];exact bel_new _ _
 have hX1:X.heap[w.heap.size]? = some (.cells (Hw y).toArray 124 (0,0)):=by rw[hX];exact Xn _ _ _ _ _ _ _ _
 have x0:=Za hX1 0 _ rfl
 have x1:=Za hX1 1 _ rfl
 have xp:X.cell? ⟨p,0,none⟩=some (.slice a n c):=cell_later hbX (Za (X:=[.slice a n c]) hbox 0 _ rfl)
 have PL:=hide (fun w' (hb:Below X.heap.size X w')=>Un a n c (K.map (·.1)) (pt y.1) k true w' hs (by omega) ((hC.later hbX).later hb) hk hf)
 unfold pt at PL
 have HBX:=hide hbX
 clear hk hf hC hS hs hbox hbX hX1 h hn'
 go_enter Tryz.func207,Tryz.ntmps207
 go_wp2_with fail
 rw[←hX]
 clear hX
 go_region_held3 (fun w'=>Below X.heap.size X w'∧w'.cell? ⟨w.heap.size,0,none⟩=some (.int .i64 y.1.1)∧w'.cell? ⟨w.heap.size,1,none⟩=some (.int .i64 y.1.2.1)∧w'.cell? ⟨p,0,none⟩=some (.slice a n c))
  (first
  | exact⟨Ze _,x0,x1,xp⟩
  | (go_split_ands;refine⟨bel_on (by assumption) hbc,cell_later hbc (by assumption),cell_later hbc (by assumption),cell_later hbc (by assumption)⟩))
  (first|(go_at_call 250;go_split_ands;refine ((unhide PL) _ (by assumption)).mono ?_;rintro e w' ⟨rfl,hbc⟩))
 rename_i hH
 have HB:=hide (bel_on (unhide HBX) hH.1)
 clear hH
 go_wp2
 go_ret
 exact⟨rfl,unhide HB⟩
theorem Av(w0 w:World)(p:Nat)(v:Value)(K:List CV)(y:CV)(h:Pu w0 w p v K)(hs:Srt (K.map (·.1)))(hn:K.length≤4096)(hf:Xl (pt y.1) (K.map (·.1))=false)(hy:LkAt w0 y) :
  Calls Tryz.prog 207 #[.pointer (some ⟨p,0,none⟩),cnV y.1 y.2.1 y.2.2.1 y.2.2.2] w fun e w'=>∃ (v':Value) (K':List CV),e = .returned (.bool true)∧K'.map (·.1)=Jm y.1 (K.map (·.1))∧(∀ z∈K',z=y∨z∈K)∧K'.length=K.length+1 ∧
   Pu w0 w' p v' K'∧Gr w w' (PuS p v)∧(v'.ownBlock=v.ownBlock∨∀ k,v'.ownBlock=some k→w.heap.size≤k):=by
 obtain⟨a,c,rfl,hC,hS⟩:=h.coins
 obtain⟨n,hn'⟩:∃ n,K.length=n:=⟨_,rfl⟩
 obtain⟨k,hk⟩:∃ k,pos (pt y.1) (K.map (·.1))=k:=⟨_,rfl⟩
 have hbox:=h.box
 have hO:=h.own
 have hne:=h.ne
 have hkn:k≤n:=by rw[←hk,←hn'];have:=Aw (pt y.1) (K.map (·.1));simpa using this
 have hPD:=Np hs hf
 rw[hk,←List.map_take,←List.map_drop,show y.1 :: (K.drop k).map (·.1)=(y :: K.drop k).map (·.1) from rfl,←List.map_append] at hPD
 rw[hn'] at hC hbox hn hO hne
 unfold cnV
 obtain⟨X,hX⟩:∃ X,X=w.alloc (.cells #[.int .i64 y.1.1,.int .i64 y.1.2.1,.int .i64 (cv y.1),.slice y.2.1 y.2.2.1 y.2.2.2,.int .i64 (ch y.1),.bool (cr y.1)] 124):=⟨_,rfl⟩
 have hbX:Below w.heap.size w X:=by rw[hX];exact bel_new _ _
 have hX1:X.heap[w.heap.size]? = some (.cells (Hw y).toArray 124 (0,0)):=by rw[hX];exact Xn _ _ _ _ _ _ _ _
 have x0:=Za hX1 0 _ rfl
 have x1:=Za hX1 1 _ rfl
 have xp:X.cell? ⟨p,0,none⟩=some (.slice a n c):=cell_later hbX (Za (X:=[.slice a n c]) hbox 0 _ rfl)
 have PL:=hide (fun w' (hb:Below X.heap.size X w')=>Un a n c (K.map (·.1)) (pt y.1) k false w' hs (by omega) ((hC.later hbX).later hb) hk hf)
 unfold pt at PL
 have HBX:=hide hbX
 have HX1:=hide hX1
 have HO:=hide hO
 have HNE:=hide hne
 have HPD:=hide hPD
 have HP:=hide h
 have HY:=hide hy
 have HBOX:=hide hbox
 have HN':=hide hn'
 have hpw:p<w.heap.size:=h.lt
 clear hk hf hC hS hs hbox hbX hX1 h hn' hO hne hPD hy
 go_enter Tryz.func207,Tryz.ntmps207
 go_wp2_with fail
 rw[←hX]
 clear hX
 go_region_held3 (fun w'=>Below X.heap.size X w'∧w'.cell? ⟨w.heap.size,0,none⟩=some (.int .i64 y.1.1)∧w'.cell? ⟨w.heap.size,1,none⟩=some (.int .i64 y.1.2.1)∧w'.cell? ⟨p,0,none⟩=some (.slice a n c))
  (first
  | exact⟨Ze _,x0,x1,xp⟩
  | (go_split_ands;refine⟨bel_on (by assumption) hbc,cell_later hbc (by assumption),cell_later hbc (by assumption),cell_later hbc (by assumption)⟩))
  (first|(go_at_call 250;go_split_ands;refine ((unhide PL) _ (by assumption)).mono ?_;rintro e w' ⟨rfl,hbc⟩))
 rename_i hH
 have hb2:=bel_on (unhide HBX) hH.1
 have hh2:=(hH.1.block _ (lt_of_block (unhide HX1))).trans (unhide HX1)
 have c0:=Za hh2 0 _ rfl
 have c1:=Za hh2 1 _ rfl
 have c2:=Za hh2 2 _ rfl
 have c3:=Za hh2 3 _ rfl
 have c4:=Za hh2 4 _ rfl
 have c5:=Za hh2 5 _ rfl
 have xp2:=hH.2.2.2
 have hpl:=World.block_lt_of_cell? _ _ xp2
 have hhp:=(hb2.block p hpw).trans (unhide HBOX)
 have HB2:=hide hb2
 have INS:Hid (∀ W,W.heap=(w'.alloc (.cells #[.int .i64 y.1.1,.int .i64 y.1.2.1,.int .i64 (cv y.1),.slice y.2.1 y.2.2.1 y.2.2.2,.int .i64 (ch y.1),.bool (cr y.1)] 124)).heap→W.os=w'.os→W.tape=w'.tape→W.output=w'.output →
   Calls Tryz.prog 254 #[.slice a n c,.int .i64 k,.slice (some ⟨w'.heap.size,0,none⟩) 1 1] W fun e w4=>∃ a' c',e = .returned (.slice a' (n+1) c')∧w4.cell? ⟨p,0,none⟩=some (.slice a n c)∧w4.frozen? ⟨p,0,none⟩=false∧p<w4.heap.size∧Hid (w4.ownsRow w0.heap.size 124 6 (.slice a' (n+1) c') (n+1) (Zh (K.take k++y :: K.drop k))∧Gr w w4 (PuS p (.slice a n c))∧((Value.slice a' (n+1) c').ownBlock=(Value.slice a n c).ownBlock∨∀ k,(Value.slice a' (n+1) c').ownBlock=some k→w.heap.size≤k)∧w4.heap[p]? = some (.cells #[.slice a n c] 235 (0,0)))):=by
  intro W hW1 hW2 hW3 hW4
  have hbw:Below w'.heap.size w' W:=⟨hW2,hW3,hW4,by rw[hW1];simp,fun i hi=>by rw[hW1];exact Below.heap_alloc w' _ i hi⟩
  have hbw2:=bel_on hb2 hbw
  have hOW:W.ownsRow w0.heap.size 124 6 (.slice a n c) n (Zh K):=(Gr.of (S:=fun _=>False) hbw2).own (unhide HO) (fun _ _ q=>q)
  have hvb:W.heap[w'.heap.size]? = some (.cells (Zh [y]).toArray 124 (0,0)):=by rw[hW1];exact Xn _ _ _ _ _ _ _ _
  have hsz:w.heap.size<W.heap.size:=Nat.lt_of_lt_of_le (lt_of_block hh2) hbw.size
  refine (Tt w0.heap.size a n c k w'.heap.size K y W hkn hn (unhide HN') (Nat.le_trans (unhide HP).bel.size (Nat.le_of_lt hsz)) hOW hvb ?_).mono ?_
  ·intro e
   have:=(unhide HO).lt _ e
   have h3:=hb2.size
   omega
  ·rintro e w4 ⟨v',rfl,ho4,hg4,hn4⟩
   obtain⟨a',c',rfl⟩:=own_slice ho4
   have hp4:w4.heap[p]? = some (.cells #[.slice a n c] 235 (0,0)):=by
    rw[hg4.block p (Nat.lt_trans hpw hsz) (fun e=>(unhide HNE) e.symm),hbw2.block p hpw]
    exact unhide HBOX
   refine⟨a',c',rfl,Za (X:=[.slice a n c]) hp4 0 _ rfl,Zb hp4 0,lt_of_block hp4,ho4,(Gr.of hbw2).grown hg4 (fun k hk=>.inl (.inr hk)),?_,hp4⟩
   ·rcases hn4 with q|q
    ·exact .inl q
    ·exact .inr fun k hk=>Nat.le_trans (Nat.le_of_lt hsz) (q k hk)
 clear hH hbc hb2 hh2 xp x0 x1 hhp
 go_wp2_with fail
 go_region_with (go_at_call 254;refine ((unhide INS) _ ?_ ?_ ?_ ?_).mono ?_;rfl;rfl;rfl;rfl;rintro e w4 ⟨a',c',rfl,p4,p4f,p4l,H4⟩)
 all_goals
  go_wp2
  go_ret
  obtain⟨ho4,hg4,hn4,hp4⟩:=unhide H4
  have hp:=unhide HP
  have hl:(K.take k++y :: K.drop k).length=n+1:=by
   have:=unhide HN'
   simp only[List.length_append,List.length_take,List.length_cons,List.length_drop]
   omega
  have hnp:(Value.slice a' (n+1) c').ownBlock≠some p:=fun e=>by
   rcases hn4 with q|q
   ·rw[q] at e;exact (unhide HNE) e
   ·have:=q p e;omega
  have hsub:∀ z∈K.take k++y :: K.drop k,z=y∨z∈K:=fun z hz=>by
   rcases List.mem_append.1 hz with q|q
   ·exact .inr (List.mem_of_mem_take q)
   ·rcases List.mem_cons.1 q with q|q
    ·exact .inl q
    ·exact .inr (List.mem_of_mem_drop q)
  have hgr:=hg4.one p 0 (.inl (.inl rfl)) (.slice a' (n+1) c')
  refine⟨.slice a' (n+1) c',K.take k++y :: K.drop k,rfl,(unhide HPD).symm,hsub,by rw[hl,unhide HN'],⟨?_,hp.ge,Wa hp4,?_,hnp,?_⟩,?_,?_⟩
  ·refine hgr.below hp.bel hp.bel.size (fun k hk=>?_)
   rcases hk with rfl|hk
   ·exact hp.ge
   ·exact Xo (unhide HO) k hk
  ·rw[hl]
   exact ((Gr.refl w4 (fun k=>k=p)).one p 0 (.inl rfl) _).own ho4 (fun k hk e=>hnp (by rw[hk,e]))
  ·intro z hz
   rcases hsub z hz with rfl|q
   ·exact unhide HY
   ·exact hp.lk z q
  ·rw[unhide HN'];exact hgr
  ·rw[unhide HN'];exact hn4
def Zk(h:Int):List InD→List Zd→List Zd→Int×List Zd×List Zd
 | [],S,L=>(0,S,L)
 | x :: r,S,L=>match Wt (x.1,x.2.1) L with
  | none=>(7,[],[])
  | some (c,M)=>if cr c=true∧h<ch c+2 then (10,[],[]) else if Yk (ck c) x.2.2 h=false then (8,[],[]) else Zk h r (S++[c]) M
def Jo(name:Int)(i:Nat)(o:Zw)(h:Int)(r:Bool):Zd:=(name,(i:Int),o.1,o.2,h,r)
def Zy(name h:Int)(r:Bool):Nat→List Zw→List Zd→Int×List Zd
 | _,[],L=>(0,L)
 | i,o :: q,L=>if Xl (name,(i:Int)) L=true then (6,[]) else Zy name h r (i+1) q (Jm (Jo name i o h r) L)
def X2(name:Int):Nat→List Zw→List Zd→Int×List Zd
 | _,[],L=>(0,L)
 | i,o :: q,L=>match Wt (name,(i:Int)) L with
  | none=>(7,[])
  | some (c,M)=>if (cv c,ck c)=o then X2 name (i+1) q M else (7,[])
def Wu:List InD→List Zd→List Zd→Int×List Zd
 | x :: r,c :: q,L=>if pt c≠(x.1,x.2.1)∨Xl (pt c) L=true then (6,[]) else Wu r q (Jm c L)
 | _,_,L=>(0,L)
def okN(n:Int):Bool:=decide (1≤n) && decide (n≤120)
def isR(t:TxD):Bool:=decide (t.2.1.length=0)
def Wg(L:List Zd)(t:TxD):Int:=if Zn L≠0 then Zn L else Zp t
def X4(L:List Zd)(t:TxD)(name h:Int):Int:=
 if Wg L t≠0 then Wg L t else if (okN name && okH h)=false then 3 else if isR t=true∧t.1≠h then 4 else 0
def Lg(S:List Zd)(t:TxD):Int:=if Zi S - Yf t.2.2<0∧isR t=false then 9 else 0
def apD(L:List Zd)(t:TxD)(name h:Int):Int×List Zd×List Zd:=
 if X4 L t name h≠0 then (X4 L t name h,[],[])
 else
  if (Zk h t.2.1 [] L).1≠0 then ((Zk h t.2.1 [] L).1,[],[])
  else if Lg (Zk h t.2.1 [] L).2.1 t≠0 then (Lg (Zk h t.2.1 [] L).2.1 t,[],[])
  else if (Zy name h (isR t) 0 t.2.2 (Zk h t.2.1 [] L).2.2).1≠0 then ((Zy name h (isR t) 0 t.2.2 (Zk h t.2.1 [] L).2.2).1,[],[])
  else if Zn (Zy name h (isR t) 0 t.2.2 (Zk h t.2.1 [] L).2.2).2≠0 then (Zn (Zy name h (isR t) 0 t.2.2 (Zk h t.2.1 [] L).2.2).2,[],[])
  else (0,(Zy name h (isR t) 0 t.2.2 (Zk h t.2.1 [] L).2.2).2,(Zk h t.2.1 [] L).2.1)
def rvD(L:List Zd)(t:TxD)(name:Int)(S:List Zd):Int×List Zd:=
 if Wg L t≠0 then (Wg L t,[])
 else if S.length≠t.2.1.length then (4,[])
 else if (X2 name 0 t.2.2 L).1≠0 then ((X2 name 0 t.2.2 L).1,[])
 else if (Wu t.2.1 S (X2 name 0 t.2.2 L).2).1≠0 then ((Wu t.2.1 S (X2 name 0 t.2.2 L).2).1,[])
 else if Zn (Wu t.2.1 S (X2 name 0 t.2.2 L).2).2≠0 then (Zn (Wu t.2.1 S (X2 name 0 t.2.2 L).2).2,[])
 else (0,(Wu t.2.1 S (X2 name 0 t.2.2 L).2).2)
def MS.cells(s:MS):Array Value:=(s.cs.map (Value.int .i64)++([Value.int .i64 s.n,Value.int .i64 s.h,Value.bool s.f]:List Value)).toArray
theorem MS.cells_stack{s:MS}(hs:s.ok)(i:Nat)(hi:i<16):s.cells[i]? = some (.int .i64 (s.cs.getD i 0)):=by
 have hl:i<s.cs.length:=by rw[hs.1];exact hi
 simp[MS.cells,List.getElem?_append_left,hl]
theorem MS.cells_n{s:MS}(hs:s.ok):s.cells[16]? = some (.int .i64 s.n):=by
 have hl:=hs.1
 simp[MS.cells,hl]
theorem MS.cells_h{s:MS}(hs:s.ok):s.cells[17]? = some (.int .i64 s.h):=by
 have hl:=hs.1
 simp[MS.cells,hl]
theorem MS.cells_f{s:MS}(hs:s.ok):s.cells[18]? = some (.bool s.f):=by
 have hl:=hs.1
 simp[MS.cells,hl]
theorem MS.set_stack{s:MS}(hs:s.ok)(i:Nat)(hi:i<16)(x:Int):s.cells.setIfInBounds i (.int .i64 x)=MS.cells { s with cs:=s.cs.set i x }:=by
 have hl:i<(s.cs.map (Value.int .i64)).length:=by rw[List.length_map,hs.1];exact hi
 simp only[MS.cells,List.setIfInBounds_toArray,List.set_append_left _ _ hl,List.map_set]
theorem MS.set_n{s:MS}(hs:s.ok)(n:Nat):s.cells.setIfInBounds 16 (.int .i64 n)=MS.cells { s with n:=n }:=by
 have hl:(s.cs.map (Value.int .i64)).length=16:=by rw[List.length_map,hs.1]
 simp only[MS.cells,List.setIfInBounds_toArray]
 rw[List.set_append_right _ _ (by omega),hl];rfl
theorem MS.set_f{s:MS}(hs:s.ok)(b:Bool):s.cells.setIfInBounds 18 (.bool b)=MS.cells { s with f:=b }:=by
 have hl:(s.cs.map (Value.int .i64)).length=16:=by rw[List.length_map,hs.1]
 simp only[MS.cells,List.setIfInBounds_toArray]
 rw[List.set_append_right _ _ (by omega),hl];rfl
structure Mach(p:Nat)(s:MS)(W w:World):Prop where
 good:s.ok
 block:w.heap[p]? = some (.cells s.cells 360 (0,0))
 old:∀ k,k≠p→k<W.heap.size→w.heap[k]? = W.heap[k]?
 size:W.heap.size≤w.heap.size
 os:w.os=W.os
 tape:w.tape=W.tape
 output:w.output=W.output
theorem Mach.lt{p:Nat}{s:MS}{W w:World}(h:Mach p s W w):p<w.heap.size:=lt_of_block h.block
theorem Mach.cell{p:Nat}{s:MS}{W w:World}(h:Mach p s W w)(i:Nat):w.cell? ⟨p,i,none⟩=s.cells[i]?:=by simp[World.cell?,h.block]
theorem Mach.cell_n{p:Nat}{s:MS}{W w:World}(h:Mach p s W w):w.cell? ⟨p,16,none⟩=some (.int .i64 s.n):=by rw[h.cell,MS.cells_n h.good]
theorem Mach.cell_h{p:Nat}{s:MS}{W w:World}(h:Mach p s W w):w.cell? ⟨p,17,none⟩=some (.int .i64 s.h):=by rw[h.cell,MS.cells_h h.good]
theorem Mach.cell_f{p:Nat}{s:MS}{W w:World}(h:Mach p s W w):w.cell? ⟨p,18,none⟩=some (.bool s.f):=by rw[h.cell,MS.cells_f h.good]
theorem Mach.cell_s{p:Nat}{s:MS}{W w:World}(h:Mach p s W w)(i:Nat)(hi:i<16):w.cell? ⟨p,i,none⟩=some (.int .i64 (s.cs.getD i 0)):=by rw[h.cell,MS.cells_stack h.good i hi]
theorem Mach.free{p:Nat}{s:MS}{W w:World}(h:Mach p s W w)(i:Nat):w.frozen? ⟨p,i,none⟩=false:=by simp[World.frozen?,h.block]
theorem Mach.store{p:Nat}{s s':MS}{W w:World}(h:Mach p s W w)(i:Nat)(v:Value)(e:s.cells.setIfInBounds i v=s'.cells)(g:s'.ok):Mach p s' W (w.setCell ⟨p,i,none⟩ v) where
 good:=g
 block:=by
  rw[heap_setCell_same w p i s.cells 360 v h.block,e]
 old:=fun k hk hl=>by rw[heap_setCell_other w ⟨p,i,none⟩ k v hk];exact h.old k hk hl
 size:=by rw[World.size_setCell];exact h.size
 os:=h.os
 tape:=h.tape
 output:=h.output
theorem Mach.drew{p:Nat}{s:MS}{W w:World}(h:Mach p s W w):Mach p s W w.drew:=⟨h.good,h.block,h.old,h.size,h.os,h.tape,h.output⟩
theorem Mach.drewN{p:Nat}{s:MS}{W w:World}(h:Mach p s W w)(n:Nat):Mach p s W (w.drewN n):=⟨h.good,h.block,h.old,h.size,h.os,h.tape,h.output⟩
theorem Mach.alloc{p:Nat}{s:MS}{W w:World}(h:Mach p s W w)(o:Obj):Mach p s W (w.alloc o) where
 good:=h.good
 block:=by rw[Below.heap_alloc w o p h.lt];exact h.block
 old:=fun k hk hl=>by rw[Below.heap_alloc w o k (Nat.lt_of_lt_of_le hl h.size)];exact h.old k hk hl
 size:=by have:=h.size;simp;omega
 os:=h.os
 tape:=h.tape
 output:=h.output
theorem Mach.past{p:Nat}{s:MS}{W w:World}(h:Mach p s W w)(q:Addr)(hq:q.block≠p)(hl:q.block<W.heap.size):w.cell? q=W.cell? q:=World.cell?_of_block (w:=W) (h.old q.block hq hl)
theorem Mach.below{p:Nat}{s:MS}{W w:World}(h:Mach p s W w)(hp:W.heap.size≤p):Below W.heap.size W w:=
 ⟨h.os,h.tape,h.output,h.size,fun k hk=>h.old k (by omega) hk⟩
theorem Mach.trans{p:Nat}{s s':MS}{W V w:World}(h:Mach p s W V)(k:Mach p s' V w):Mach p s' W w where
 good:=k.good
 block:=k.block
 old:=fun j hj hl=>by rw[k.old j hj (Nat.lt_of_lt_of_le hl h.size)];exact h.old j hj hl
 size:=Nat.le_trans h.size k.size
 os:=k.os.trans h.os
 tape:=k.tape.trans h.tape
 output:=k.output.trans h.output
theorem Mach.self{p:Nat}{s:MS}{W w:World}(h:Mach p s W w):Mach p s w w:=⟨h.good,h.block,fun _ _ _=>rfl,Nat.le_refl _,rfl,rfl,rfl⟩
theorem Xi(n:Int)(b:Bool)(w:World)(hb:b=hOk n) :
  Calls Tryz.prog 252 #[.int .i64 n] w fun e w'=>e = .returned (.bool b)∧w=w':=by
 have HB:=hide hb
 clear hb
 go_enter Tryz.func252,Tryz.ntmps252
 go_wp2_with (go_at_call 103;refine (within_is _ _ _ b _ (unhide HB)).mono ?_;rintro e w' ⟨rfl,rfl⟩)
 go_ret
 exact⟨rfl,rfl⟩
theorem Q7(p:Nat)(s:MS)(W w:World)(hm:Mach p s W w) :
  Calls Tryz.prog 313 #[.pointer (some ⟨p,0,none⟩)] w fun e w'=>e = .returned (.tuple #[])∧Mach p s.fail W w':=by
 have c1:=hm.cell_f
 have c2:=hm.free 18
 have HM:=hide hm
 clear hm
 go_enter Tryz.func313,Tryz.ntmps313
 go_wp2
 go_end0
 exact⟨rfl,(unhide HM).store 18 _ (MS.set_f (unhide HM).good true) (unhide HM).good.fail_ok⟩
theorem Ke{s:MS}{x:Int}(h:s.n=16∨fit x=false):s.put x=s.fail:=by unfold MS.put;rw[if_pos h];rfl
theorem Kd{s:MS}{x:Int}(h1:s.n≠16)(h2:fit x=true):s.put x={ s with cs:=s.cs.set s.n x,n:=s.n+1 }:=by unfold MS.put;rw[if_neg (by simp[h1,h2])]
theorem Yv(p:Nat)(s:MS)(x:Int)(W w:World)(hm:Mach p s W w) :
  Calls Tryz.prog 303 #[.pointer (some ⟨p,0,none⟩),.int .i64 x] w fun e w'=>e = .returned (.tuple #[])∧Mach p (s.put x) W w':=by
 have hn:=hm.good.2.1
 have c1:=hm.cell_n
 have HM:=hide hm
 by_cases h1:s.n=16
 ·rw[Ke (Or.inl h1)]
  rw[h1] at c1
  clear hm hn
  go_enter Tryz.func303,Tryz.ntmps303
  go_wp2_with (go_at_call 313;refine (Q7 p s W _ (unhide HM)).mono ?_;rintro e w' ⟨rfl,hm'⟩)
  first|go_end0|(simp only[Exit.inBlock,Exit.then];refine bodyPost_ret (results_none rfl _ _ _) rfl ?_)|refine bodyPost_ret (results_none rfl _ _ _) rfl ?_
  exact⟨rfl,by assumption⟩
 ·have g1:((s.n:Int) == 16)=false:=by simp;omega
  by_cases h2:fit x=true
  ·rw[Kd h1 h2]
   have c2:=hm.cell_s s.n (by omega)
   have c3:=hm.free s.n
   have c4:=hm.free 16
   have c5:((w.setCell ⟨p,s.n,none⟩ (.int .i64 x))).cell? ⟨p,16,none⟩=some (.int .i64 s.n):=by
    rw[World.cell?_setCell_other]
    ·exact c1
    ·exact fun e=>h1 (congrArg Addr.off e)
   have g2:(s.n:Int)<16:=by omega
   have H1:=hide h1
   have H2:=hide h2
   clear hm h1 h2
   go_enter Tryz.func303,Tryz.ntmps303
   go_wp2_with (go_at_call 302;refine (Q6 _ true _ (unhide H2).symm).mono ?_;rintro e w' ⟨rfl,rfl⟩)
   go_region
   all_goals go_wp2
   all_goals go_end0
   all_goals
    refine⟨rfl,Mach.drew ?_⟩
    have hm:=unhide HM
    have g:=hm.good.put_ok x
    rw[Kd (unhide H1) (unhide H2)] at g
    have ok1:MS.ok { s with cs:=s.cs.set s.n x }:=⟨g.1,hm.good.2.1,g.2.2⟩
    exact (hm.store s.n _ (MS.set_stack hm.good s.n (by omega) x) ok1).store 16 _ (MS.set_n ok1 (s.n+1)) g
  ·have h3:fit x=false:=by simpa using h2
   rw[Ke (Or.inr h3)]
   have H3:=hide h3
   clear hm h2 h3 h1
   go_enter Tryz.func303,Tryz.ntmps303
   go_wp2_with (first|(go_at_call 302;refine (Q6 _ false _ (unhide H3).symm).mono ?_;rintro e w' ⟨rfl,rfl⟩)|(go_at_call 313;refine (Q7 p s W _ (unhide HM)).mono ?_;rintro e w' ⟨rfl,hm'⟩))
   first|go_end0|(simp only[Exit.inBlock,Exit.then];refine bodyPost_ret (results_none rfl _ _ _) rfl ?_)|refine bodyPost_ret (results_none rfl _ _ _) rfl ?_
   exact⟨rfl,by assumption⟩
theorem Dg{s:MS}(h:s.n=0):s.take=s.fail:=by unfold MS.take;rw[if_pos h];rfl
theorem De{s:MS}(h:s.n≠0):s.take={ s with n:=s.n - 1 }:=by unfold MS.take;rw[if_neg h]
theorem Ag{s:MS}(h:s.n=0):s.top=0:=by unfold MS.top;rw[if_pos h]
theorem Af{s:MS}(h:s.n≠0):s.top=s.cs.getD (s.n - 1) 0:=by unfold MS.top;rw[if_neg h]
theorem Z5(p:Nat)(s:MS)(W w:World)(hm:Mach p s W w) :
  Calls Tryz.prog 333 #[.pointer (some ⟨p,0,none⟩)] w fun e w'=>e = .returned (.int .i64 s.top)∧Mach p s.take W w':=by
 have hn:=hm.good.2.1
 have c1:=hm.cell_n
 have HM:=hide hm
 by_cases h1:s.n=0
 ·rw[Dg h1,Ag h1]
  rw[h1] at c1
  clear hm hn
  go_enter Tryz.func333,Tryz.ntmps333
  go_wp2_with (go_at_call 313;refine (Q7 p s W _ (unhide HM)).mono ?_;rintro e w' ⟨rfl,hm'⟩)
  go_ret
  exact⟨rfl,by assumption⟩
 ·obtain⟨m,hm1⟩:∃ m,s.n=m+1:=⟨s.n - 1,by omega⟩
  have e1:s.take={ s with n:=m }:=by rw[De h1,hm1];rfl
  have e2:s.top=s.cs.getD m 0:=by rw[Af h1,hm1];rfl
  rw[e1,e2]
  have g1:(((m:Int)+1) == 0)=false:=by simp;omega
  rw[hm1] at c1
  have c2:(w.setCell ⟨p,16,none⟩ (.int .i64 m)).cell? ⟨p,m,none⟩=some (.int .i64 (s.cs.getD m 0)):=by
   rw[World.cell?_setCell_other]
   ·exact hm.cell_s m (by omega)
   ·exact fun e=>absurd (congrArg Addr.off e) (by show ¬(16=m);omega)
  have c3:(w.setCell ⟨p,16,none⟩ (.int .i64 m)).cell? ⟨p,16,none⟩=some (.int .i64 m):=World.cell?_setCell_same _ _ _ hm.cell_n
  have c4:=hm.free 16
  have g2:(m:Int)<16:=by omega
  have H1:=hide hm1
  obtain⟨t,ht⟩:∃ t,t=s.cs.getD m 0:=⟨_,rfl⟩
  rw[←ht] at c2 ⊢
  clear hm h1 hm1 hn e1 e2 ht
  go_enter Tryz.func333,Tryz.ntmps333
  go_wp2
  go_quiet (fail)
  go_wp2
  go_ret
  refine⟨rfl,Mach.drewN ?_ _⟩
  have hm:=unhide HM
  have h1:=unhide H1
  exact hm.store 16 _ (MS.set_n hm.good m) ⟨hm.good.1,by show m≤16;omega,hm.good.2.2⟩
theorem Kg(p:Nat)(s:MS)(a:Option Addr)(cap:Nat)(W w:World)(hm:Mach p s W w) :
  Calls Tryz.prog 280 #[.pointer (some ⟨p,0,none⟩),.slice a 0 cap] w fun e w'=>e = .returned (.tuple #[])∧Mach p s W w':=by
 have HM:=hide hm
 clear hm
 go_enter Tryz.func280,Tryz.ntmps280
 go_wp2
 refine wp_loop_rounds 1 ?_
 rw[rounds_succ]
 go_wp2
 go_end0
 exact⟨rfl,unhide HM⟩
theorem Kf(p:Nat)(s:MS)(b off len cap:Nat)(Z:List Int)(W w:World)(hm:Mach p s W w)(hp:W.heap.size≤p)(hz:Z.length=len)(hl:len≤maxLen)
  (hb:b<W.heap.size) (hc:∀ i,i<len→W.cell? ⟨b,off+i,none⟩=some (.int .i64 (Z.getD i 0))) :
  Calls Tryz.prog 280 #[.pointer (some ⟨p,0,none⟩),.slice (some ⟨b,off,none⟩) len cap] w fun e w'=>e = .returned (.tuple #[])∧∃ s',Mach p s' W w'∧s'.h=s.h∧s'.rep=s.rep.bind (fun L=>Vk L Z):=by
 have HM:=hide hm
 have HC:=hide hc
 have HZ:=hide hz
 unfold maxLen at hl
 clear hm hc hz
 go_enter Tryz.func280,Tryz.ntmps280
 go_wp2
 go_loopw [8] (fun i wr=>∃ (k:Nat) (s':MS),k≤len∧i = .int .i64 k∧Mach p s' W wr∧s'.h=s.h∧s'.rep=s.rep.bind (fun L=>Vk L (Z.take k))) (fun i _=>len - (intOf i).toNat)
 case atStart=>exact⟨0,s,Nat.zero_le _,rfl,unhide HM,rfl,by cases s.rep <;> rfl⟩
 case round=>
  obtain⟨k,s',hk,rfl,hm,hh,hr⟩:=hrel
  have HM':=hide hm
  have HH:=hide hh
  have HR:=hide hr
  clear hh hr
  by_cases hlt:k<len
  ·have c1:wr.cell? ⟨b,off+k,none⟩=some (.int .i64 (Z.getD k 0)):=(hm.past ⟨b,off+k,none⟩ (by show b≠p;omega) hb).trans ((unhide HC) k hlt)
   obtain⟨x,hx⟩:∃ x,x=Z.getD k 0:=⟨_,rfl⟩
   rw[←hx] at c1
   have HX:=hide hx
   clear hm hx
   go_wp2_with fail
   refine (Yv p s' x W _ (unhide HM')).mono ?_
   rintro e w1 ⟨rfl,hm1⟩
   have HM1:=hide hm1
   clear hm1
   go_wp2
   go_roundw
   case rel=>
    refine⟨k+1,s'.put x,by omega,by go_num,unhide HM1,(MS.put_h _ _).trans (unhide HH),?_⟩
    have hkl:k<Z.length:=by rw[unhide HZ];exact hlt
    have ex:x=Z[k]:=by rw[unhide HX];simp[hkl]
    rw[MS.rep_put (unhide HM').good,unhide HR,List.take_succ_eq_append_getElem hkl,ex]
    cases s.rep with
    | none=>rfl
    | some L=>exact (R8 _ _ _).symm
   case measure=>simp[intOf];omega
  ·clear hm
   go_wp2
   go_end0
   have e:k=len:=by omega
   subst e
   refine⟨rfl,s',unhide HM',unhide HH,?_⟩
   rw[unhide HR,←unhide HZ,List.take_length]
theorem L4(p:Nat)(s:MS)(a:Option Addr)(len cap:Nat)(Z:List Int)(W w:World)(hm:Mach p s W w)(hp:W.heap.size≤p)(hR:RowAt W a len Z) :
  Calls Tryz.prog 280 #[.pointer (some ⟨p,0,none⟩),.slice a len cap] w fun e w'=>e = .returned (.tuple #[])∧∃ s',Mach p s' W w'∧s'.h=s.h∧s'.rep=s.rep.bind (fun L=>Vk L Z):=by
 obtain⟨hz,hl,hc⟩:=hR
 by_cases h:len=0
 ·subst h
  have e:Z=[]:=List.length_eq_zero_iff.1 hz
  subst e
  exact (Kg p s a cap W w hm).mono fun e w' ⟨x,y⟩=>⟨x,s,y,rfl,by cases s.rep <;> rfl⟩
 ·obtain⟨b,off,rfl,hcell⟩:=hc (by omega)
  exact Kf p s b off len cap Z W w hm hp hz hl (World.block_lt_of_cell? _ _ (hcell 0 (by omega))) hcell
theorem Vh(b:Bool)(w:World) :
  Calls Tryz.prog 321 #[.bool b] w fun e w'=>e = .returned (.int .i64 (b01 b))∧w=w':=by
 cases b
 all_goals
  go_enter Tryz.func321,Tryz.ntmps321
  go_wp2
  go_ret
  exact⟨rfl,rfl⟩
theorem Zcd(a b:Int)(w:World)(ha:fit a=true)(hb:fit b=true) :
  Calls Tryz.prog 318 #[.int .i64 a,.int .i64 b] w fun e w'=>e = .returned (.int .i64 (g2 5 a b))∧w=w':=by
 have h1:=(Vb a).1 ha
 have h2:=(Vb b).1 hb
 clear ha hb
 go_enter Tryz.func318,Tryz.ntmps318
 go_wp2
 go_ret
 exact⟨rfl,rfl⟩
theorem Zcc(a b:Int)(w:World)(ha:fit a=true)(hb:fit b=true) :
  Calls Tryz.prog 319 #[.int .i64 a,.int .i64 b] w fun e w'=>e = .returned (.int .i64 (g2 6 a b))∧w=w':=by
 have h1:=(Vb a).1 ha
 have h2:=(Vb b).1 hb
 clear ha hb
 go_enter Tryz.func319,Tryz.ntmps319
 go_wp2
 go_ret
 exact⟨rfl,rfl⟩
theorem Zcb(a b:Int)(w:World) :
  Calls Tryz.prog 320 #[.int .i64 a,.int .i64 b] w fun e w'=>e = .returned (.int .i64 (g2 7 a b))∧w=w':=by
 go_enter Tryz.func320,Tryz.ntmps320
 go_wp2_with (go_at_call 321;refine (Vh _ _).mono ?_;rintro e w' ⟨rfl,rfl⟩)
 go_ret
 exact⟨rfl,rfl⟩
theorem Zca(a b:Int)(w:World) :
  Calls Tryz.prog 322 #[.int .i64 a,.int .i64 b] w fun e w'=>e = .returned (.int .i64 (g2 8 a b))∧w=w':=by
 go_enter Tryz.func322,Tryz.ntmps322
 go_wp2_with (go_at_call 321;refine (Vh _ _).mono ?_;rintro e w' ⟨rfl,rfl⟩)
 go_ret
 exact⟨rfl,rfl⟩
theorem Zby(a b:Int)(w:World) :
  Calls Tryz.prog 325 #[.int .i64 a,.int .i64 b] w fun e w'=>e = .returned (.int .i64 (g2 10 a b))∧w=w':=by
 by_cases h:a=0
 ·have h1:(a != 0)=false:=by simp[h]
  have e:g2 10 a b=b01 false:=by simp[g2,h]
  rw[e]
  clear h e
  go_enter Tryz.func325,Tryz.ntmps325
  go_wp2_with (go_at_call 321;refine (Vh _ _).mono ?_;rintro e w' ⟨rfl,rfl⟩)
  go_ret
  exact⟨rfl,rfl⟩
 ·have h1:(a != 0)=true:=by simp[h]
  have e:g2 10 a b=b01 (b != 0):=by simp[g2,h1]
  rw[e]
  clear h e
  go_enter Tryz.func325,Tryz.ntmps325
  go_wp2_with (go_at_call 321;refine (Vh _ _).mono ?_;rintro e w' ⟨rfl,rfl⟩)
  go_ret
  exact⟨rfl,rfl⟩
theorem Zbz(a:Int)(w:World) :
  Calls Tryz.prog 324 #[.int .i64 a] w fun e w'=>e = .returned (.int .i64 (g1 9 a))∧w=w':=by
 go_enter Tryz.func324,Tryz.ntmps324
 go_wp2_with (go_at_call 321;refine (Vh _ _).mono ?_;rintro e w' ⟨rfl,rfl⟩)
 go_ret
 exact⟨rfl,rfl⟩
theorem Ej{k:IntKind}{a b:Int}(h:a=b):Ending.returned (.int k a) = .returned (.int k b):=by rw[h]
theorem Et(a:Int)(w:World)(ha:fit a=true) :
  Calls Tryz.prog 328 #[.int .i64 a] w fun e w'=>e = .returned (.int .i64 (g1 13 a))∧w=w':=by
 have hbd:=hide (Eu a ha)
 have h1:=(Vb a).1 ha
 clear ha
 go_enter Tryz.func328,Tryz.ntmps328
 go_wp2
 go_loop [3,6] (fun r i=>∃ k:Nat,k≤3∧i = .int .i64 k∧r = .int .i64 (Gk a k)) (fun _ i=>3 - (intOf i).toNat)
 case atStart=>exact⟨0,Nat.zero_le _,rfl,rfl⟩
 case round=>
  obtain⟨k,hk,rfl,rfl⟩:=hrel
  obtain⟨b1,b2⟩:=(unhide hbd) k
  obtain⟨m,hm⟩:∃ m,m=Gk a k:=⟨_,rfl⟩
  rw[←hm] at b1 b2 ⊢
  have HM:=hide hm
  clear hm
  by_cases hlt:k<3
  ·go_wp2
   go_round
   case rel=>
    refine⟨k+1,by omega,by go_num,?_⟩
    have:=unhide HM
    simp only[Gk,←this]
   case measure=>simp[intOf];omega
  ·go_wp2
   go_ret
   have e:k=3:=by omega
   subst e
   refine⟨Ej ?_,rfl⟩
   have:=unhide HM
   simp only[g1,Zay,←this]
   simp
theorem Bt(p:Nat)(s:MS)(n:Int)(W w:World)(hm:Mach p s W w) :
  Calls Tryz.prog 316 #[.pointer (some ⟨p,0,none⟩),.int .i64 n] w fun e w'=>e = .returned (.tuple #[])∧Mach p (s.step 4 n) W w':=by
 have HM:=hide hm
 clear hm
 go_enter Tryz.func316,Tryz.ntmps316
 go_wp2_with (go_at_call 333;refine (Z5 p s W _ (unhide HM)).mono ?_;rintro e w' ⟨rfl,hm'⟩)
 go_end0
 exact⟨rfl,by assumption⟩
theorem Sq(p:Nat)(s:MS)(n:Int)(W w:World)(hm:Mach p s W w) :
  Calls Tryz.prog 327 #[.pointer (some ⟨p,0,none⟩),.int .i64 n] w fun e w'=>e = .returned (.tuple #[])∧Mach p (s.step 12 n) W w':=by
 have c1:=hm.cell_h
 have HM:=hide hm
 clear hm
 go_enter Tryz.func327,Tryz.ntmps327
 go_wp2_with (go_at_call 303;refine (Yv p s _ W _ (unhide HM)).mono ?_;rintro e w' ⟨rfl,hm'⟩)
 go_end0
 exact⟨rfl,by assumption⟩
theorem Zah(p:Nat)(s:MS)(n:Int)(W w:World)(hm:Mach p s W w) :
  Calls Tryz.prog 314 #[.pointer (some ⟨p,0,none⟩),.int .i64 n] w fun e w'=>e = .returned (.tuple #[])∧Mach p (s.step 2 n) W w':=by
 have HM:=hide hm
 clear hm
 go_enter Tryz.func314,Tryz.ntmps314
 go_wp2_with fail
 refine (Z5 p s W _ (unhide HM)).mono ?_
 rintro e w1 ⟨rfl,hm1⟩
 have HM1:=hide hm1
 clear hm1
 go_wp2_with fail
 refine (Yv p s.take _ W _ (unhide HM1)).mono ?_
 rintro e w2 ⟨rfl,hm2⟩
 have HM2:=hide hm2
 clear hm2
 go_wp2_with fail
 refine (Yv p (s.take.put s.top) _ W _ (unhide HM2)).mono ?_
 rintro e w3 ⟨rfl,hm3⟩
 have HM3:=hide hm3
 clear hm3
 go_wp2
 go_end0
 exact⟨rfl,unhide HM3⟩
theorem Ai(p:Nat)(s:MS)(n:Int)(W w:World)(hm:Mach p s W w) :
  Calls Tryz.prog 315 #[.pointer (some ⟨p,0,none⟩),.int .i64 n] w fun e w'=>e = .returned (.tuple #[])∧Mach p (s.step 3 n) W w':=by
 have HM:=hide hm
 clear hm
 go_enter Tryz.func315,Tryz.ntmps315
 go_wp2_with fail
 refine (Z5 p s W _ (unhide HM)).mono ?_
 rintro e w1 ⟨rfl,hm1⟩
 have HM1:=hide hm1
 clear hm1
 go_wp2_with fail
 refine (Z5 p s.take W _ (unhide HM1)).mono ?_
 rintro e w2 ⟨rfl,hm2⟩
 have HM2:=hide hm2
 clear hm2
 go_wp2_with fail
 refine (Yv p s.take.take _ W _ (unhide HM2)).mono ?_
 rintro e w3 ⟨rfl,hm3⟩
 have HM3:=hide hm3
 clear hm3
 go_wp2_with fail
 refine (Yv p (s.take.take.put s.top) _ W _ (unhide HM3)).mono ?_
 rintro e w4 ⟨rfl,hm4⟩
 have HM4:=hide hm4
 clear hm4
 go_wp2
 go_end0
 exact⟨rfl,unhide HM4⟩
theorem Ly(p:Nat)(s:MS)(n:Int)(W w:World)(hm:Mach p s W w) :
  Calls Tryz.prog 326 #[.pointer (some ⟨p,0,none⟩),.int .i64 n] w fun e w'=>e = .returned (.tuple #[])∧Mach p (s.step 11 n) W w':=by
 have HM:=hide hm
 clear hm
 by_cases h:s.top=0
 ·have e0:s.step 11 n=s.take.fail:=by simp[MS.step,h]
  have h1:(s.top == 0)=true:=by simp[h]
  rw[e0]
  clear h e0
  go_enter Tryz.func326,Tryz.ntmps326
  go_wp2_with fail
  refine (Z5 p s W _ (unhide HM)).mono ?_
  rintro e w1 ⟨rfl,hm1⟩
  have HM1:=hide hm1
  clear hm1
  go_wp2_with fail
  refine (Q7 p s.take W _ (unhide HM1)).mono ?_
  rintro e w2 ⟨rfl,hm2⟩
  have HM2:=hide hm2
  clear hm2
  go_wp2
  go_end0
  exact⟨rfl,unhide HM2⟩
 ·have e0:s.step 11 n=s.take:=by simp[MS.step,h]
  have h1:(s.top == 0)=false:=by simp[h]
  rw[e0]
  clear h e0
  go_enter Tryz.func326,Tryz.ntmps326
  go_wp2_with fail
  refine (Z5 p s W _ (unhide HM)).mono ?_
  rintro e w1 ⟨rfl,hm1⟩
  have HM1:=hide hm1
  clear hm1
  go_wp2
  go_end0
  exact⟨rfl,unhide HM1⟩
end Go.Proofs.YtmomfkikogbdeaaGreatDoor
