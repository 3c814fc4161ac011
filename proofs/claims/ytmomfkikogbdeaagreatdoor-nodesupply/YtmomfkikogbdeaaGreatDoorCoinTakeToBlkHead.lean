/- The contract of take: the coin of a point, which isn't there any more. -/
import Derived.Test.YtmomfkikogbdeaaGreatDoorCoinInsertBToCoinPlace
import Derived.Test.YtmomfkikogbdeaaGreatDoorTxCheckToTxCheckD
set_option maxHeartbeats 6400000
namespace Go.Proofs.YtmomfkikogbdeaaGreatDoor
open Go.RowKit
theorem Zq{fn:Func}{p u:Tmp}{ty:TypeId}(h:fn.results=#[.cell p ty,.tmp u])(tmps:Array Value)(P:Program)(w:World) :
  (results fn tmps).run P w =
   ((asAddr (tmps.getD p undef)).run P w).andThen fun a w₁=>((loadVar ty a).run P w₁).andThen fun x w₂=>.ok (.tuple #[x,tmps.getD u undef]) w₂:=by
 simp only[results,h]
 simp[Sem.run_bind,Result.andThen]
set_option maxRecDepth 10000 in
theorem L6(w0 w:World)(p:Nat)(v:Value)(K:List CV)(q:PtD)(h:Pu w0 w p v K)(hs:Srt (K.map (·.1)))(hn:K.length≤4096)(hf:Xl q (K.map (·.1))=false) :
  Calls Tryz.prog 205 #[.pointer (some ⟨p,0,none⟩),.agg #[.int .i64 q.1,.int .i64 q.2]] w fun e w'=>e = .returned (.tuple #[zeroC,.bool false])∧Below w.heap.size w w':=by
 obtain⟨a,c,rfl,hC,hS⟩:=h.coins
 obtain⟨n,hn'⟩:∃ n,K.length=n:=⟨_,rfl⟩
 obtain⟨k,hk⟩:∃ k,pos q (K.map (·.1))=k:=⟨_,rfl⟩
 have hbox:=h.box
 rw[hn'] at hC hbox hn
 obtain⟨X,hX⟩:∃ X,X=(w.alloc (.cells #[.int .i64 q.1,.int .i64 q.2] 117)).alloc (.cells #[.int .i64 0,.int .i64 0,.int .i64 0,.slice none 0 0,.int .i64 0,.bool false] 124):=⟨_,rfl⟩
 have hbX:Below w.heap.size w X:=by rw[hX];exact bel_on (bel_new _ _) (bel_new _ _)
 have hX1:X.heap[w.heap.size+1]? = some (.cells zeroCs.toArray 124 (0,0)):=by
  rw[hX]
  have:=heap_alloc_new (w.alloc (.cells #[.int .i64 q.1,.int .i64 q.2] 117)) (.cells zeroCs.toArray 124)
  rw[show (w.alloc (.cells #[.int .i64 q.1,.int .i64 q.2] 117)).heap.size=w.heap.size+1 by simp] at this
  exact this
 have x0:X.cell? ⟨w.heap.size,0,none⟩=some (.int .i64 q.1):=by rw[hX];exact cell_later (bel_new _ _) (Zu w _ _ _).1
 have x1:X.cell? ⟨w.heap.size,1,none⟩=some (.int .i64 q.2):=by rw[hX];exact cell_later (bel_new _ _) (Zu w _ _ _).2
 have xp:X.cell? ⟨p,0,none⟩=some (.slice a n c):=cell_later hbX (Za (X:=[.slice a n c]) hbox 0 _ rfl)
 have PL:=hide (fun w' (hb:Below X.heap.size X w')=>Un a n c (K.map (·.1)) q k false w' hs (by omega) ((hC.later hbX).later hb) hk hf)
 have HBX:=hide hbX
 have HX1:=hide hX1
 clear hk hf hC hS hs hbox hbX hX1 h hn'
 go_enter Tryz.func205,Tryz.ntmps205
 go_wp2_with fail
 rw[←hX]
 clear hX
 go_region_held3 (fun w'=>Below X.heap.size X w'∧w'.cell? ⟨w.heap.size,0,none⟩=some (.int .i64 q.1)∧w'.cell? ⟨w.heap.size,1,none⟩=some (.int .i64 q.2)∧w'.cell? ⟨p,0,none⟩=some (.slice a n c))
  (first
  | exact⟨Ze _,x0,x1,xp⟩
  | (go_split_ands;refine⟨bel_on (by assumption) hbc,cell_later hbc (by assumption),cell_later hbc (by assumption),cell_later hbc (by assumption)⟩))
  (first|(go_at_call 250;go_split_ands;refine ((unhide PL) _ (by assumption)).mono ?_;rintro e w' ⟨rfl,hbc⟩))
 rename_i hH
 have hh:=(hH.1.block _ (lt_of_block (unhide HX1))).trans (unhide HX1)
 have HB:=hide (bel_on (unhide HBX) hH.1)
 have f0:=Zb hh 0
 have f1:=Zb hh 1
 have f2:=Zb hh 2
 have f3:=Zb hh 3
 have f4:=Zb hh 4
 have f5:=Zb hh 5
 have c0:=Za hh 0 _ rfl
 have c1:=Za hh 1 _ rfl
 have c2:=Za hh 2 _ rfl
 have c3:=Za hh 3 _ rfl
 have c4:=Za hh 4 _ rfl
 have c5:=Za hh 5 _ rfl
 clear hh hH
 go_wp2
 (try simp only[Exit.inBlock,Exit.then])
 refine bodyPost_ret (v:=.tuple #[zeroC,.bool false]) ?_ rfl ⟨rfl,?_⟩
 ·rw[Zq rfl]
  unfold zeroC
  go_simp
 ·exact ((((((unhide HB).setCell (Nat.le_succ _) _).setCell (Nat.le_succ _) _).setCell (Nat.le_succ _) _).setCell (Nat.le_succ _) _).setCell (Nat.le_succ _) _).setCell (Nat.le_succ _) _
theorem Wa{w:World}{p:Nat}{v u:Value}{t:TypeId}(h:w.heap[p]? = some (.cells #[v] t (0,0))):(w.setCell ⟨p,0,none⟩ u).heap[p]? = some (.cells #[u] t (0,0)):=by
 rw[setCell_eq_setRow w p 0 #[v] t (0,0) u h]
 exact setRow_heap w p _ _ t _ h
theorem Ex(K:List CV)(k:Nat)(h:k<K.length):(K.map (·.1))[k]'(by simpa using h)=K[k].1:=by simp
theorem Xn(w:World)(a b c d e f:Value)(t:TypeId):(w.alloc (.cells #[a,b,c,d,e,f] t)).heap[w.heap.size]? = some (.cells [a,b,c,d,e,f].toArray t (0,0)):=heap_alloc_new w _
set_option maxRecDepth 10000 in
theorem L5(w0 w:World)(p:Nat)(v:Value)(K:List CV)(q:PtD)(h:Pu w0 w p v K)(hs:Srt (K.map (·.1)))(hn:K.length≤4096)(hf:Xl q (K.map (·.1))=true) :
  Calls Tryz.prog 205 #[.pointer (some ⟨p,0,none⟩),.agg #[.int .i64 q.1,.int .i64 q.2]] w fun e w'=>∃ (x:CV) (v':Value) (K':List CV),e = .returned (.tuple #[cnV x.1 x.2.1 x.2.2.1 x.2.2.2,.bool true])∧Wt q (K.map (·.1))=some (x.1,K'.map (·.1))∧x∈K∧(∀ y∈K',y∈K)∧K'.length+1=K.length ∧
   Pu w0 w' p v' K'∧Gr w w' (PuS p v)∧v'.ownBlock=v.ownBlock:=by
 have hO:=h.own
 obtain⟨k,hk⟩:∃ k,pos q (K.map (·.1))=k:=⟨_,rfl⟩
 have hp:=K7 (p:=q) hs
 rw[hf,hk] at hp
 have hp2:=Eq.symm hp
 rw[Bool.and_eq_true,decide_eq_true_eq,decide_eq_true_eq,List.length_map] at hp2
 obtain⟨hkl,hke⟩:=hp2
 have hke2:pt ((K.map (·.1))[k]'(by simpa using hkl))=q:=by
  rw[List.getElem?_eq_getElem (by simpa using hkl),Option.map_some,Option.some.injEq] at hke;exact hke
 have hT:=Ah (p:=q) hs (by rw[hk];simpa using hkl) (by simp only[hk];exact hke2)
 simp only[hk] at hT
 rw[Ex K k hkl,←List.map_take,←List.map_drop,←List.map_append] at hT
 obtain⟨a,c,rfl,hC,hS⟩:=h.coins
 obtain⟨g,rfl⟩:∃ g,a=some ⟨g,0,none⟩:=by
  rcases hO.2 with ⟨_,e⟩|⟨g,_,_,e,_⟩
  ·omega
  ·simp only[Value.slice.injEq] at e;exact⟨g,e.1⟩
 obtain⟨n,hn'⟩:∃ n,K.length=n:=⟨_,rfl⟩
 have hbox:=h.box
 have hgp:g≠p:=fun e=>h.ne (by rw[e];rfl)
 have hbg:w0.heap.size≤g:=Xo hO g rfl
 obtain⟨x,hx⟩:∃ x,K[k]=x:=⟨_,rfl⟩
 have hxm:x∈K:=by rw[←hx];exact List.getElem_mem hkl
 obtain⟨f0,f1,f2,f3,f4,f5⟩:=Q5 K k hkl
 rw[hx] at f0 f1 f2 f3 f4 f5 hT
 rw[hn'] at hC hbox hn hkl hO
 have cg:∀ j u,j<n*6→(Zh K)[j]? = some u→w.cell? ⟨g,j,none⟩=some u:=fun j u hj hu=>by rw[World.ownsRow.cellAt hO j hj];exact hu
 obtain⟨X,hX⟩:∃ X,X=(w.alloc (.cells #[.int .i64 q.1,.int .i64 q.2] 117)).alloc (.cells #[.int .i64 0,.int .i64 0,.int .i64 0,.slice none 0 0,.int .i64 0,.bool false] 124):=⟨_,rfl⟩
 have hbX:Below w.heap.size w X:=by rw[hX];exact bel_on (bel_new _ _) (bel_new _ _)
 have hX1:X.heap[w.heap.size+1]? = some (.cells zeroCs.toArray 124 (0,0)):=by
  rw[hX]
  have:=heap_alloc_new (w.alloc (.cells #[.int .i64 q.1,.int .i64 q.2] 117)) (.cells zeroCs.toArray 124)
  rw[show (w.alloc (.cells #[.int .i64 q.1,.int .i64 q.2] 117)).heap.size=w.heap.size+1 by simp] at this
  exact this
 have x0:X.cell? ⟨w.heap.size,0,none⟩=some (.int .i64 q.1):=by rw[hX];exact cell_later (bel_new _ _) (Zu w _ _ _).1
 have x1:X.cell? ⟨w.heap.size,1,none⟩=some (.int .i64 q.2):=by rw[hX];exact cell_later (bel_new _ _) (Zu w _ _ _).2
 have xp:X.cell? ⟨p,0,none⟩=some (.slice (some ⟨g,0,none⟩) n c):=cell_later hbX (Za (X:=[.slice (some ⟨g,0,none⟩) n c]) hbox 0 _ rfl)
 have PL:=hide (fun w' (hb:Below X.heap.size X w')=>Un (some ⟨g,0,none⟩) n c (K.map (·.1)) q k true w' hs (by omega) ((hC.later hbX).later hb) hk hf)
 have D0:=hide (cg _ _ (by omega) f0)
 have D1:=hide (cg _ _ (by omega) f1)
 have D2:=hide (cg _ _ (by omega) f2)
 have D3:=hide (cg _ _ (by omega) f3)
 have D4:=hide (cg _ _ (by omega) f4)
 have D5:=hide (cg _ _ (by omega) f5)
 have HBX:=hide hbX
 have HX1:=hide hX1
 have HO:=hide hO
 have HT:=hide hT
 have HP:=hide h
 have HBOX:=hide hbox
 have HXM:=hide hxm
 have HN':=hide hn'
 have hpw:p<w.heap.size:=h.lt
 have hgw:g<w.heap.size:=(hO.lt g rfl).2
 clear hk hf hC hS hs hbox hbX hX1 h hO hT hke hke2 hp f0 f1 f2 f3 f4 f5 cg hx hxm hn'
 go_enter Tryz.func205,Tryz.ntmps205
 go_wp2_with fail
 rw[←hX]
 clear hX
 go_region_held3 (fun w'=>Below X.heap.size X w'∧w'.cell? ⟨w.heap.size,0,none⟩=some (.int .i64 q.1)∧w'.cell? ⟨w.heap.size,1,none⟩=some (.int .i64 q.2)∧w'.cell? ⟨p,0,none⟩=some (.slice (some ⟨g,0,none⟩) n c))
  (first
  | exact⟨Ze _,x0,x1,xp⟩
  | (go_split_ands;refine⟨bel_on (by assumption) hbc,cell_later hbc (by assumption),cell_later hbc (by assumption),cell_later hbc (by assumption)⟩))
  (first|(go_at_call 250;go_split_ands;refine ((unhide PL) _ (by assumption)).mono ?_;rintro e w' ⟨rfl,hbc⟩))
 rename_i hH
 have hb2:=bel_on (unhide HBX) hH.1
 have hh2:=(hH.1.block _ (lt_of_block (unhide HX1))).trans (unhide HX1)
 have d0:=cell_later hb2 (unhide D0)
 have d1:=cell_later hb2 (unhide D1)
 have d2:=cell_later hb2 (unhide D2)
 have d3:=cell_later hb2 (unhide D3)
 have d4:=cell_later hb2 (unhide D4)
 have d5:=cell_later hb2 (unhide D5)
 have xp2:=hH.2.2.2
 have hpl:=World.block_lt_of_cell? _ _ xp2
 have hkI:(k:Int)<(n:Int):=by omega
 have hw1:IntKind.i64.wrap ((k:Int)+1)=(k:Int)+1:=by rw[IntKind.wrap_i64];omega
 obtain⟨Y,hY⟩:∃ Y,Y=w'.alloc (.cells #[.int .i64 x.1.1,.int .i64 x.1.2.1,.int .i64 (cv x.1),.slice x.2.1 x.2.2.1 x.2.2.2,.int .i64 (ch x.1),.bool (cr x.1)] 124):=⟨_,rfl⟩
 have hbY:Below w'.heap.size w' Y:=by rw[hY];exact bel_new _ _
 have hy:Y.heap[w'.heap.size]? = some (.cells [.int .i64 x.1.1,.int .i64 x.1.2.1,.int .i64 (cv x.1),.slice x.2.1 x.2.2.1 x.2.2.2,.int .i64 (ch x.1),.bool (cr x.1)].toArray 124 (0,0)):=by rw[hY];exact Xn _ _ _ _ _ _ _ _
 have hOY:Y.ownsRow w0.heap.size 124 6 (.slice (some ⟨g,0,none⟩) n c) n (Zh K):=(Gr.of (S:=fun _=>False) (bel_on hb2 hbY)).own (unhide HO) (fun _ _ q=>q)
 have DEL:=Su w0.heap.size g n c k (k+1) K Y hkl rfl (unhide HN') hOY
 rw[show ((k+1:Nat):Int)=(k:Int)+1 by omega] at DEL
 have HDEL:=hide DEL
 have yp:=cell_later hbY xp2
 have hpl2:=World.block_lt_of_cell? _ _ yp
 have HBY:=hide (bel_on hb2 hbY)
 have HHY:=hide ((hbY.block _ (lt_of_block hh2)).trans hh2)
 have HY6:=hide hy
 have hsw:w.heap.size+1<w'.heap.size:=lt_of_block hh2
 clear hH hbc hb2 hh2 xp x0 x1 hbY hy hOY DEL
 go_wp2_with fail
 rw[←hY]
 clear hY
 go_wp2_with fail
 refine (unhide HDEL).mono ?_
 rintro e w4 ⟨rfl,hown4,hgr4⟩
 have hp4:=(hgr4.block p (by omega) (by simp;exact fun e=>hgp e.symm)).trans (((unhide HBY).block p hpw).trans (unhide HBOX))
 have hz4:=(hgr4.block (w.heap.size+1) (lt_of_block (unhide HHY)) (by simp;omega)).trans (unhide HHY)
 have hy4:=(hgr4.block w'.heap.size (lt_of_block (unhide HY6)) (by simp;omega)).trans (unhide HY6)
 have p4:=Za (X:=[.slice (some ⟨g,0,none⟩) n c]) hp4 0 _ rfl
 have p4f:=Zb hp4 0
 have e0:=Za hy4 0 _ rfl
 have e1:=Za hy4 1 _ rfl
 have e2:=Za hy4 2 _ rfl
 have e3:=Za hy4 3 _ rfl
 have e4:=Za hy4 4 _ rfl
 have e5:=Za hy4 5 _ rfl
 have z0:=Za hz4 0 _ rfl
 have z1:=Za hz4 1 _ rfl
 have z2:=Za hz4 2 _ rfl
 have z3:=Za hz4 3 _ rfl
 have z4:=Za hz4 4 _ rfl
 have z5:=Za hz4 5 _ rfl
 have y0:=Zb hz4 0
 have y1:=Zb hz4 1
 have y2:=Zb hz4 2
 have y3:=Zb hz4 3
 have y4:=Zb hz4 4
 have y5:=Zb hz4 5
 have n1:¬(w'.heap.size=p):=by omega
 have n2:¬(p=w'.heap.size):=by omega
 have n3:¬(w.heap.size+1=p):=by omega
 have n4:¬(p=w.heap.size+1):=by omega
 have n5:¬(w'.heap.size=w.heap.size+1):=by omega
 have n6:¬(w.heap.size+1=w'.heap.size):=by omega
 have GA:Hid (Gr w w4 (PuS p (.slice (some ⟨g,0,none⟩) n c))):=(Gr.of (unhide HBY)).grown hgr4 (fun k hk=>.inl (.inr hk))
 have GS:Hid (∀ k,PuS p (.slice (some ⟨g,0,none⟩) n c) k→w0.heap.size≤k):=fun k hk=>by
  rcases hk with rfl|hk
  ·exact (unhide HP).ge
  ·cases hk;exact hbg
 have GO:Hid (∀ k,(Value.slice (some ⟨g,0,none⟩) (n - 1) c).ownBlock=some k→¬(k=p∨k=w.heap.size+1)):=fun k hk=>by
  cases hk
  rintro (e|e)
  ·exact hgp e
  ·have e2:g=w.heap.size+1:=e
   omega
 have HO4:=hide hown4
 have HP4:=hide hp4
 have hlt4:=lt_of_block hy4
 have hlt4p:p<w4.heap.size:=lt_of_block hp4
 clear hgr4 hown4 hp4 hz4 hy4 d0 d1 d2 d3 d4 d5 yp xp2
 go_wp2
 (try simp only[Exit.inBlock,Exit.then])
 refine bodyPost_ret (v:=.tuple #[cnV x.1 x.2.1 x.2.2.1 x.2.2.2,.bool true]) ?_ rfl ⟨x,.slice (some ⟨g,0,none⟩) (n - 1) c,K.take k++K.drop (k+1),rfl,unhide HT,unhide HXM,?_,?_,?_,?_,rfl⟩
 ·rw[Zq rfl]
  unfold cnV
  go_simp
 ·exact fun y hy=>(List.mem_append.1 hy).elim List.mem_of_mem_take List.mem_of_mem_drop
 ·have:=unhide HN'
  simp only[List.length_append,List.length_take,List.length_drop]
  omega
 ·have hl:(K.take k++K.drop (k+1)).length=n - 1:=by
   have:=unhide HN'
   simp only[List.length_append,List.length_take,List.length_drop]
   omega
  have hp:=unhide HP
  refine⟨?_,hp.ge,?_,?_,fun e=>hgp (by cases e;rfl),fun y hy=>hp.lk y ((List.mem_append.1 hy).elim List.mem_of_mem_take List.mem_of_mem_drop)⟩
  ·exact (((unhide GA).one p 0 (.inl (.inl rfl)) _).six (w.heap.size+1) (.inr (Nat.le_succ _)) _ _ _ _ _ _).below hp.bel hp.bel.size (unhide GS)
  ·exact ((Gr.refl _ (fun k=>k=w.heap.size+1)).six (w.heap.size+1) (.inl rfl) _ _ _ _ _ _).heap (Wa (unhide HP4)) n4
  ·rw[hl]
   exact (((Gr.refl w4 (fun k=>k=p∨k=w.heap.size+1)).one p 0 (.inl (.inl rfl)) _).six (w.heap.size+1) (.inl (.inr rfl)) _ _ _ _ _ _).own (unhide HO4) (unhide GO)
 ·exact ((unhide GA).one p 0 (.inl (.inl rfl)) _).six (w.heap.size+1) (.inr (Nat.le_succ _)) _ _ _ _ _ _
abbrev Zg:=Int×Int×Int×Int×List TxD
def TxAt(w:World)(b o:Nat)(t:TxD):Prop:=
 w.cell? ⟨b,o,none⟩=some (.int .i64 t.1)∧(∃ a n c,w.cell? ⟨b,o+1,none⟩=some (.slice a n c)∧InsAt w a n t.2.1∧SlOk a n c)∧(∃ a n c,w.cell? ⟨b,o+2,none⟩=some (.slice a n c)∧OutsAt w a n t.2.2∧SlOk a n c)
theorem TxAt.kept:Ga TxAt:=fun _ _ _ _ _ hb h=>by
 obtain⟨h1,⟨a,n,c,h2,h3,h4⟩,a',n',c',h5,h6,h7⟩:=h
 exact⟨cell_later hb h1,⟨a,n,c,cell_later hb h2,h3.later hb,h4⟩,a',n',c',cell_later hb h5,h6.later hb,h7⟩
def TxsAt(w:World)(a:Option Addr)(len:Nat)(l:List TxD):Prop:=RowsAt TxAt 3 w a len l
theorem TxsAt.later{w w':World}{a:Option Addr}{len:Nat}{l:List TxD}(h:TxsAt w a len l)(hb:Below w.heap.size w w'):TxsAt w' a len l:=RowsAt.later TxAt.kept h hb
def Xy(p h k n:Int):Bool:=(decide (0≤p) && decide (p≤120)) && ((decide (1≤h) && decide (h≤1000)) && ((decide (1≤k) && decide (k≤1000)) && (decide (0≤n) && decide (n≤1000000000))))
def Ul(t:TxD)(i h:Int):Bool:=if 0<i then !decide (t.2.1.length=0) else decide (t.2.1.length=0) && decide (t.1=h)
def Y7(h:Int):Nat→List TxD→Int
 | _,[]=>0
 | i,t :: r=>if Zp t≠0 then Zp t else if Ul t i h=false then 4 else Y7 h (i+1) r
def Yg(b:Zg):Int:=if Xy b.1 b.2.1 b.2.2.1 b.2.2.2.1=false then 3 else if 4<b.2.2.2.2.length then 2 else if b.2.2.2.2.length=0 then 4 else Y7 b.2.1 0 b.2.2.2.2
theorem Cg(h:Int)(T:List TxD)(k:Nat)(hk:k<T.length):Y7 h k (T.drop k)=if Zp T[k]≠0 then Zp T[k] else if Ul T[k] k h=false then 4 else Y7 h (k+1) (T.drop (k+1)):=by
 rw[List.drop_eq_getElem_cons hk];rfl
theorem Ft(h:Int)(T:List TxD)(k:Nat)(hk:T.length≤k):Y7 h k (T.drop k)=0:=by
 rw[List.drop_of_length_le hk];rfl
theorem Zl(w:World)(a b c d e:Value)(t:TypeId):(w.alloc (.cells #[a,b,c,d,e] t)).heap[w.heap.size]? = some (.cells [a,b,c,d,e].toArray t (0,0)):=heap_alloc_new w _
theorem Zz{fn:Func}{p:Tmp}{ty:TypeId}(h:fn.results=#[.cell p ty])(tmps:Array Value)(P:Program)(w:World) :
  (results fn tmps).run P w=((asAddr (tmps.getD p undef)).run P w).andThen fun a w₁=>(loadVar ty a).run P w₁:=by
 simp only[results,h]
 simp[Sem.run_bind,Result.andThen]
set_option maxRecDepth 10000 in
theorem Py(p h k n:Int)(a:Option Addr)(m c:Nat)(w:World) :
  Calls Tryz.prog 104 #[.agg #[.int .i64 p,.int .i64 h,.int .i64 k,.int .i64 n,.slice a m c]] w fun e w'=>e = .returned (.agg #[.int .i64 p,.int .i64 h,.int .i64 k,.int .i64 n])∧Below w.heap.size w w':=by
 have HB:=hide (bel_on (bel_new w (.cells #[.int .i64 p,.int .i64 h,.int .i64 k,.int .i64 n,.slice a m c] 39)) (bel_new _ (.cells #[.int .i64 p,.int .i64 h,.int .i64 k,.int .i64 n] 187)))
 go_enter Tryz.func104,Tryz.ntmps104
 go_wp2
 (try simp only[Exit.inBlock,Exit.then])
 refine bodyPost_ret (v:=.agg #[.int .i64 p,.int .i64 h,.int .i64 k,.int .i64 n]) ?_ rfl ⟨rfl,?_⟩
 ·rw[Zz rfl]
  go_simp
 ·exact unhide HB
theorem Do(h:Int)(ai ao:Option Addr)(ni ci no co:Nat)(I:List InD)(O:List Zw)(i:Nat)(ht:Int)(o:Bool)(w:World)(hI:I.length=ni)(ho:Ul (h,I,O) i ht=o) :
  Calls Tryz.prog 153 #[.agg #[.int .i64 h,.slice ai ni ci,.slice ao no co],.int .i64 i,.int .i64 ht] w fun e w'=>e = .returned (.bool o)∧Below w.heap.size w w':=by
 have HB:=hide (bel_new w (.cells #[.int .i64 h,.slice ai ni ci,.slice ao no co] 59))
 unfold Ul at ho
 simp only at ho
 rw[hI] at ho
 clear hI
 by_cases h1:i=0
 ·subst h1
  rw[if_neg (by decide)] at ho
  by_cases h2:ni=0
  ·subst h2
   by_cases h3:h=ht
   ·subst h3
    obtain rfl:true=o:=by rw[←ho];simp
    clear ho
    go_enter Tryz.func153,Tryz.ntmps153
    go_wp2
    go_ret
    exact⟨rfl,unhide HB⟩
   ·obtain rfl:false=o:=by rw[←ho];simp[h3]
    have g:(h == ht)=false:=by simp[h3]
    clear ho h3
    go_enter Tryz.func153,Tryz.ntmps153
    go_wp2
    go_ret
    exact⟨by rw[←g];rfl,unhide HB⟩
  ·obtain rfl:false=o:=by rw[←ho];simp[h2]
   have g:((ni:Int) == 0)=false:=by simp[h2]
   clear ho
   go_enter Tryz.func153,Tryz.ntmps153
   go_wp2
   go_ret
   exact⟨rfl,unhide HB⟩
 ·have hi:0<(i:Int):=by omega
  rw[if_pos hi] at ho
  by_cases h2:ni=0
  ·subst h2
   obtain rfl:false=o:=by rw[←ho];simp
   clear ho
   go_enter Tryz.func153,Tryz.ntmps153
   go_wp2
   go_ret
   exact⟨rfl,unhide HB⟩
  ·obtain rfl:true=o:=by rw[←ho];simp[h2]
   have g:((ni:Int) == 0)=false:=by simp[h2]
   clear ho
   go_enter Tryz.func153,Tryz.ntmps153
   go_wp2
   go_ret
   exact⟨rfl,unhide HB⟩
theorem Vq(a b c d:Value)(w:World) :
  (Instr.index 187 (.agg #[a,b,c,d]) (.int .i64 0)).run Tryz.prog w = .ok a w∧(Instr.index 187 (.agg #[a,b,c,d]) (.int .i64 1)).run Tryz.prog w = .ok b w ∧
  (Instr.index 187 (.agg #[a,b,c,d]) (.int .i64 2)).run Tryz.prog w = .ok c w∧(Instr.index 187 (.agg #[a,b,c,d]) (.int .i64 3)).run Tryz.prog w = .ok d w:=by
 refine⟨?_,?_,?_,?_⟩ <;> kernel_rfl
theorem Yd(n lo hi:Int)(b:Bool)(w:World)(hb:(decide (lo≤n) && decide (n≤hi))=b) :
  Calls Tryz.prog 103 #[.int .i64 n,.int .i64 lo,.int .i64 hi] w fun e w'=>e = .returned (.bool b)∧Below w.heap.size w w':=
 (within_is n lo hi b w hb.symm).mono fun _ _ ⟨h1,h2⟩=>⟨h1,h2 ▸ Below.refl _ _⟩
theorem Jv(w:World)(a b c d:Value)(t:TypeId):(w.alloc (.cells #[a,b,c,d] t)).heap[w.heap.size]? = some (.cells [a,b,c,d].toArray t (0,0)):=heap_alloc_new w _
set_option maxRecDepth 100000 in
theorem J8(p h k n:Int)(a:Option Addr)(m c:Nat)(o:Bool)(w:World)(ho:Xy p h k n=o) :
  Calls Tryz.prog 151 #[.agg #[.int .i64 p,.int .i64 h,.int .i64 k,.int .i64 n,.slice a m c]] w fun e w'=>e = .returned (.bool o)∧Below w.heap.size w w':=by
 obtain⟨X,hX⟩:∃ X,X=((w.alloc (.cells #[.int .i64 p,.int .i64 h,.int .i64 k,.int .i64 n,.slice a m c] 39)).alloc (.cells #[.int .i64 0,.int .i64 1,.int .i64 1,.int .i64 0] 187)).alloc (.cells #[.int .i64 120,.int .i64 1000,.int .i64 1000,.int .i64 1000000000] 187):=⟨_,rfl⟩
 have hbX:Below w.heap.size w X:=by rw[hX];exact bel_on (bel_on (bel_new _ _) (bel_new _ _)) (bel_new _ _)
 have hL:X.heap[w.heap.size+1]? = some (.cells [.int .i64 0,.int .i64 1,.int .i64 1,.int .i64 0].toArray 187 (0,0)):=by
  rw[hX,Below.heap_alloc _ _ _ (by simp)]
  have:=Jv (w.alloc (.cells #[.int .i64 p,.int .i64 h,.int .i64 k,.int .i64 n,.slice a m c] 39)) (.int .i64 0) (.int .i64 1) (.int .i64 1) (.int .i64 0) 187
  rw[show (w.alloc (.cells #[.int .i64 p,.int .i64 h,.int .i64 k,.int .i64 n,.slice a m c] 39)).heap.size=w.heap.size+1 by simp] at this
  exact this
 have hH:X.heap[w.heap.size+2]? = some (.cells [.int .i64 120,.int .i64 1000,.int .i64 1000,.int .i64 1000000000].toArray 187 (0,0)):=by
  rw[hX]
  have:=Jv ((w.alloc (.cells #[.int .i64 p,.int .i64 h,.int .i64 k,.int .i64 n,.slice a m c] 39)).alloc (.cells #[.int .i64 0,.int .i64 1,.int .i64 1,.int .i64 0] 187)) (.int .i64 120) (.int .i64 1000) (.int .i64 1000) (.int .i64 1000000000) 187
  rw[show ((w.alloc (.cells #[.int .i64 p,.int .i64 h,.int .i64 k,.int .i64 n,.slice a m c] 39)).alloc (.cells #[.int .i64 0,.int .i64 1,.int .i64 1,.int .i64 0] 187)).heap.size=w.heap.size+2 by simp] at this
  exact this
 have C:=hide (Py p h k n a m c X)
 have HBX:=hide hbX
 have HL:=hide hL
 have HH:=hide hH
 have hi0:=fun w=>(Vq (.int .i64 p) (.int .i64 h) (.int .i64 k) (.int .i64 n) w).1
 have hi1:=fun w=>(Vq (.int .i64 p) (.int .i64 h) (.int .i64 k) (.int .i64 n) w).2.1
 have hi2:=fun w=>(Vq (.int .i64 p) (.int .i64 h) (.int .i64 k) (.int .i64 n) w).2.2.1
 have hi3:=fun w=>(Vq (.int .i64 p) (.int .i64 h) (.int .i64 k) (.int .i64 n) w).2.2.2
 unfold Xy at ho
 clear hbX hL hH
 go_enter Tryz.func151,Tryz.ntmps151
 go_wp2_with fail
 rw[←hX]
 clear hX
 go_wp2_with fail
 refine (unhide C).mono ?_
 rintro e w1 ⟨rfl,hb1⟩
 have HB1:=hide (bel_on (unhide HBX) hb1)
 have hl1:=(hb1.block _ (lt_of_block (unhide HL))).trans (unhide HL)
 have hh1:=(hb1.block _ (lt_of_block (unhide HH))).trans (unhide HH)
 have lo0:=Za hl1 0 _ rfl
 have up0:=Za hh1 0 _ rfl
 have lo1:=Za hl1 1 _ rfl
 have up1:=Za hh1 1 _ rfl
 have lo2:=Za hl1 2 _ rfl
 have up2:=Za hh1 2 _ rfl
 have lo3:=Za hl1 3 _ rfl
 have up3:=Za hh1 3 _ rfl
 have ll0:=lt_of_block hl1
 have lh0:=lt_of_block hh1
 clear hb1 hl1 hh1 C HL HH HBX
 go_wp2
 have bq0:Below w1.heap.size w1 w1:=Below.refl _ _
 refine wp_loop_rounds 5 ?_
 cases q0:(decide ((0:Int)≤p) && decide (p≤120)) with
 | false=>
  rw[q0] at ho
  have CC:=hide (fun W=>Yd p 0 120 false W q0)
  clear q0
  obtain rfl:false=o:=by rw[←ho];rfl
  clear ho
  rw[rounds_succ]
  go_wp2_with fail
  go_region_held3 (fun W'=>Below w1.heap.size w1 W'∧W'.cell? ⟨w.heap.size+1,0,none⟩=some (.int .i64 0)∧W'.cell? ⟨w.heap.size+2,0,none⟩=some (.int .i64 120)∧W'.cell? ⟨w.heap.size+1,1,none⟩=some (.int .i64 1)∧W'.cell? ⟨w.heap.size+2,1,none⟩=some (.int .i64 1000)∧W'.cell? ⟨w.heap.size+1,2,none⟩=some (.int .i64 1)∧W'.cell? ⟨w.heap.size+2,2,none⟩=some (.int .i64 1000)∧W'.cell? ⟨w.heap.size+1,3,none⟩=some (.int .i64 0)∧W'.cell? ⟨w.heap.size+2,3,none⟩=some (.int .i64 1000000000))
   (first
   | exact⟨bel_on bq0 (Ze _),lo0,up0,lo1,up1,lo2,up2,lo3,up3⟩
   | (go_split_ands;refine⟨bel_on (by assumption) hbc,cell_later hbc (by assumption),cell_later hbc (by assumption),cell_later hbc (by assumption),cell_later hbc (by assumption),cell_later hbc (by assumption),cell_later hbc (by assumption),cell_later hbc (by assumption),cell_later hbc (by assumption)⟩))
   (first|(go_at_call 103;refine ((unhide CC) _).mono ?_;rintro e w' ⟨rfl,hbc⟩))
  rename_i hq
  have HBF:=hide (bel_on (unhide HB1) hq.1)
  clear hq
  go_wp2
  go_ret
  exact⟨rfl,unhide HBF⟩
 | true=>
  rw[q0] at ho
  have CC:=hide (fun W=>Yd p 0 120 true W q0)
  clear q0
  rw[rounds_succ]
  go_wp2_with fail
  go_region_held3 (fun W'=>Below w1.heap.size w1 W'∧W'.cell? ⟨w.heap.size+1,0,none⟩=some (.int .i64 0)∧W'.cell? ⟨w.heap.size+2,0,none⟩=some (.int .i64 120)∧W'.cell? ⟨w.heap.size+1,1,none⟩=some (.int .i64 1)∧W'.cell? ⟨w.heap.size+2,1,none⟩=some (.int .i64 1000)∧W'.cell? ⟨w.heap.size+1,2,none⟩=some (.int .i64 1)∧W'.cell? ⟨w.heap.size+2,2,none⟩=some (.int .i64 1000)∧W'.cell? ⟨w.heap.size+1,3,none⟩=some (.int .i64 0)∧W'.cell? ⟨w.heap.size+2,3,none⟩=some (.int .i64 1000000000))
   (first
   | exact⟨bel_on bq0 (Ze _),lo0,up0,lo1,up1,lo2,up2,lo3,up3⟩
   | (go_split_ands;refine⟨bel_on (by assumption) hbc,cell_later hbc (by assumption),cell_later hbc (by assumption),cell_later hbc (by assumption),cell_later hbc (by assumption),cell_later hbc (by assumption),cell_later hbc (by assumption),cell_later hbc (by assumption),cell_later hbc (by assumption)⟩))
   (first|(go_at_call 103;refine ((unhide CC) _).mono ?_;rintro e w' ⟨rfl,hbc⟩))
  rename_i hq
  have ll:=Nat.lt_of_lt_of_le ll0 hq.1.size
  have lh:=Nat.lt_of_lt_of_le lh0 hq.1.size
  obtain⟨bq1,lo0,up0,lo1,up1,lo2,up2,lo3,up3⟩:=hq
  rw[Bool.true_and] at ho
  go_wp2
  cases q1:(decide ((1:Int)≤h) && decide (h≤1000)) with
  | false=>
   rw[q1] at ho
   have CC:=hide (fun W=>Yd h 1 1000 false W q1)
   clear q1
   obtain rfl:false=o:=by rw[←ho];rfl
   clear ho
   rw[rounds_succ]
   go_wp2_with fail
   go_region_held3 (fun W'=>Below w1.heap.size w1 W'∧W'.cell? ⟨w.heap.size+1,0,none⟩=some (.int .i64 0)∧W'.cell? ⟨w.heap.size+2,0,none⟩=some (.int .i64 120)∧W'.cell? ⟨w.heap.size+1,1,none⟩=some (.int .i64 1)∧W'.cell? ⟨w.heap.size+2,1,none⟩=some (.int .i64 1000)∧W'.cell? ⟨w.heap.size+1,2,none⟩=some (.int .i64 1)∧W'.cell? ⟨w.heap.size+2,2,none⟩=some (.int .i64 1000)∧W'.cell? ⟨w.heap.size+1,3,none⟩=some (.int .i64 0)∧W'.cell? ⟨w.heap.size+2,3,none⟩=some (.int .i64 1000000000))
    (first
    | exact⟨bel_on bq1 (Ze _),lo0,up0,lo1,up1,lo2,up2,lo3,up3⟩
    | (go_split_ands;refine⟨bel_on (by assumption) hbc,cell_later hbc (by assumption),cell_later hbc (by assumption),cell_later hbc (by assumption),cell_later hbc (by assumption),cell_later hbc (by assumption),cell_later hbc (by assumption),cell_later hbc (by assumption),cell_later hbc (by assumption)⟩))
    (first|(go_at_call 103;refine ((unhide CC) _).mono ?_;rintro e w' ⟨rfl,hbc⟩))
   rename_i hq
   have HBF:=hide (bel_on (unhide HB1) hq.1)
   clear hq
   go_wp2
   go_ret
   exact⟨rfl,unhide HBF⟩
  | true=>
   rw[q1] at ho
   have CC:=hide (fun W=>Yd h 1 1000 true W q1)
   clear q1
   rw[rounds_succ]
   go_wp2_with fail
   go_region_held3 (fun W'=>Below w1.heap.size w1 W'∧W'.cell? ⟨w.heap.size+1,0,none⟩=some (.int .i64 0)∧W'.cell? ⟨w.heap.size+2,0,none⟩=some (.int .i64 120)∧W'.cell? ⟨w.heap.size+1,1,none⟩=some (.int .i64 1)∧W'.cell? ⟨w.heap.size+2,1,none⟩=some (.int .i64 1000)∧W'.cell? ⟨w.heap.size+1,2,none⟩=some (.int .i64 1)∧W'.cell? ⟨w.heap.size+2,2,none⟩=some (.int .i64 1000)∧W'.cell? ⟨w.heap.size+1,3,none⟩=some (.int .i64 0)∧W'.cell? ⟨w.heap.size+2,3,none⟩=some (.int .i64 1000000000))
    (first
    | exact⟨bel_on bq1 (Ze _),lo0,up0,lo1,up1,lo2,up2,lo3,up3⟩
    | (go_split_ands;refine⟨bel_on (by assumption) hbc,cell_later hbc (by assumption),cell_later hbc (by assumption),cell_later hbc (by assumption),cell_later hbc (by assumption),cell_later hbc (by assumption),cell_later hbc (by assumption),cell_later hbc (by assumption),cell_later hbc (by assumption)⟩))
    (first|(go_at_call 103;refine ((unhide CC) _).mono ?_;rintro e w' ⟨rfl,hbc⟩))
   rename_i hq
   have ll:=Nat.lt_of_lt_of_le ll0 hq.1.size
   have lh:=Nat.lt_of_lt_of_le lh0 hq.1.size
   obtain⟨bq2,lo0,up0,lo1,up1,lo2,up2,lo3,up3⟩:=hq
   rw[Bool.true_and] at ho
   go_wp2
   cases q2:(decide ((1:Int)≤k) && decide (k≤1000)) with
   | false=>
    rw[q2] at ho
    have CC:=hide (fun W=>Yd k 1 1000 false W q2)
    clear q2
    obtain rfl:false=o:=by rw[←ho];rfl
    clear ho
    rw[rounds_succ]
    go_wp2_with fail
    go_region_held3 (fun W'=>Below w1.heap.size w1 W'∧W'.cell? ⟨w.heap.size+1,0,none⟩=some (.int .i64 0)∧W'.cell? ⟨w.heap.size+2,0,none⟩=some (.int .i64 120)∧W'.cell? ⟨w.heap.size+1,1,none⟩=some (.int .i64 1)∧W'.cell? ⟨w.heap.size+2,1,none⟩=some (.int .i64 1000)∧W'.cell? ⟨w.heap.size+1,2,none⟩=some (.int .i64 1)∧W'.cell? ⟨w.heap.size+2,2,none⟩=some (.int .i64 1000)∧W'.cell? ⟨w.heap.size+1,3,none⟩=some (.int .i64 0)∧W'.cell? ⟨w.heap.size+2,3,none⟩=some (.int .i64 1000000000))
     (first
     | exact⟨bel_on bq2 (Ze _),lo0,up0,lo1,up1,lo2,up2,lo3,up3⟩
     | (go_split_ands;refine⟨bel_on (by assumption) hbc,cell_later hbc (by assumption),cell_later hbc (by assumption),cell_later hbc (by assumption),cell_later hbc (by assumption),cell_later hbc (by assumption),cell_later hbc (by assumption),cell_later hbc (by assumption),cell_later hbc (by assumption)⟩))
     (first|(go_at_call 103;refine ((unhide CC) _).mono ?_;rintro e w' ⟨rfl,hbc⟩))
    rename_i hq
    have HBF:=hide (bel_on (unhide HB1) hq.1)
    clear hq
    go_wp2
    go_ret
    exact⟨rfl,unhide HBF⟩
   | true=>
    rw[q2] at ho
    have CC:=hide (fun W=>Yd k 1 1000 true W q2)
    clear q2
    rw[rounds_succ]
    go_wp2_with fail
    go_region_held3 (fun W'=>Below w1.heap.size w1 W'∧W'.cell? ⟨w.heap.size+1,0,none⟩=some (.int .i64 0)∧W'.cell? ⟨w.heap.size+2,0,none⟩=some (.int .i64 120)∧W'.cell? ⟨w.heap.size+1,1,none⟩=some (.int .i64 1)∧W'.cell? ⟨w.heap.size+2,1,none⟩=some (.int .i64 1000)∧W'.cell? ⟨w.heap.size+1,2,none⟩=some (.int .i64 1)∧W'.cell? ⟨w.heap.size+2,2,none⟩=some (.int .i64 1000)∧W'.cell? ⟨w.heap.size+1,3,none⟩=some (.int .i64 0)∧W'.cell? ⟨w.heap.size+2,3,none⟩=some (.int .i64 1000000000))
     (first
     | exact⟨bel_on bq2 (Ze _),lo0,up0,lo1,up1,lo2,up2,lo3,up3⟩
     | (go_split_ands;refine⟨bel_on (by assumption) hbc,cell_later hbc (by assumption),cell_later hbc (by assumption),cell_later hbc (by assumption),cell_later hbc (by assumption),cell_later hbc (by assumption),cell_later hbc (by assumption),cell_later hbc (by assumption),cell_later hbc (by assumption)⟩))
     (first|(go_at_call 103;refine ((unhide CC) _).mono ?_;rintro e w' ⟨rfl,hbc⟩))
    rename_i hq
    have ll:=Nat.lt_of_lt_of_le ll0 hq.1.size
    have lh:=Nat.lt_of_lt_of_le lh0 hq.1.size
    obtain⟨bq3,lo0,up0,lo1,up1,lo2,up2,lo3,up3⟩:=hq
    rw[Bool.true_and] at ho
    go_wp2
    cases q3:(decide ((0:Int)≤n) && decide (n≤1000000000)) with
    | false=>
     rw[q3] at ho
     have CC:=hide (fun W=>Yd n 0 1000000000 false W q3)
     clear q3
     obtain rfl:false=o:=by rw[←ho]
     clear ho
     rw[rounds_succ]
     go_wp2_with fail
     go_region_held3 (fun W'=>Below w1.heap.size w1 W'∧W'.cell? ⟨w.heap.size+1,0,none⟩=some (.int .i64 0)∧W'.cell? ⟨w.heap.size+2,0,none⟩=some (.int .i64 120)∧W'.cell? ⟨w.heap.size+1,1,none⟩=some (.int .i64 1)∧W'.cell? ⟨w.heap.size+2,1,none⟩=some (.int .i64 1000)∧W'.cell? ⟨w.heap.size+1,2,none⟩=some (.int .i64 1)∧W'.cell? ⟨w.heap.size+2,2,none⟩=some (.int .i64 1000)∧W'.cell? ⟨w.heap.size+1,3,none⟩=some (.int .i64 0)∧W'.cell? ⟨w.heap.size+2,3,none⟩=some (.int .i64 1000000000))
      (first
      | exact⟨bel_on bq3 (Ze _),lo0,up0,lo1,up1,lo2,up2,lo3,up3⟩
      | (go_split_ands;refine⟨bel_on (by assumption) hbc,cell_later hbc (by assumption),cell_later hbc (by assumption),cell_later hbc (by assumption),cell_later hbc (by assumption),cell_later hbc (by assumption),cell_later hbc (by assumption),cell_later hbc (by assumption),cell_later hbc (by assumption)⟩))
      (first|(go_at_call 103;refine ((unhide CC) _).mono ?_;rintro e w' ⟨rfl,hbc⟩))
     rename_i hq
     have HBF:=hide (bel_on (unhide HB1) hq.1)
     clear hq
     go_wp2
     go_ret
     exact⟨rfl,unhide HBF⟩
    | true=>
     rw[q3] at ho
     have CC:=hide (fun W=>Yd n 0 1000000000 true W q3)
     clear q3
     obtain rfl:true=o:=by rw[←ho]
     clear ho
     rw[rounds_succ]
     go_wp2_with fail
     go_region_held3 (fun W'=>Below w1.heap.size w1 W'∧W'.cell? ⟨w.heap.size+1,0,none⟩=some (.int .i64 0)∧W'.cell? ⟨w.heap.size+2,0,none⟩=some (.int .i64 120)∧W'.cell? ⟨w.heap.size+1,1,none⟩=some (.int .i64 1)∧W'.cell? ⟨w.heap.size+2,1,none⟩=some (.int .i64 1000)∧W'.cell? ⟨w.heap.size+1,2,none⟩=some (.int .i64 1)∧W'.cell? ⟨w.heap.size+2,2,none⟩=some (.int .i64 1000)∧W'.cell? ⟨w.heap.size+1,3,none⟩=some (.int .i64 0)∧W'.cell? ⟨w.heap.size+2,3,none⟩=some (.int .i64 1000000000))
      (first
      | exact⟨bel_on bq3 (Ze _),lo0,up0,lo1,up1,lo2,up2,lo3,up3⟩
      | (go_split_ands;refine⟨bel_on (by assumption) hbc,cell_later hbc (by assumption),cell_later hbc (by assumption),cell_later hbc (by assumption),cell_later hbc (by assumption),cell_later hbc (by assumption),cell_later hbc (by assumption),cell_later hbc (by assumption),cell_later hbc (by assumption)⟩))
      (first|(go_at_call 103;refine ((unhide CC) _).mono ?_;rintro e w' ⟨rfl,hbc⟩))
     rename_i hq
     have ll:=Nat.lt_of_lt_of_le ll0 hq.1.size
     have lh:=Nat.lt_of_lt_of_le lh0 hq.1.size
     obtain⟨bq4,lo0,up0,lo1,up1,lo2,up2,lo3,up3⟩:=hq
     go_wp2
     rw[rounds_succ]
     go_wp2
     go_ret
     exact⟨rfl,bel_on (unhide HB1) bq4⟩
end Go.Proofs.YtmomfkikogbdeaaGreatDoor
