import Derived.Test.YtpikejjiignchaaGreatDoorG7
set_option maxHeartbeats 1600000
namespace Go.Proofs.YtpikejjiignchaaGreatDoor
open Go.RowKit
structure Boxed(p b:Nat)(f:Value)(w:World):Prop where
 lt:b+1<w.heap.size
 n0:b≠p
 n1:b+1≠p
 c0:w.cell? ⟨b,0,none⟩=some (.pointer (some ⟨p,0,none⟩))
 c1:w.cell? ⟨b+1,0,none⟩=some f
theorem Boxed.later{p b:Nat}{f:Value}{w w':World}(h:Boxed p b f w){B:Nat}(hb:Below B w w')(hB:b+1<B):Boxed p b f w':=
 ⟨Nat.lt_of_lt_of_le h.lt hb.size,h.n0,h.n1,(hb.cell (p:=⟨b,0,none⟩) (Nat.lt_of_succ_lt hB)).trans h.c0,(hb.cell (p:=⟨b+1,0,none⟩) hB).trans h.c1⟩
theorem Ly(p:Nat)(f:Value)(w:World)(t u:TypeId)(hp:p<w.heap.size):Boxed p w.heap.size f ((w.alloc (.cells #[.pointer (some ⟨p,0,none⟩)] t)).alloc (.cells #[f] u)) where
 lt:=by simp
 n0:=by omega
 n1:=by omega
 c0:=by
  rw[World.cell?_alloc_past _ _ _ (by simp),World.cell?_alloc_at _ _ _ _ rfl];rfl
 c1:=by
  rw[World.cell?_alloc_at _ _ _ _ (by simp)];rfl
theorem K5(w:World)(o u:Obj):Below w.heap.size w ((w.alloc o).alloc u):=
 ((Below.refl _ _).alloc (Nat.le_refl _) _).alloc (by simp) _
def Ba(b:Nat):Value:=.func (.func 271) #[] #[.pointer (some ⟨b,0,none⟩),.pointer (some ⟨b+1,0,none⟩)]
def Zgj(b:Nat):Value:=.func (.func 272) #[] #[.pointer (some ⟨b,0,none⟩),.pointer (some ⟨b+1,0,none⟩)]
def met(p:Nat)(k:Nat):Value:=.func (.func k) #[.pointer (some ⟨p,0,none⟩)] #[]
theorem Gg(p b:Nat)(f:Fn)(w:World)(hp:p<w.heap.size)(hb:w.heap.size=b) :
  Calls Tryz.prog 257 #[.pointer (some ⟨p,0,none⟩),.func f #[] #[]] w fun e w'=>e = .returned (.func (.func 271) #[] #[.pointer (some ⟨b,0,none⟩),.pointer (some ⟨b+1,0,none⟩)])∧Boxed p b (.func f #[] #[]) w'∧w'.heap.size=b+2∧Below b w w':=by
 subst hb
 have HP:=Zb hp
 clear hp
 have hmf:∀ (fn:Fn) (first cap:Array Value) (w:World),(Instr.makeFunc fn first cap).run Tryz.prog w = .ok (.func fn first cap) w:=fun _ _ _ _=>rfl
 go_enter Tryz.func257,Tryz.ntmps257
 go_wp2
 go_ret
 exact⟨rfl,Ly p _ w _ _ (Za HP),by simp,K5 _ _ _⟩
theorem Zcu(p b:Nat)(f:Fn)(w:World)(hp:p<w.heap.size)(hb:w.heap.size=b) :
  Calls Tryz.prog 263 #[.pointer (some ⟨p,0,none⟩),.func f #[] #[]] w fun e w'=>e = .returned (.func (.func 272) #[] #[.pointer (some ⟨b,0,none⟩),.pointer (some ⟨b+1,0,none⟩)])∧Boxed p b (.func f #[] #[]) w'∧w'.heap.size=b+2∧Below b w w':=by
 subst hb
 have HP:=Zb hp
 clear hp
 have hmf:∀ (fn:Fn) (first cap:Array Value) (w:World),(Instr.makeFunc fn first cap).run Tryz.prog w = .ok (.func fn first cap) w:=fun _ _ _ _=>rfl
 go_enter Tryz.func263,Tryz.ntmps263
 go_wp2
 go_ret
 exact⟨rfl,Ly p _ w _ _ (Za HP),by simp,K5 _ _ _⟩
def Rk(p b:Nat):Array Value:=#[.nilFunc,met p 247,met p 254,met p 255,met p 256,Ba b,Ba (b+2),Ba (b+4),Ba (b+6),Zgj (b+8),Ba (b+10),met p 266,met p 267,Zgj (b+12)]
structure Boxes(p b:Nat)(w:World):Prop where
 x5:Boxed p b (.func (.func 258) #[] #[]) w
 x6:Boxed p (b+2) (.func (.func 259) #[] #[]) w
 x7:Boxed p (b+4) (.func (.func 260) #[] #[]) w
 x8:Boxed p (b+6) (.func (.func 262) #[] #[]) w
 x9:Boxed p (b+8) (.func (.func 264) #[] #[]) w
 x10:Boxed p (b+10) (.func (.func 265) #[] #[]) w
 x13:Boxed p (b+12) (.func (.func 268) #[] #[]) w
def Hi(g:Nat):List Value→Nat→World→World
 | [],_,w=>w
 | v :: r,i,w=>Hi g r (i+1) (w.setCell ⟨g,i,none⟩ v)
def Zds:List Value→Nat→Array Value→Array Value
 | [],_,c=>c
 | v :: r,i,c=>Zds r (i+1) (c.setIfInBounds i v)
theorem Pg(g:Nat)(t:TypeId):∀ (vs:List Value) (i:Nat) (w:World) (c:Array Value),w.heap[g]? = some (.cells c t (0,0))→(Hi g vs i w).heap[g]? = some (.cells (Zds vs i c) t (0,0))
 | [],_,_,_,h=>h
 | v :: r,i,w,c,h=>Pg g t r (i+1) _ _ (heap_setCell_same w g i c t v h)
theorem Jh(g k:Nat)(hk:k≠g):∀ (vs:List Value) (i:Nat) (w:World),(Hi g vs i w).heap[k]? = w.heap[k]?
 | [],_,_=>rfl
 | v :: r,i,w=>(Jh g k hk r (i+1) _).trans (heap_setCell_other w ⟨g,i,none⟩ k v hk)
theorem Ph(g:Nat):∀ (vs:List Value) (i:Nat) (B:Nat) (W w:World),Below B W w→B≤g→Below B W (Hi g vs i w)
 | [],_,_,_,_,h,_=>h
 | v :: r,i,B,W,_,h,hg=>Ph g r (i+1) B W _ (h.setCell (p:=⟨g,i,none⟩) hg v) hg
theorem Hh(g:Nat):∀ (vs:List Value) (i:Nat) (w:World),(Hi g vs i w).heap.size=w.heap.size
 | [],_,_=>rfl
 | _ :: r,i,_=>(Hh g r (i+1) _).trans (World.size_setCell _ _ _)
theorem Ai(g:Nat)(t:TypeId)(w:World)(v0 v1 v2 v3 v4 v5 v6 v7 v8 v9 v10 v11 v12 v13:Value)(h:w.heap[g]? = some (.cells #[.nilFunc,.nilFunc,.nilFunc,.nilFunc,.nilFunc,.nilFunc,.nilFunc,.nilFunc,.nilFunc,.nilFunc,.nilFunc,.nilFunc,.nilFunc,.nilFunc] t (0,0))) :
  (((((((((((((((w.setCell ⟨g,0,none⟩ v0).setCell ⟨g,1,none⟩ v1).setCell ⟨g,2,none⟩ v2).setCell ⟨g,3,none⟩ v3).setCell ⟨g,4,none⟩ v4).setCell ⟨g,5,none⟩ v5).setCell ⟨g,6,none⟩ v6).setCell ⟨g,7,none⟩ v7).setCell ⟨g,8,none⟩ v8).setCell ⟨g,9,none⟩ v9).setCell ⟨g,10,none⟩ v10).setCell ⟨g,11,none⟩ v11).setCell ⟨g,12,none⟩ v12).setCell ⟨g,13,none⟩ v13)).heap[g]? = some (.cells #[v0,v1,v2,v3,v4,v5,v6,v7,v8,v9,v10,v11,v12,v13] t (0,0)):=by
 have e:=Pg g t [v0,v1,v2,v3,v4,v5,v6,v7,v8,v9,v10,v11,v12,v13] 0 w _ h
 simp only[Hi,Zds,Nat.reduceAdd] at e
 simpa using e
theorem Aj(g:Nat)(W w:World)(v0 v1 v2 v3 v4 v5 v6 v7 v8 v9 v10 v11 v12 v13:Value)(B:Nat)(h:Below B W w)(hB:B≤g):Below B W (((((((((((((((w.setCell ⟨g,0,none⟩ v0).setCell ⟨g,1,none⟩ v1).setCell ⟨g,2,none⟩ v2).setCell ⟨g,3,none⟩ v3).setCell ⟨g,4,none⟩ v4).setCell ⟨g,5,none⟩ v5).setCell ⟨g,6,none⟩ v6).setCell ⟨g,7,none⟩ v7).setCell ⟨g,8,none⟩ v8).setCell ⟨g,9,none⟩ v9).setCell ⟨g,10,none⟩ v10).setCell ⟨g,11,none⟩ v11).setCell ⟨g,12,none⟩ v12).setCell ⟨g,13,none⟩ v13)):=Ph g [v0,v1,v2,v3,v4,v5,v6,v7,v8,v9,v10,v11,v12,v13] 0 B W w h hB
theorem Wl(g:Nat)(w:World)(v0 v1 v2 v3 v4 v5 v6 v7 v8 v9 v10 v11 v12 v13:Value){p b:Nat}{f:Value}(h:Boxed p b f w)(hg:g<b):Boxed p b f (((((((((((((((w.setCell ⟨g,0,none⟩ v0).setCell ⟨g,1,none⟩ v1).setCell ⟨g,2,none⟩ v2).setCell ⟨g,3,none⟩ v3).setCell ⟨g,4,none⟩ v4).setCell ⟨g,5,none⟩ v5).setCell ⟨g,6,none⟩ v6).setCell ⟨g,7,none⟩ v7).setCell ⟨g,8,none⟩ v8).setCell ⟨g,9,none⟩ v9).setCell ⟨g,10,none⟩ v10).setCell ⟨g,11,none⟩ v11).setCell ⟨g,12,none⟩ v12).setCell ⟨g,13,none⟩ v13)):=
 have e0:=Jh g b (by omega) [v0,v1,v2,v3,v4,v5,v6,v7,v8,v9,v10,v11,v12,v13] 0 w
 have e1:=Jh g (b+1) (by omega) [v0,v1,v2,v3,v4,v5,v6,v7,v8,v9,v10,v11,v12,v13] 0 w
 have e2:=Hh g [v0,v1,v2,v3,v4,v5,v6,v7,v8,v9,v10,v11,v12,v13] 0 w
 by
 simp only[Hi,Nat.reduceAdd] at e0 e1 e2
 refine⟨Nat.lt_of_lt_of_eq h.lt e2.symm,h.n0,h.n1,Eq.trans (b:=w.cell? ⟨b,0,none⟩) ?_ h.c0,Eq.trans (b:=w.cell? ⟨b+1,0,none⟩) ?_ h.c1⟩
 ·exact World.cell?_of_block (w:=w) e0
 ·exact World.cell?_of_block (w:=w) e1
theorem Tryz.size344:(Tryz.prog.info? 344).map (·.size)=some 14:=by kernel_rfl
set_option maxRecDepth 100000 in
theorem G2(p:Nat)(w:World)(hp:p<w.heap.size) :
  Calls Tryz.prog 248 #[.pointer (some ⟨p,0,none⟩)] w fun e w'=>e = .returned (.agg (Rk p (w.heap.size+1)))∧Boxes p (w.heap.size+1) w'∧Below w.heap.size w w':=by
 have hmf:∀ (fn:Fn) (first cap:Array Value) (w:World),(Instr.makeFunc fn first cap).run Tryz.prog w = .ok (.func fn first cap) w:=fun _ _ _ _=>rfl
 have HP:=Zb hp
 clear hp
 go_enter Tryz.func248,Tryz.ntmps248
 go_wp2_with fail
 refine (Gg p (w.heap.size+1) _ _ (by have:=Za HP;simp;omega) (by simp)).mono ?_
 rintro e w1 ⟨rfl,x5,s1,b1⟩
 have HB:=Zb b1
 have S1:=Zb s1
 have X5:=Zb x5
 clear b1 s1 x5
 have H0:Hid (w1.heap[w.heap.size]? = some (.cells #[.nilFunc,.nilFunc,.nilFunc,.nilFunc,.nilFunc,.nilFunc,.nilFunc,.nilFunc,.nilFunc,.nilFunc,.nilFunc,.nilFunc,.nilFunc,.nilFunc] 344 (0,0))):=((Za HB).block _ (by omega)).trans (heap_alloc_new _ _)
 go_wp2_with fail
 refine (Gg p (w.heap.size+3) _ _ (by have:=Za HP;have:=Za S1;omega) (by have:=Za S1;omega)).mono ?_
 rintro e w2 ⟨rfl,x6,s2,b2⟩
 have B2:=Zb b2
 have S2:=Zb s2
 have X6:=Zb x6
 clear b2 s2 x6
 go_wp2_with fail
 refine (Gg p (w.heap.size+5) _ _ (by have:=Za HP;have:=Za S2;omega) (by have:=Za S2;omega)).mono ?_
 rintro e w3 ⟨rfl,x7,s3,b3⟩
 have B3:=Zb b3
 have S3:=Zb s3
 have X7:=Zb x7
 clear b3 s3 x7
 go_wp2_with fail
 refine (Gg p (w.heap.size+7) _ _ (by have:=Za HP;have:=Za S3;omega) (by have:=Za S3;omega)).mono ?_
 rintro e w4 ⟨rfl,x8,s4,b4⟩
 have B4:=Zb b4
 have S4:=Zb s4
 have X8:=Zb x8
 clear b4 s4 x8
 go_wp2_with fail
 refine (Zcu p (w.heap.size+9) _ _ (by have:=Za HP;have:=Za S4;omega) (by have:=Za S4;omega)).mono ?_
 rintro e w5 ⟨rfl,x9,s5,b5⟩
 have B5:=Zb b5
 have S5:=Zb s5
 have X9:=Zb x9
 clear b5 s5 x9
 go_wp2_with fail
 refine (Gg p (w.heap.size+11) _ _ (by have:=Za HP;have:=Za S5;omega) (by have:=Za S5;omega)).mono ?_
 rintro e w6 ⟨rfl,x10,s6,b6⟩
 have B6:=Zb b6
 have S6:=Zb s6
 have X10:=Zb x10
 clear b6 s6 x10
 go_wp2_with fail
 refine (Zcu p (w.heap.size+13) _ _ (by have:=Za HP;have:=Za S6;omega) (by have:=Za S6;omega)).mono ?_
 rintro e w7 ⟨rfl,x13,s7,b7⟩
 have B7:=Zb b7
 have S7:=Zb s7
 have X13:=Zb x13
 clear b7 s7 x13
 have bs:Below (w.heap.size+1) (w.alloc (.cells #[.nilFunc,.nilFunc,.nilFunc,.nilFunc,.nilFunc,.nilFunc,.nilFunc,.nilFunc,.nilFunc,.nilFunc,.nilFunc,.nilFunc,.nilFunc,.nilFunc] 344)) w7:=
  (Za HB).trans (((Za B2).mono (by omega)).trans (((Za B3).mono (by omega)).trans (((Za B4).mono (by omega)).trans (((Za B5).mono (by omega)).trans (((Za B6).mono (by omega)).trans ((Za B7).mono (by omega)))))))
 have BS:=Zb bs
 have h0:w7.heap[w.heap.size]? = some (.cells #[.nilFunc,.nilFunc,.nilFunc,.nilFunc,.nilFunc,.nilFunc,.nilFunc,.nilFunc,.nilFunc,.nilFunc,.nilFunc,.nilFunc,.nilFunc,.nilFunc] 344 (0,0)):=(bs.block _ (by omega)).trans (heap_alloc_new _ _)
 have H7:=Zb h0
 clear bs h0
 have hsf:=fun (a:Addr) (fn:Fn) (fs cs:Array Value) (w:World)=>run_store Tryz.prog w a (.func fn fs cs) .plain rfl
 have hsn:=fun (a:Addr) (w:World)=>run_store Tryz.prog w a .nilFunc .plain rfl
 have z0:w7.cell? ⟨w.heap.size,0,none⟩=some .nilFunc:=cell_of_row _ _ 0 _ _ _ (Za H7)
 have f0:w7.frozen? ⟨w.heap.size,0,none⟩=false:=frozen_of_row _ _ 0 _ _ (Za H7)
 have z1:w7.cell? ⟨w.heap.size,1,none⟩=some .nilFunc:=cell_of_row _ _ 1 _ _ _ (Za H7)
 have f1:w7.frozen? ⟨w.heap.size,1,none⟩=false:=frozen_of_row _ _ 1 _ _ (Za H7)
 have z2:w7.cell? ⟨w.heap.size,2,none⟩=some .nilFunc:=cell_of_row _ _ 2 _ _ _ (Za H7)
 have f2:w7.frozen? ⟨w.heap.size,2,none⟩=false:=frozen_of_row _ _ 2 _ _ (Za H7)
 have z3:w7.cell? ⟨w.heap.size,3,none⟩=some .nilFunc:=cell_of_row _ _ 3 _ _ _ (Za H7)
 have f3:w7.frozen? ⟨w.heap.size,3,none⟩=false:=frozen_of_row _ _ 3 _ _ (Za H7)
 have z4:w7.cell? ⟨w.heap.size,4,none⟩=some .nilFunc:=cell_of_row _ _ 4 _ _ _ (Za H7)
 have f4:w7.frozen? ⟨w.heap.size,4,none⟩=false:=frozen_of_row _ _ 4 _ _ (Za H7)
 have z5:w7.cell? ⟨w.heap.size,5,none⟩=some .nilFunc:=cell_of_row _ _ 5 _ _ _ (Za H7)
 have f5:w7.frozen? ⟨w.heap.size,5,none⟩=false:=frozen_of_row _ _ 5 _ _ (Za H7)
 have z6:w7.cell? ⟨w.heap.size,6,none⟩=some .nilFunc:=cell_of_row _ _ 6 _ _ _ (Za H7)
 have f6:w7.frozen? ⟨w.heap.size,6,none⟩=false:=frozen_of_row _ _ 6 _ _ (Za H7)
 have z7:w7.cell? ⟨w.heap.size,7,none⟩=some .nilFunc:=cell_of_row _ _ 7 _ _ _ (Za H7)
 have f7:w7.frozen? ⟨w.heap.size,7,none⟩=false:=frozen_of_row _ _ 7 _ _ (Za H7)
 have z8:w7.cell? ⟨w.heap.size,8,none⟩=some .nilFunc:=cell_of_row _ _ 8 _ _ _ (Za H7)
 have f8:w7.frozen? ⟨w.heap.size,8,none⟩=false:=frozen_of_row _ _ 8 _ _ (Za H7)
 have z9:w7.cell? ⟨w.heap.size,9,none⟩=some .nilFunc:=cell_of_row _ _ 9 _ _ _ (Za H7)
 have f9:w7.frozen? ⟨w.heap.size,9,none⟩=false:=frozen_of_row _ _ 9 _ _ (Za H7)
 have z10:w7.cell? ⟨w.heap.size,10,none⟩=some .nilFunc:=cell_of_row _ _ 10 _ _ _ (Za H7)
 have f10:w7.frozen? ⟨w.heap.size,10,none⟩=false:=frozen_of_row _ _ 10 _ _ (Za H7)
 have z11:w7.cell? ⟨w.heap.size,11,none⟩=some .nilFunc:=cell_of_row _ _ 11 _ _ _ (Za H7)
 have f11:w7.frozen? ⟨w.heap.size,11,none⟩=false:=frozen_of_row _ _ 11 _ _ (Za H7)
 have z12:w7.cell? ⟨w.heap.size,12,none⟩=some .nilFunc:=cell_of_row _ _ 12 _ _ _ (Za H7)
 have f12:w7.frozen? ⟨w.heap.size,12,none⟩=false:=frozen_of_row _ _ 12 _ _ (Za H7)
 have z13:w7.cell? ⟨w.heap.size,13,none⟩=some .nilFunc:=cell_of_row _ _ 13 _ _ _ (Za H7)
 have f13:w7.frozen? ⟨w.heap.size,13,none⟩=false:=frozen_of_row _ _ 13 _ _ (Za H7)
 go_wp2
 refine bodyPost_ret (v:=.agg (Rk p (w.heap.size+1))) (results_cell_row rfl _ _ w.heap.size 344 (Rk p (w.heap.size+1)) (0,0) _ rfl (Ai _ _ _ _ _ _ _ _ _ _ _ _ _ _ _ _ _ (Za H7)) Tryz.underlying344 rfl Tryz.size344) rfl ⟨rfl,?_,?_⟩
 ·have t2:=Za B2
  have t3:=Za B3
  have t4:=Za B4
  have t5:=Za B5
  have t6:=Za B6
  have t7:=Za B7
  have y5:=((((((Za X5).later t2 (by omega)).later t3 (by omega)).later t4 (by omega)).later t5 (by omega)).later t6 (by omega)).later t7 (by omega)
  have y6:=(((((Za X6).later t3 (by omega)).later t4 (by omega)).later t5 (by omega)).later t6 (by omega)).later t7 (by omega)
  have y7:=((((Za X7).later t4 (by omega)).later t5 (by omega)).later t6 (by omega)).later t7 (by omega)
  have y8:=(((Za X8).later t5 (by omega)).later t6 (by omega)).later t7 (by omega)
  have y9:=((Za X9).later t6 (by omega)).later t7 (by omega)
  have y10:=(Za X10).later t7 (by omega)
  have y13:=Za X13
  exact⟨Wl _ _ _ _ _ _ _ _ _ _ _ _ _ _ _ _ y5 (by omega),Wl _ _ _ _ _ _ _ _ _ _ _ _ _ _ _ _ y6 (by omega),Wl _ _ _ _ _ _ _ _ _ _ _ _ _ _ _ _ y7 (by omega),Wl _ _ _ _ _ _ _ _ _ _ _ _ _ _ _ _ y8 (by omega),Wl _ _ _ _ _ _ _ _ _ _ _ _ _ _ _ _ y9 (by omega),Wl _ _ _ _ _ _ _ _ _ _ _ _ _ _ _ _ y10 (by omega),Wl _ _ _ _ _ _ _ _ _ _ _ _ _ _ _ _ y13 (by omega)⟩
 ·exact Aj _ _ _ _ _ _ _ _ _ _ _ _ _ _ _ _ _ _ (((Below.refl _ w).alloc (Nat.le_refl _) _).trans ((Za BS).mono (by omega))) (Nat.le_refl _)
end Go.Proofs.YtpikejjiignchaaGreatDoor
