import Derived.Test.YtmomfkikogbdeaaGreatDoorH
import Derived.Test.YtmomfkikogbdeaaGreatDoorG6
open Go renaming heap_alloc_new->aG,frozen_of_row->cY
open Go.Ending renaming returned->dF
open Go.Obj renaming cells->dE
open Go.Proofs.Tryz renaming prog->aB
open Go.Value renaming pointer->dH
set_option maxHeartbeats 1600000
namespace Go.Proofs.YtmomfkikogbdeaaGreatDoor
open Go.RowKit
structure Boxed(p b:Nat)(f:Value)(w:World):Prop where
 lt:b+1<w.heap.size
 n0:b≠p
 n1:b+1≠p
 c0:w.cell? ⟨b,0,none⟩=some (dH (some ⟨p,0,none⟩))
 c1:w.cell? ⟨b+1,0,none⟩=some f
theorem Boxed.later{p b:Nat}{f w w'}(h:Boxed p b f w){B:Nat}(hb:Below B w w')(hB:b+1<B):Boxed p b f w':=
 ⟨Nat.lt_of_lt_of_le h.lt hb.size,h.n0,h.n1,(hb.cell (p:=⟨b,0,none⟩) (Nat.lt_of_succ_lt hB)).trans h.c0,(hb.cell (p:=⟨b+1,0,none⟩) hB).trans h.c1⟩
theorem Do(p:Nat)(f)(w:World)(t u:TypeId)(hp:p<w.heap.size):Boxed p w.heap.size f ((w.alloc (dE #[dH (some ⟨p,0,none⟩)] t)).alloc (dE #[f] u)) where
 lt:=by simp
 n0:=by omega
 n1:=by omega
 c0:=by
  rw[World.cell?_alloc_past _ _ _ (by simp),World.cell?_alloc_at _ _ _ _ rfl];rfl
 c1:=by
  rw[World.cell?_alloc_at _ _ _ _ (by simp)];rfl
theorem Na(w:World)(o u:Obj):ZD w ((w.alloc o).alloc u):=
 ((Below.refl _ _).alloc (Nat.le_refl _) _).alloc (by simp) _
def Zck(b:Nat):Value:=.func (.func 334) #[] #[dH (some ⟨b,0,none⟩),dH (some ⟨b+1,0,none⟩)]
def Zow(b:Nat):Value:=.func (.func 335) #[] #[dH (some ⟨b,0,none⟩),dH (some ⟨b+1,0,none⟩)]
def met(p:Nat)(k:Nat):Value:=.func (.func k) #[dH (some ⟨p,0,none⟩)] #[]
theorem Ho(p b:Nat)(f:Fn)(w:World)(hp:p<w.heap.size)(hb:w.heap.size=b) :
  Calls aB 317 #[dH (some ⟨p,0,none⟩),.func f #[] #[]] w λe w'=>e = dF (.func (.func 334) #[] #[dH (some ⟨b,0,none⟩),dH (some ⟨b+1,0,none⟩)])/\Boxed p b (.func f #[] #[]) w'/\w'.heap.size=b+2/\Below b w w':=by
 subst hb;have HP:=Zd hp;clear hp;have ac:∀ (fn:Fn) (first cap:Array Value) (w:World),(Instr.makeFunc fn first cap).run aB w = .ok (.func fn first cap) w:=λ_ _ _ _=>rfl;go_enter Tryz.func317,Tryz.ntmps317;go_wp2;go_ret;exact⟨rfl,Do p _ w _ _ HP,by simp,Na _ _ _⟩
theorem Zjv(p b:Nat)(f:Fn)(w:World)(hp:p<w.heap.size)(hb:w.heap.size=b) :
  Calls aB 323 #[dH (some ⟨p,0,none⟩),.func f #[] #[]] w λe w'=>e = dF (.func (.func 335) #[] #[dH (some ⟨b,0,none⟩),dH (some ⟨b+1,0,none⟩)])/\Boxed p b (.func f #[] #[]) w'/\w'.heap.size=b+2/\Below b w w':=by
 subst hb;have HP:=Zd hp;clear hp;have ac:∀ (fn:Fn) (first cap:Array Value) (w:World),(Instr.makeFunc fn first cap).run aB w = .ok (.func fn first cap) w:=λ_ _ _ _=>rfl;go_enter Tryz.func323,Tryz.ntmps323;go_wp2;go_ret;exact⟨rfl,Do p _ w _ _ HP,by simp,Na _ _ _⟩
def Tf(p b:Nat):Array Value:=#[.nilFunc,met p 303,met p 314,met p 315,met p 316,Zck b,Zck (b+2),Zck (b+4),Zck (b+6),Zow (b+8),Zck (b+10),met p 326,met p 327,Zow (b+12)]
structure Boxes(p b:Nat)(w:World):Prop where
 x5:Boxed p b (.func (.func 318) #[] #[]) w
 x6:Boxed p (b+2) (.func (.func 319) #[] #[]) w
 x7:Boxed p (b+4) (.func (.func 320) #[] #[]) w
 x8:Boxed p (b+6) (.func (.func 322) #[] #[]) w
 x9:Boxed p (b+8) (.func (.func 324) #[] #[]) w
 x10:Boxed p (b+10) (.func (.func 325) #[] #[]) w
 x13:Boxed p (b+12) (.func (.func 328) #[] #[]) w
def Lk(g:Nat):List Value->Nat->World->World
 | [],_,w=>w
 | v :: r,i,w=>Lk g r (i+1) (w.setCell ⟨g,i,none⟩ v)
def Zkx:List Value->Nat->Array Value->Array Value
 | [],_,c=>c
 | v :: r,i,c=>Zkx r (i+1) (c.setIfInBounds i v)
theorem Gh(g:Nat)(t:TypeId):∀ (vs:List Value) (i:Nat) (w:World) (c:Array Value),w.heap[g]? = some (dE c t (0,0))->(Lk g vs i w).heap[g]? = some (dE (Zkx vs i c) t (0,0))
 | [],_,_,_,h=>h
 | v :: r,i,w,c,h=>Gh g t r (i+1) _ _ (heap_setCell_same w g i c t v h)
theorem Jy(g k:Nat)(hk:k≠g):∀ (vs:List Value) (i:Nat) (w:World),(Lk g vs i w).heap[k]? = w.heap[k]?
 | [],_,_=>rfl
 | v :: r,i,w=>(Jy g k hk r (i+1) _).trans (heap_setCell_other w ⟨g,i,none⟩ k v hk)
theorem Gi(g:Nat):∀ (vs:List Value) (i:Nat) (B:Nat) (W w:World),Below B W w->B<=g->Below B W (Lk g vs i w)
 | [],_,_,_,_,h,_=>h
 | v :: r,i,B,W,_,h,hg=>Gi g r (i+1) B W _ (h.setCell (p:=⟨g,i,none⟩) hg v) hg
theorem Lj(g:Nat):∀ (vs:List Value) (i:Nat) (w:World),(Lk g vs i w).heap.size=w.heap.size
 | [],_,_=>rfl
 | _ :: r,i,_=>(Lj g r (i+1) _).trans (World.size_setCell _ _ _)
theorem Zbf(g:Nat)(t:TypeId)(w:World)(v0 v1 v2 v3 v4 v5 v6 v7 v8 v9 aa ab ac ad)(h:w.heap[g]? = some (dE #[.nilFunc,.nilFunc,.nilFunc,.nilFunc,.nilFunc,.nilFunc,.nilFunc,.nilFunc,.nilFunc,.nilFunc,.nilFunc,.nilFunc,.nilFunc,.nilFunc] t (0,0))) :
  (((((((((((((((w.setCell ⟨g,0,none⟩ v0).setCell ⟨g,1,none⟩ v1).setCell ⟨g,2,none⟩ v2).setCell ⟨g,3,none⟩ v3).setCell ⟨g,4,none⟩ v4).setCell ⟨g,5,none⟩ v5).setCell ⟨g,6,none⟩ v6).setCell ⟨g,7,none⟩ v7).setCell ⟨g,8,none⟩ v8).setCell ⟨g,9,none⟩ v9).setCell ⟨g,10,none⟩ aa).setCell ⟨g,11,none⟩ ab).setCell ⟨g,12,none⟩ ac).setCell ⟨g,13,none⟩ ad)).heap[g]? = some (dE #[v0,v1,v2,v3,v4,v5,v6,v7,v8,v9,aa,ab,ac,ad] t (0,0)):=by
 have e:=Gh g t [v0,v1,v2,v3,v4,v5,v6,v7,v8,v9,aa,ab,ac,ad] 0 w _ h;simp only[Lk,Zkx,Nat.reduceAdd] at e;simpa using e
theorem Zbg(g:Nat)(W w:World)(v0 v1 v2 v3 v4 v5 v6 v7 v8 v9 aa ab ac ad)(B:Nat)(h:Below B W w)(hB:B<=g):Below B W (((((((((((((((w.setCell ⟨g,0,none⟩ v0).setCell ⟨g,1,none⟩ v1).setCell ⟨g,2,none⟩ v2).setCell ⟨g,3,none⟩ v3).setCell ⟨g,4,none⟩ v4).setCell ⟨g,5,none⟩ v5).setCell ⟨g,6,none⟩ v6).setCell ⟨g,7,none⟩ v7).setCell ⟨g,8,none⟩ v8).setCell ⟨g,9,none⟩ v9).setCell ⟨g,10,none⟩ aa).setCell ⟨g,11,none⟩ ab).setCell ⟨g,12,none⟩ ac).setCell ⟨g,13,none⟩ ad)):=Gi g [v0,v1,v2,v3,v4,v5,v6,v7,v8,v9,aa,ab,ac,ad] 0 B W w h hB
theorem Wi(g:Nat)(w:World)(v0 v1 v2 v3 v4 v5 v6 v7 v8 v9 aa ab ac ad){p b:Nat}{f}(h:Boxed p b f w)(hg:g<b):Boxed p b f (((((((((((((((w.setCell ⟨g,0,none⟩ v0).setCell ⟨g,1,none⟩ v1).setCell ⟨g,2,none⟩ v2).setCell ⟨g,3,none⟩ v3).setCell ⟨g,4,none⟩ v4).setCell ⟨g,5,none⟩ v5).setCell ⟨g,6,none⟩ v6).setCell ⟨g,7,none⟩ v7).setCell ⟨g,8,none⟩ v8).setCell ⟨g,9,none⟩ v9).setCell ⟨g,10,none⟩ aa).setCell ⟨g,11,none⟩ ab).setCell ⟨g,12,none⟩ ac).setCell ⟨g,13,none⟩ ad)):=
 have e0:=Jy g b (by omega) [v0,v1,v2,v3,v4,v5,v6,v7,v8,v9,aa,ab,ac,ad] 0 w;have e1:=Jy g (b+1) (by omega) [v0,v1,v2,v3,v4,v5,v6,v7,v8,v9,aa,ab,ac,ad] 0 w;have e2:=Lj g [v0,v1,v2,v3,v4,v5,v6,v7,v8,v9,aa,ab,ac,ad] 0 w
 by
 simp only[Lk,Nat.reduceAdd] at e0 e1 e2;refine⟨Nat.lt_of_lt_of_eq h.lt e2.symm,h.n0,h.n1,Eq.trans (b:=w.cell? ⟨b,0,none⟩) ?_ h.c0,Eq.trans (b:=w.cell? ⟨b+1,0,none⟩) ?_ h.c1⟩
 ·exact World.cell?_of_block (w:=w) e0
 ·exact World.cell?_of_block (w:=w) e1
theorem Tryz.size376:(Tryz.prog.info? 376).map (·.size)=some 14:=by kernel_rfl
set_option maxRecDepth 100000 in
theorem Kr(p:Nat)(w:World)(hp:p<w.heap.size) :
  Calls aB 304 #[dH (some ⟨p,0,none⟩)] w λe w'=>e = dF (.agg (Tf p (w.heap.size+1)))/\Boxes p (w.heap.size+1) w'/\ZD w w':=by
 have dh:∀ (fn:Fn) (first cap:Array Value) (w:World),(Instr.makeFunc fn first cap).run aB w = .ok (.func fn first cap) w:=λ_ _ _ _=>rfl;have HP:=Zd hp;clear hp;go_enter Tryz.func304,Tryz.ntmps304;go_wp2_with fail;refine (Ho p (w.heap.size+1) _ _ (by have:=Za HP;simp;omega) (by simp)).mono ?_;rintro e w1 ⟨rfl,x5,s1,b1⟩;obtain⟨HB,S1,X5⟩:=kh3 b1 s1 x5;clear b1 s1 x5;have H0:Hid (w1.heap[w.heap.size]? = some (dE #[.nilFunc,.nilFunc,.nilFunc,.nilFunc,.nilFunc,.nilFunc,.nilFunc,.nilFunc,.nilFunc,.nilFunc,.nilFunc,.nilFunc,.nilFunc,.nilFunc] 376 (0,0))):=(HB.block _ (by omega)).trans (aG _ _);go_wp2_with fail;refine (Ho p (w.heap.size+3) _ _ (by have:=Za HP;have:=Za S1;omega) (by have:=Za S1;omega)).mono ?_;rintro e w2 ⟨rfl,x6,s2,b2⟩;obtain⟨B2,S2,X6⟩:=kh3 b2 s2 x6;clear b2 s2 x6;go_wp2_with fail;refine (Ho p (w.heap.size+5) _ _ (by have:=Za HP;have:=Za S2;omega) (by have:=Za S2;omega)).mono ?_;rintro e w3 ⟨rfl,x7,s3,b3⟩;obtain⟨B3,S3,X7⟩:=kh3 b3 s3 x7;clear b3 s3 x7;go_wp2_with fail;refine (Ho p (w.heap.size+7) _ _ (by have:=Za HP;have:=Za S3;omega) (by have:=Za S3;omega)).mono ?_;rintro e w4 ⟨rfl,x8,s4,b4⟩;obtain⟨B4,S4,X8⟩:=kh3 b4 s4 x8;clear b4 s4 x8;go_wp2_with fail;refine (Zjv p (w.heap.size+9) _ _ (by have:=Za HP;have:=Za S4;omega) (by have:=Za S4;omega)).mono ?_;rintro e w5 ⟨rfl,x9,s5,b5⟩;obtain⟨B5,S5,X9⟩:=kh3 b5 s5 x9;clear b5 s5 x9;go_wp2_with fail;refine (Ho p (w.heap.size+11) _ _ (by have:=Za HP;have:=Za S5;omega) (by have:=Za S5;omega)).mono ?_
 rintro e w6 ⟨rfl,x10,s6,b6⟩;obtain⟨B6,S6,bt⟩:=kh3 b6 s6 x10;clear b6 s6 x10;go_wp2_with fail;refine (Zjv p (w.heap.size+13) _ _ (by have:=Za HP;have:=Za S6;omega) (by have:=Za S6;omega)).mono ?_;rintro e w7 ⟨rfl,x13,s7,b7⟩;obtain⟨B7,S7,bu⟩:=kh3 b7 s7 x13;clear b7 s7 x13
 have bs:Below (w.heap.size+1) (w.alloc (dE #[.nilFunc,.nilFunc,.nilFunc,.nilFunc,.nilFunc,.nilFunc,.nilFunc,.nilFunc,.nilFunc,.nilFunc,.nilFunc,.nilFunc,.nilFunc,.nilFunc] 376)) w7:=
  HB.trans ((B2.mono (by omega)).trans ((B3.mono (by omega)).trans ((B4.mono (by omega)).trans ((B5.mono (by omega)).trans ((B6.mono (by omega)).trans (B7.mono (by omega)))))))
 have BS:=Zd bs;have h0:w7.heap[w.heap.size]? = some (dE #[.nilFunc,.nilFunc,.nilFunc,.nilFunc,.nilFunc,.nilFunc,.nilFunc,.nilFunc,.nilFunc,.nilFunc,.nilFunc,.nilFunc,.nilFunc,.nilFunc] 376 (0,0)):=(bs.block _ (by omega)).trans (aG _ _);have H7:=Zd h0;clear bs h0;have di:=λ(a:Addr) (fn:Fn) (fs cs:Array Value) (w:World)=>run_store aB w a (.func fn fs cs) .plain rfl;have dj:=λ(a:Addr) (w:World)=>run_store aB w a .nilFunc .plain rfl;have z0:w7.cell? ⟨w.heap.size,0,none⟩=some .nilFunc:=cell_of_row _ _ 0 _ _ _ H7;have f0:w7.frozen? ⟨w.heap.size,0,none⟩=false:=cY _ _ 0 _ _ H7;have z1:w7.cell? ⟨w.heap.size,1,none⟩=some .nilFunc:=cell_of_row _ _ 1 _ _ _ H7;have f1:w7.frozen? ⟨w.heap.size,1,none⟩=false:=cY _ _ 1 _ _ H7;have z2:w7.cell? ⟨w.heap.size,2,none⟩=some .nilFunc:=cell_of_row _ _ 2 _ _ _ H7;have f2:w7.frozen? ⟨w.heap.size,2,none⟩=false:=cY _ _ 2 _ _ H7;have z3:w7.cell? ⟨w.heap.size,3,none⟩=some .nilFunc:=cell_of_row _ _ 3 _ _ _ H7;have f3:w7.frozen? ⟨w.heap.size,3,none⟩=false:=cY _ _ 3 _ _ H7;have z4:w7.cell? ⟨w.heap.size,4,none⟩=some .nilFunc:=cell_of_row _ _ 4 _ _ _ H7;have f4:w7.frozen? ⟨w.heap.size,4,none⟩=false:=cY _ _ 4 _ _ H7;have z5:w7.cell? ⟨w.heap.size,5,none⟩=some .nilFunc:=cell_of_row _ _ 5 _ _ _ H7;have f5:w7.frozen? ⟨w.heap.size,5,none⟩=false:=cY _ _ 5 _ _ H7;have z6:w7.cell? ⟨w.heap.size,6,none⟩=some .nilFunc:=cell_of_row _ _ 6 _ _ _ H7
 have f6:w7.frozen? ⟨w.heap.size,6,none⟩=false:=cY _ _ 6 _ _ H7;have z7:w7.cell? ⟨w.heap.size,7,none⟩=some .nilFunc:=cell_of_row _ _ 7 _ _ _ H7;have f7:w7.frozen? ⟨w.heap.size,7,none⟩=false:=cY _ _ 7 _ _ H7;have z8:w7.cell? ⟨w.heap.size,8,none⟩=some .nilFunc:=cell_of_row _ _ 8 _ _ _ H7;have f8:w7.frozen? ⟨w.heap.size,8,none⟩=false:=cY _ _ 8 _ _ H7;have z9:w7.cell? ⟨w.heap.size,9,none⟩=some .nilFunc:=cell_of_row _ _ 9 _ _ _ H7;have f9:w7.frozen? ⟨w.heap.size,9,none⟩=false:=cY _ _ 9 _ _ H7;have dm:w7.cell? ⟨w.heap.size,10,none⟩=some .nilFunc:=cell_of_row _ _ 10 _ _ _ H7;have cw:w7.frozen? ⟨w.heap.size,10,none⟩=false:=cY _ _ 10 _ _ H7;have dn:w7.cell? ⟨w.heap.size,11,none⟩=some .nilFunc:=cell_of_row _ _ 11 _ _ _ H7;have cx:w7.frozen? ⟨w.heap.size,11,none⟩=false:=cY _ _ 11 _ _ H7;have dp:w7.cell? ⟨w.heap.size,12,none⟩=some .nilFunc:=cell_of_row _ _ 12 _ _ _ H7;have f12:w7.frozen? ⟨w.heap.size,12,none⟩=false:=cY _ _ 12 _ _ H7;have dq:w7.cell? ⟨w.heap.size,13,none⟩=some .nilFunc:=cell_of_row _ _ 13 _ _ _ H7;have cy:w7.frozen? ⟨w.heap.size,13,none⟩=false:=cY _ _ 13 _ _ H7;go_wp2;refine bodyPost_ret (v:=.agg (Tf p (w.heap.size+1))) (results_cell_row rfl _ _ w.heap.size 376 (Tf p (w.heap.size+1)) (0,0) _ rfl (Zbf _ _ _ _ _ _ _ _ _ _ _ _ _ _ _ _ _ H7) Tryz.underlying376 rfl Tryz.size376) rfl ⟨rfl,?_,?_⟩
 ·have t2:=Za B2;have t3:=Za B3;have t4:=Za B4;have t5:=Za B5;have t6:=Za B6;have t7:=Za B7;have y5:=(((((X5.later t2 (by omega)).later t3 (by omega)).later t4 (by omega)).later t5 (by omega)).later t6 (by omega)).later t7 (by omega);have y6:=((((X6.later t3 (by omega)).later t4 (by omega)).later t5 (by omega)).later t6 (by omega)).later t7 (by omega);have y7:=(((X7.later t4 (by omega)).later t5 (by omega)).later t6 (by omega)).later t7 (by omega);have y8:=((X8.later t5 (by omega)).later t6 (by omega)).later t7 (by omega);have y9:=(X9.later t6 (by omega)).later t7 (by omega);have cf:=bt.later t7 (by omega);have cg:=Za bu;exact⟨Wi _ _ _ _ _ _ _ _ _ _ _ _ _ _ _ _ y5 (by omega),Wi _ _ _ _ _ _ _ _ _ _ _ _ _ _ _ _ y6 (by omega),Wi _ _ _ _ _ _ _ _ _ _ _ _ _ _ _ _ y7 (by omega),Wi _ _ _ _ _ _ _ _ _ _ _ _ _ _ _ _ y8 (by omega),Wi _ _ _ _ _ _ _ _ _ _ _ _ _ _ _ _ y9 (by omega),Wi _ _ _ _ _ _ _ _ _ _ _ _ _ _ _ _ cf (by omega),Wi _ _ _ _ _ _ _ _ _ _ _ _ _ _ _ _ cg (by omega)⟩
 ·exact Zbg _ _ _ _ _ _ _ _ _ _ _ _ _ _ _ _ _ _ (((Below.refl _ w).alloc (Nat.le_refl _) _).trans (BS.mono (by omega))) (Nat.le_refl _)
