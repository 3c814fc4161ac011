import Derived.Test.YtpikejjiignchaaGreatDoorH
import Derived.Test.YtpikejjiignchaaGreatDoorG6
open Go renaming heap_alloc_new->aK,frozen_of_row->dC
open Go.Ending renaming returned->dX
open Go.Obj renaming cells->dW
open Go.Proofs.Tryz renaming prog->aB
open Go.Value renaming pointer->dZ
open Go.World renaming cell?_alloc_at->cH,cell?_of_block->cR
set_option maxHeartbeats 1600000
namespace Go.Proofs.YtpikejjiignchaaGreatDoor
open Go.RowKit
structure Boxed(p b:Nat)(f:Value)(w:World):Prop where
 lt:b+1<w.heap.size
 n0:b≠p
 n1:b+1≠p
 c0:w.cell? ⟨b,0,none⟩=some (dZ (some ⟨p,0,none⟩))
 c1:w.cell? ⟨b+1,0,none⟩=some f
theorem Boxed.later{p b:Nat}{f w w'}(h:Boxed p b f w){B:Nat}(z:Below B w w')(O:b+1<B):Boxed p b f w':=
 ⟨Nat.lt_of_lt_of_le h.lt z.size,h.n0,h.n1,(z.cell (p:=⟨b,0,none⟩) (Nat.lt_of_succ_lt O)).trans h.c0,(z.cell (p:=⟨b+1,0,none⟩) O).trans h.c1⟩
theorem Ba(p:Nat)(f)(w:World)(t u:TypeId)(z:p<w.heap.size):Boxed p w.heap.size f ((w.alloc (dW #[dZ (some ⟨p,0,none⟩)] t)).alloc (dW #[f] u)) where
 lt:=by simp
 n0:=by omega
 n1:=by omega
 c0:=by
  rw[World.cell?_alloc_past _ _ _ (by simp),cH _ _ _ _ rfl];rfl
 c1:=by
  rw[cH _ _ _ _ (by simp)];rfl
theorem Fw(w:World)(o u:Obj):ZD w ((w.alloc o).alloc u):=
 ((Below.refl _ _).alloc (Nat.le_refl _) _).alloc (by simp) _
def Zem(b:Nat):Value:=.func (.func 271) #[] #[dZ (some ⟨b,0,none⟩),dZ (some ⟨b+1,0,none⟩)]
def Zpj(b:Nat):Value:=.func (.func 272) #[] #[dZ (some ⟨b,0,none⟩),dZ (some ⟨b+1,0,none⟩)]
def met(p:Nat)(k:Nat):Value:=.func (.func k) #[dZ (some ⟨p,0,none⟩)] #[]
theorem Mj(p b:Nat)(f:Fn)(w:World)(z:p<w.heap.size)(hb:w.heap.size=b) :
  Calls aB 257 #[dZ (some ⟨p,0,none⟩),.func f #[] #[]] w λe w'=>e = dX (.func (.func 271) #[] #[dZ (some ⟨b,0,none⟩),dZ (some ⟨b+1,0,none⟩)])/\Boxed p b (.func f #[] #[]) w'/\w'.heap.size=b+2/\Below b w w':=by
 subst hb;have O:=Zb z;clear z;have ab:∀ (fn:Fn) (first cap:Array Value) (w:World),(Instr.makeFunc fn first cap).run aB w = .ok (.func fn first cap) w:=λ_ _ _ _=>rfl;go_enter Tryz.func257,Tryz.ntmps257;go_wp2;go_ret;exact⟨rfl,Ba p _ w _ _ O,by simp,Fw _ _ _⟩
theorem Zll(p b:Nat)(f:Fn)(w:World)(z:p<w.heap.size)(hb:w.heap.size=b) :
  Calls aB 263 #[dZ (some ⟨p,0,none⟩),.func f #[] #[]] w λe w'=>e = dX (.func (.func 272) #[] #[dZ (some ⟨b,0,none⟩),dZ (some ⟨b+1,0,none⟩)])/\Boxed p b (.func f #[] #[]) w'/\w'.heap.size=b+2/\Below b w w':=by
 subst hb;have O:=Zb z;clear z;have ab:∀ (fn:Fn) (first cap:Array Value) (w:World),(Instr.makeFunc fn first cap).run aB w = .ok (.func fn first cap) w:=λ_ _ _ _=>rfl;go_enter Tryz.func263,Tryz.ntmps263;go_wp2;go_ret;exact⟨rfl,Ba p _ w _ _ O,by simp,Fw _ _ _⟩
def Ph(p b:Nat):Array Value:=#[.nilFunc,met p 247,met p 254,met p 255,met p 256,Zem b,Zem (b+2),Zem (b+4),Zem (b+6),Zpj (b+8),Zem (b+10),met p 266,met p 267,Zpj (b+12)]
structure Boxes(p b:Nat)(w:World):Prop where
 x5:Boxed p b (.func (.func 258) #[] #[]) w
 x6:Boxed p (b+2) (.func (.func 259) #[] #[]) w
 x7:Boxed p (b+4) (.func (.func 260) #[] #[]) w
 x8:Boxed p (b+6) (.func (.func 262) #[] #[]) w
 x9:Boxed p (b+8) (.func (.func 264) #[] #[]) w
 x10:Boxed p (b+10) (.func (.func 265) #[] #[]) w
 x13:Boxed p (b+12) (.func (.func 268) #[] #[]) w
def Df(g:Nat):List Value->Nat->World->World
 | [],_,w=>w
 | v :: r,i,w=>Df g r (i+1) (w.setCell ⟨g,i,none⟩ v)
def Zmk:List Value->Nat->Array Value->Array Value
 | [],_,c=>c
 | v :: r,i,c=>Zmk r (i+1) (c.setIfInBounds i v)
theorem La(g:Nat)(t:TypeId):∀ (z:List Value) (i:Nat) (w:World) (c:Array Value),w.heap[g]? = some (dW c t (0,0))->(Df g z i w).heap[g]? = some (dW (Zmk z i c) t (0,0))
 | [],_,_,_,h=>h
 | v :: r,i,w,c,h=>La g t r (i+1) _ _ (heap_setCell_same w g i c t v h)
theorem To(g k:Nat)(z:k≠g):∀ (O:List Value) (i:Nat) (w:World),(Df g O i w).heap[k]? = w.heap[k]?
 | [],_,_=>rfl
 | v :: r,i,w=>(To g k z r (i+1) _).trans (heap_setCell_other w ⟨g,i,none⟩ k v z)
theorem Lb(g:Nat):∀ (z:List Value) (i:Nat) (B:Nat) (W w:World),Below B W w->B<=g->Below B W (Df g z i w)
 | [],_,_,_,_,h,_=>h
 | v :: r,i,B,W,_,h,hg=>Lb g r (i+1) B W _ (h.setCell (p:=⟨g,i,none⟩) hg v) hg
theorem De(g:Nat):∀ (z:List Value) (i:Nat) (w:World),(Df g z i w).heap.size=w.heap.size
 | [],_,_=>rfl
 | _ :: r,i,_=>(De g r (i+1) _).trans (World.size_setCell _ _ _)
theorem Zdp(g:Nat)(t:TypeId)(w:World)(v0 v1 v2 v3 v4 v5 v6 v7 v8 v9 z O aa ab)(h:w.heap[g]? = some (dW #[.nilFunc,.nilFunc,.nilFunc,.nilFunc,.nilFunc,.nilFunc,.nilFunc,.nilFunc,.nilFunc,.nilFunc,.nilFunc,.nilFunc,.nilFunc,.nilFunc] t (0,0))) :
  (((((((((((((((w.setCell ⟨g,0,none⟩ v0).setCell ⟨g,1,none⟩ v1).setCell ⟨g,2,none⟩ v2).setCell ⟨g,3,none⟩ v3).setCell ⟨g,4,none⟩ v4).setCell ⟨g,5,none⟩ v5).setCell ⟨g,6,none⟩ v6).setCell ⟨g,7,none⟩ v7).setCell ⟨g,8,none⟩ v8).setCell ⟨g,9,none⟩ v9).setCell ⟨g,10,none⟩ z).setCell ⟨g,11,none⟩ O).setCell ⟨g,12,none⟩ aa).setCell ⟨g,13,none⟩ ab)).heap[g]? = some (dW #[v0,v1,v2,v3,v4,v5,v6,v7,v8,v9,z,O,aa,ab] t (0,0)):=by
 have e:=La g t [v0,v1,v2,v3,v4,v5,v6,v7,v8,v9,z,O,aa,ab] 0 w _ h;simp only[Df,Zmk,Nat.reduceAdd] at e;simpa using e
theorem Zdq(g:Nat)(W w:World)(v0 v1 v2 v3 v4 v5 v6 v7 v8 v9 z O aa ab)(B:Nat)(h:Below B W w)(hB:B<=g):Below B W (((((((((((((((w.setCell ⟨g,0,none⟩ v0).setCell ⟨g,1,none⟩ v1).setCell ⟨g,2,none⟩ v2).setCell ⟨g,3,none⟩ v3).setCell ⟨g,4,none⟩ v4).setCell ⟨g,5,none⟩ v5).setCell ⟨g,6,none⟩ v6).setCell ⟨g,7,none⟩ v7).setCell ⟨g,8,none⟩ v8).setCell ⟨g,9,none⟩ v9).setCell ⟨g,10,none⟩ z).setCell ⟨g,11,none⟩ O).setCell ⟨g,12,none⟩ aa).setCell ⟨g,13,none⟩ ab)):=Lb g [v0,v1,v2,v3,v4,v5,v6,v7,v8,v9,z,O,aa,ab] 0 B W w h hB
theorem Vm(g:Nat)(w:World)(v0 v1 v2 v3 v4 v5 v6 v7 v8 v9 z O aa ab){p b:Nat}{f}(h:Boxed p b f w)(hg:g<b):Boxed p b f (((((((((((((((w.setCell ⟨g,0,none⟩ v0).setCell ⟨g,1,none⟩ v1).setCell ⟨g,2,none⟩ v2).setCell ⟨g,3,none⟩ v3).setCell ⟨g,4,none⟩ v4).setCell ⟨g,5,none⟩ v5).setCell ⟨g,6,none⟩ v6).setCell ⟨g,7,none⟩ v7).setCell ⟨g,8,none⟩ v8).setCell ⟨g,9,none⟩ v9).setCell ⟨g,10,none⟩ z).setCell ⟨g,11,none⟩ O).setCell ⟨g,12,none⟩ aa).setCell ⟨g,13,none⟩ ab)):=
 have e0:=To g b (by omega) [v0,v1,v2,v3,v4,v5,v6,v7,v8,v9,z,O,aa,ab] 0 w;have e1:=To g (b+1) (by omega) [v0,v1,v2,v3,v4,v5,v6,v7,v8,v9,z,O,aa,ab] 0 w;have e2:=De g [v0,v1,v2,v3,v4,v5,v6,v7,v8,v9,z,O,aa,ab] 0 w
 by
 simp only[Df,Nat.reduceAdd] at e0 e1 e2;refine⟨Nat.lt_of_lt_of_eq h.lt e2.symm,h.n0,h.n1,Eq.trans (b:=w.cell? ⟨b,0,none⟩) ?_ h.c0,Eq.trans (b:=w.cell? ⟨b+1,0,none⟩) ?_ h.c1⟩
 ·exact cR (w:=w) e0
 ·exact cR (w:=w) e1
theorem Tryz.size344:(Tryz.prog.info? 344).map (·.size)=some 14:=by kernel_rfl
set_option maxRecDepth 100000 in
theorem Ni(p:Nat)(w:World)(hp:p<w.heap.size) :
  Calls aB 248 #[dZ (some ⟨p,0,none⟩)] w λe w'=>e = dX (.agg (Ph p (w.heap.size+1)))/\Boxes p (w.heap.size+1) w'/\ZD w w':=by
 have db:∀ (fn:Fn) (first cap:Array Value) (w:World),(Instr.makeFunc fn first cap).run aB w = .ok (.func fn first cap) w:=λ_ _ _ _=>rfl;have HP:=Zb hp;clear hp;go_enter Tryz.func248,Tryz.ntmps248;go_wp2_with fail;refine (Mj p (w.heap.size+1) _ _ (by have:=Za HP;simp;omega) (by simp)).mono ?_;rintro e w1 ⟨rfl,x5,s1,b1⟩;have HB:=Zb b1;have S1:=Zb s1;have X5:=Zb x5;clear b1 s1 x5;have H0:Hid (w1.heap[w.heap.size]? = some (dW #[.nilFunc,.nilFunc,.nilFunc,.nilFunc,.nilFunc,.nilFunc,.nilFunc,.nilFunc,.nilFunc,.nilFunc,.nilFunc,.nilFunc,.nilFunc,.nilFunc] 344 (0,0))):=(HB.block _ (by omega)).trans (aK _ _);go_wp2_with fail;refine (Mj p (w.heap.size+3) _ _ (by have:=Za HP;have:=Za S1;omega) (by have:=Za S1;omega)).mono ?_;rintro e w2 ⟨rfl,x6,s2,b2⟩;have B2:=Zb b2;have S2:=Zb s2;have X6:=Zb x6;clear b2 s2 x6;go_wp2_with fail;refine (Mj p (w.heap.size+5) _ _ (by have:=Za HP;have:=Za S2;omega) (by have:=Za S2;omega)).mono ?_;rintro e w3 ⟨rfl,x7,s3,b3⟩;have B3:=Zb b3;have S3:=Zb s3;have X7:=Zb x7;clear b3 s3 x7;go_wp2_with fail;refine (Mj p (w.heap.size+7) _ _ (by have:=Za HP;have:=Za S3;omega) (by have:=Za S3;omega)).mono ?_;rintro e w4 ⟨rfl,x8,s4,b4⟩;have B4:=Zb b4;have S4:=Zb s4;have X8:=Zb x8;clear b4 s4 x8;go_wp2_with fail;refine (Zll p (w.heap.size+9) _ _ (by have:=Za HP;have:=Za S4;omega) (by have:=Za S4;omega)).mono ?_;rintro e w5 ⟨rfl,x9,s5,b5⟩;have B5:=Zb b5;have S5:=Zb s5;have X9:=Zb x9;clear b5 s5 x9;go_wp2_with fail
 refine (Mj p (w.heap.size+11) _ _ (by have:=Za HP;have:=Za S5;omega) (by have:=Za S5;omega)).mono ?_;rintro e w6 ⟨rfl,x10,s6,b6⟩;have B6:=Zb b6;have S6:=Zb s6;have bo:=Zb x10;clear b6 s6 x10;go_wp2_with fail;refine (Zll p (w.heap.size+13) _ _ (by have:=Za HP;have:=Za S6;omega) (by have:=Za S6;omega)).mono ?_;rintro e z ⟨rfl,x13,s7,b7⟩;have B7:=Zb b7;have S7:=Zb s7;have bq:=Zb x13;clear b7 s7 x13
 have bs:Below (w.heap.size+1) (w.alloc (dW #[.nilFunc,.nilFunc,.nilFunc,.nilFunc,.nilFunc,.nilFunc,.nilFunc,.nilFunc,.nilFunc,.nilFunc,.nilFunc,.nilFunc,.nilFunc,.nilFunc] 344)) z:=
  HB.trans ((B2.mono (by omega)).trans ((B3.mono (by omega)).trans ((B4.mono (by omega)).trans ((B5.mono (by omega)).trans ((B6.mono (by omega)).trans (B7.mono (by omega)))))))
 have BS:=Zb bs;have h0:z.heap[w.heap.size]? = some (dW #[.nilFunc,.nilFunc,.nilFunc,.nilFunc,.nilFunc,.nilFunc,.nilFunc,.nilFunc,.nilFunc,.nilFunc,.nilFunc,.nilFunc,.nilFunc,.nilFunc] 344 (0,0)):=(bs.block _ (by omega)).trans (aK _ _);have O:=Zb h0;clear bs h0;have dc:=λ(a:Addr) (fn:Fn) (fs cs:Array Value) (w:World)=>run_store aB w a (.func fn fs cs) .plain rfl;have dd:=λ(a:Addr) (w:World)=>run_store aB w a .nilFunc .plain rfl;have z0:z.cell? ⟨w.heap.size,0,none⟩=some .nilFunc:=cell_of_row _ _ 0 _ _ _ O;have f0:z.frozen? ⟨w.heap.size,0,none⟩=false:=dC _ _ 0 _ _ O;have z1:z.cell? ⟨w.heap.size,1,none⟩=some .nilFunc:=cell_of_row _ _ 1 _ _ _ O;have f1:z.frozen? ⟨w.heap.size,1,none⟩=false:=dC _ _ 1 _ _ O;have z2:z.cell? ⟨w.heap.size,2,none⟩=some .nilFunc:=cell_of_row _ _ 2 _ _ _ O;have f2:z.frozen? ⟨w.heap.size,2,none⟩=false:=dC _ _ 2 _ _ O;have z3:z.cell? ⟨w.heap.size,3,none⟩=some .nilFunc:=cell_of_row _ _ 3 _ _ _ O;have f3:z.frozen? ⟨w.heap.size,3,none⟩=false:=dC _ _ 3 _ _ O;have z4:z.cell? ⟨w.heap.size,4,none⟩=some .nilFunc:=cell_of_row _ _ 4 _ _ _ O;have f4:z.frozen? ⟨w.heap.size,4,none⟩=false:=dC _ _ 4 _ _ O;have z5:z.cell? ⟨w.heap.size,5,none⟩=some .nilFunc:=cell_of_row _ _ 5 _ _ _ O;have f5:z.frozen? ⟨w.heap.size,5,none⟩=false:=dC _ _ 5 _ _ O;have z6:z.cell? ⟨w.heap.size,6,none⟩=some .nilFunc:=cell_of_row _ _ 6 _ _ _ O
 have f6:z.frozen? ⟨w.heap.size,6,none⟩=false:=dC _ _ 6 _ _ O;have z7:z.cell? ⟨w.heap.size,7,none⟩=some .nilFunc:=cell_of_row _ _ 7 _ _ _ O;have f7:z.frozen? ⟨w.heap.size,7,none⟩=false:=dC _ _ 7 _ _ O;have z8:z.cell? ⟨w.heap.size,8,none⟩=some .nilFunc:=cell_of_row _ _ 8 _ _ _ O;have f8:z.frozen? ⟨w.heap.size,8,none⟩=false:=dC _ _ 8 _ _ O;have z9:z.cell? ⟨w.heap.size,9,none⟩=some .nilFunc:=cell_of_row _ _ 9 _ _ _ O;have f9:z.frozen? ⟨w.heap.size,9,none⟩=false:=dC _ _ 9 _ _ O;have di:z.cell? ⟨w.heap.size,10,none⟩=some .nilFunc:=cell_of_row _ _ 10 _ _ _ O;have cn:z.frozen? ⟨w.heap.size,10,none⟩=false:=dC _ _ 10 _ _ O;have dj:z.cell? ⟨w.heap.size,11,none⟩=some .nilFunc:=cell_of_row _ _ 11 _ _ _ O;have co:z.frozen? ⟨w.heap.size,11,none⟩=false:=dC _ _ 11 _ _ O;have dl:z.cell? ⟨w.heap.size,12,none⟩=some .nilFunc:=cell_of_row _ _ 12 _ _ _ O;have cp:z.frozen? ⟨w.heap.size,12,none⟩=false:=dC _ _ 12 _ _ O;have dm:z.cell? ⟨w.heap.size,13,none⟩=some .nilFunc:=cell_of_row _ _ 13 _ _ _ O;have cq:z.frozen? ⟨w.heap.size,13,none⟩=false:=dC _ _ 13 _ _ O;go_wp2;refine bodyPost_ret (v:=.agg (Ph p (w.heap.size+1))) (results_cell_row rfl _ _ w.heap.size 344 (Ph p (w.heap.size+1)) (0,0) _ rfl (Zdp _ _ _ _ _ _ _ _ _ _ _ _ _ _ _ _ _ O) Tryz.underlying344 rfl Tryz.size344) rfl ⟨rfl,?_,?_⟩
 ·have t2:=Za B2;have t3:=Za B3;have t4:=Za B4;have t5:=Za B5;have t6:=Za B6;have t7:=Za B7;have y5:=(((((X5.later t2 (by omega)).later t3 (by omega)).later t4 (by omega)).later t5 (by omega)).later t6 (by omega)).later t7 (by omega);have y6:=((((X6.later t3 (by omega)).later t4 (by omega)).later t5 (by omega)).later t6 (by omega)).later t7 (by omega);have y7:=(((X7.later t4 (by omega)).later t5 (by omega)).later t6 (by omega)).later t7 (by omega);have y8:=((X8.later t5 (by omega)).later t6 (by omega)).later t7 (by omega);have y9:=(X9.later t6 (by omega)).later t7 (by omega);have ca:=bo.later t7 (by omega);have cb:=Za bq;exact⟨Vm _ _ _ _ _ _ _ _ _ _ _ _ _ _ _ _ y5 (by omega),Vm _ _ _ _ _ _ _ _ _ _ _ _ _ _ _ _ y6 (by omega),Vm _ _ _ _ _ _ _ _ _ _ _ _ _ _ _ _ y7 (by omega),Vm _ _ _ _ _ _ _ _ _ _ _ _ _ _ _ _ y8 (by omega),Vm _ _ _ _ _ _ _ _ _ _ _ _ _ _ _ _ y9 (by omega),Vm _ _ _ _ _ _ _ _ _ _ _ _ _ _ _ _ ca (by omega),Vm _ _ _ _ _ _ _ _ _ _ _ _ _ _ _ _ cb (by omega)⟩
 ·exact Zdq _ _ _ _ _ _ _ _ _ _ _ _ _ _ _ _ _ _ (((Below.refl _ w).alloc (Nat.le_refl _) _).trans (BS.mono (by omega))) (Nat.le_refl _)
