import Derived.Test.YtpikejjiignchaaGreatDoorG2
import Derived.Deep.RegionHeld3
set_option maxHeartbeats 1600000
namespace Go.Proofs.YtpikejjiignchaaGreatDoor
abbrev InD:=Int×Int×List (Int×Int)
abbrev Zw:=Int×List (Int×Int)
abbrev TxD:=Int×List InD×List Zw
def T8(x:InD):Bool:=(decide (1≤x.1) && decide (x.1≤120)) && (decide (0≤x.2.1) && decide (x.2.1≤5))
def Wj(x y:InD):Bool:=decide (y.1=x.1) && decide (y.2.1=x.2.1)
def Wf(pre:List InD)(x:InD):Int:=if T8 x=false then 3 else if chk x.2.2≠0 then chk x.2.2 else if pre.any (Wj x) then 6 else 0
def Zz(pre:List InD):List InD→Int
 | []=>0
 | x :: r=>if Wf pre x=0 then Zz (pre++[x]) r else Wf pre x
def Yo(x:Zw):Int:=if x.1<1 then 3 else chk x.2
def Zx:List Zw→Int
 | []=>0
 | x :: r=>if Yo x=0 then Zx r else Yo x
def sm:Int→List Int→Int×Int
 | s,[]=>(s,0)
 | s,x :: l=>if 0≤x∧x≤1000000000 then (if s+x≤1000000000 then sm (s+x) l else (0,12)) else (0,3)
theorem Bu(s:Int)(Z:List Int)(k:Nat)(hk:k<Z.length)(h1:0≤Z.getD k 0)(h2:Z.getD k 0≤1000000000)(h3:s+Z.getD k 0≤1000000000) :
  sm s (Z.drop k)=sm (s+Z.getD k 0) (Z.drop (k+1)):=by
 have e:Z.drop k=Z.getD k 0 :: Z.drop (k+1):=by
  rw[List.drop_eq_getElem_cons hk];simp[List.getD,hk]
 rw[e,sm,if_pos ⟨h1,h2⟩,if_pos h3]
theorem Bv(s:Int)(Z:List Int)(k:Nat)(hk:k<Z.length)(h1:0≤Z.getD k 0)(h2:Z.getD k 0≤1000000000)(h3:1000000000<s+Z.getD k 0) :
  sm s (Z.drop k)=(0,12):=by
 have e:Z.drop k=Z.getD k 0 :: Z.drop (k+1):=by
  rw[List.drop_eq_getElem_cons hk];simp[List.getD,hk]
 rw[e,sm,if_pos ⟨h1,h2⟩,if_neg (by omega)]
theorem Nl(s:Int)(Z:List Int)(k:Nat)(hk:k<Z.length)(h:Z.getD k 0<0∨1000000000<Z.getD k 0) :
  sm s (Z.drop k)=(0,3):=by
 have e:Z.drop k=Z.getD k 0 :: Z.drop (k+1):=by
  rw[List.drop_eq_getElem_cons hk];simp[List.getD,hk]
 rw[e,sm,if_neg (by omega)]
theorem Zbu(s:Int)(Z:List Int)(k:Nat)(hk:Z.length≤k):sm s (Z.drop k)=(s,0):=by
 rw[List.drop_of_length_le hk];rfl
def Hf(t:TxD):Bool:=if t.2.1.length=0 then decide (1≤t.1) && decide (t.1≤1000) else decide (t.1=0)
def Zs(l:List Zw):Int:=if Zx l=0 then (sm 0 (l.map (·.1))).2 else Zx l
def Zo(t:TxD):Int:=
 if 6<t.2.1.length∨6<t.2.2.length then 2 else if t.2.2.length=0 then 4 else if Hf t=false then 3
 else if Zz [] t.2.1≠0 then Zz [] t.2.1 else Zs t.2.2
theorem Pp(L:List InD)(k:Nat)(hk:k<L.length)(h:Wf (L.take k) L[k]=0):Zz (L.take k) (L.drop k)=Zz (L.take (k+1)) (L.drop (k+1)):=by
 rw[List.drop_eq_getElem_cons hk,Zz,if_pos h,List.take_succ_eq_append_getElem hk]
theorem Po(L:List InD)(k:Nat)(hk:k<L.length)(h:Wf (L.take k) L[k]≠0):Zz (L.take k) (L.drop k)=Wf (L.take k) L[k]:=by
 rw[List.drop_eq_getElem_cons hk,Zz,if_neg h]
theorem Ht(L:List InD)(k:Nat)(hk:L.length≤k):Zz (L.take k) (L.drop k)=0:=by
 rw[List.drop_of_length_le hk];rfl
theorem Qv(L:List Zw)(k:Nat)(hk:k<L.length)(h:Yo L[k]=0):Zx (L.drop k)=Zx (L.drop (k+1)):=by
 rw[List.drop_eq_getElem_cons hk,Zx,if_pos h]
theorem Qu(L:List Zw)(k:Nat)(hk:k<L.length)(h:Yo L[k]≠0):Zx (L.drop k)=Yo L[k]:=by
 rw[List.drop_eq_getElem_cons hk,Zx,if_neg h]
theorem Jj(L:List Zw)(k:Nat)(hk:L.length≤k):Zx (L.drop k)=0:=by
 rw[List.drop_of_length_le hk];rfl
theorem Lv{pre:List InD}{x:InD}(h:T8 x=false):Wf pre x=3:=by unfold Wf;rw[if_pos h]
theorem Hv{pre:List InD}{x:InD}(h:T8 x=true)(hk:chk x.2.2≠0):Wf pre x=chk x.2.2:=by
 unfold Wf;rw[if_neg (by rw[h];decide),if_pos hk]
theorem Tu{pre:List InD}{x:InD}(h:T8 x=true)(hk:chk x.2.2=0)(ht:pre.any (Wj x)=true):Wf pre x=6:=by
 unfold Wf;rw[if_neg (by rw[h];decide),if_neg (by rw[hk];decide),if_pos ht]
theorem Lw{pre:List InD}{x:InD}(h:T8 x=true)(hk:chk x.2.2=0)(ht:pre.any (Wj x)=false):Wf pre x=0:=by
 unfold Wf;rw[if_neg (by rw[h];decide),if_neg (by rw[hk];decide),if_neg (by rw[ht];decide)]
def Vm(t u:TxD):Bool:=decide (t.1=u.1) && (decide (t.2.1=u.2.1) && decide (t.2.2=u.2.2))
theorem T5(t u:TxD):Vm t u=true↔t=u:=by
 obtain⟨a,b,c⟩:=t
 obtain⟨d,e,f⟩:=u
 unfold Vm
 simp only[Bool.and_eq_true,decide_eq_true_eq,Prod.mk.injEq]
open Go.RowKit
theorem ZA {α:Type}(l:List α)(i:Nat)(a:α):l.toArray.setIfInBounds i a=(l.set i a).toArray:=List.setIfInBounds_toArray ..
theorem ZB {α:Type}(a b:α)(l:List α):(a::l).set 0 b=b::l:=rfl
theorem ZC {α:Type}(a b:α)(l:List α)(n:Nat):(a::l).set (n+1) b=a::l.set n b:=rfl
theorem Zt {P:Program} {ops:Array Oper} {Q:Exit→Act→World→Prop} {md:Region.Mode} {S:World→Prop}(i:Nat)(oi:Oper)(v:Value) {fuel:Nat} {listed:Array Bool} {a:Act} {w:World}(hi:ops[i]? = some oi)(hy:∀ w,S w→(execOp a.eval oi).run P w = .ok (.value v) w)(hS:S w)(h:wpAnyH P md ops Q S fuel (listed.setIfInBounds i true) (a.put oi.dst v) w)(hQ:∀ c a w,Q (.panic c) (a.put oi.dst v) w→Q (.panic c) a w:=by exact fun _ _ _ h=>h)(hw:Region.wanted oi (yielded ops a.tmps)=true:=by rfl)(hs:Region.noSelect ops=true:=by kernel_rfl)(hf:Region.free md ops listed i=true:=by kernel_rfl)(hr:(Region.ready md ops listed).contains i=true:=by kernel_rfl):wpAnyH P md ops Q S (fuel+1) listed a w:=wpAnyH_take hi hs hf hr hQ (Or.inl ⟨hw,hy⟩) hS h
theorem Zb{p:Prop}(h:p):Hid p:=h
theorem Za{p:Prop}(h:Hid p):p:=h
theorem Va(n lo hi:Int)(w:World)(h1:lo≤n)(h2:n≤hi) :
  Calls Tryz.prog 114 #[.int .i64 n,.int .i64 lo,.int .i64 hi] w fun e w'=>e = .returned (.bool true)∧w=w':=by
 go_enter Tryz.func114,Tryz.ntmps114
 go_wp2
 go_ret
 exact⟨rfl,rfl⟩
theorem Jo(n lo hi:Int)(w:World)(h:n<lo∨hi<n) :
  Calls Tryz.prog 114 #[.int .i64 n,.int .i64 lo,.int .i64 hi] w fun e w'=>e = .returned (.bool false)∧w=w':=by
 by_cases h1:n<lo
 ·go_enter Tryz.func114,Tryz.ntmps114
  go_wp2
  go_ret
  exact⟨rfl,rfl⟩
 ·have h2:hi<n:=by omega
  have h3:lo≤n:=by omega
  have h4:decide (n≤hi)=false:=by simp;omega
  clear h
  go_enter Tryz.func114,Tryz.ntmps114
  go_wp2
  go_ret
  exact⟨rfl,rfl⟩
theorem Yq(n lo hi:Int)(b:Bool)(w:World)(hb:b=(decide (lo≤n) && decide (n≤hi))) :
  Calls Tryz.prog 114 #[.int .i64 n,.int .i64 lo,.int .i64 hi] w fun e w'=>e = .returned (.bool b)∧w=w':=by
 subst hb
 by_cases h1:lo≤n
 ·by_cases h2:n≤hi
  ·simpa[h1,h2] using Va n lo hi w h1 h2
  ·simpa[h1,h2] using Jo n lo hi w (by omega)
 ·simpa[h1] using Jo n lo hi w (by omega)
theorem Tk(n:Int)(b:Bool)(w:World)(hb:b=fit n) :
  Calls Tryz.prog 246 #[.int .i64 n] w fun e w'=>e = .returned (.bool b)∧w=w':=by
 have HB:=Zb hb
 clear hb
 go_enter Tryz.func246,Tryz.ntmps246
 go_wp2_with (go_at_call 114;refine (Yq _ _ _ b _ (Za HB)).mono ?_;rintro e w' ⟨rfl,rfl⟩)
 go_ret
 exact⟨rfl,rfl⟩
theorem R7{a b:Int}(h:a=b):Ending.returned (.int .i64 a) = .returned (.int .i64 b):=by rw[h]
theorem Hz(k n:Int)(w:World) :
  Calls Tryz.prog 222 #[.agg #[.int .i64 k,.int .i64 n]] w fun e w'=>e = .returned (.int .i64 (Y4 (k,n)))∧Below w.heap.size w w':=by
 have hb:∀ o,Below w.heap.size w (w.alloc o):=fun o=>(Below.refl _ _).alloc (Nat.le_refl _) _
 have HB:=Zb hb
 clear hb
 by_cases h1:k<1∨13<k
 ·have e:Y4 (k,n)=4:=by simp[Y4,h1]
  rw[e]
  clear e
  go_enter Tryz.func222,Tryz.ntmps222
  go_wp2_with (go_at_call 114;refine (Jo _ _ _ _ h1).mono ?_;rintro e w' ⟨rfl,rfl⟩)
  go_ret
  exact⟨rfl,(Za HB) _⟩
 ·have g1:1≤k:=by omega
  have g2:k≤13:=by omega
  by_cases h2:k=1
  ·subst h2
   clear h1
   cases h3:fit n with
   | false=>
    have e:Y4 (1,n)=3:=by simp[Y4,h3]
    rw[e]
    have H3:=Zb h3
    clear e h3
    go_enter Tryz.func222,Tryz.ntmps222
    go_wp2_with (first|(go_at_call 114;refine (Va _ _ _ _ (by decide) (by decide)).mono ?_;rintro e w' ⟨rfl,rfl⟩)|(go_at_call 246;refine (Tk _ false _ (Za H3).symm).mono ?_;rintro e w' ⟨rfl,rfl⟩))
    go_ret
    exact⟨rfl,(Za HB) _⟩
   | true=>
    have e:Y4 (1,n)=0:=by simp[Y4,h3]
    rw[e]
    have H3:=Zb h3
    clear e h3
    go_enter Tryz.func222,Tryz.ntmps222
    go_wp2_with (first|(go_at_call 114;refine (Va _ _ _ _ (by decide) (by decide)).mono ?_;rintro e w' ⟨rfl,rfl⟩)|(go_at_call 246;refine (Tk _ true _ (Za H3).symm).mono ?_;rintro e w' ⟨rfl,rfl⟩))
    go_ret
    exact⟨rfl,(Za HB) _⟩
  ·have g3:(k != 1)=true:=by simp[h2]
   by_cases h4:n=0
   ·subst h4
    have h3:fit 0=true:=by decide
    have e:Y4 (k,0)=0:=by simp[Y4,h3,h1]
    rw[e]
    have H3:=Zb h3
    clear e h3 h1 h2
    go_enter Tryz.func222,Tryz.ntmps222
    go_wp2_with (first|(go_at_call 114;refine (Va _ _ _ _ g1 g2).mono ?_;rintro e w' ⟨rfl,rfl⟩)|(go_at_call 246;refine (Tk _ true _ (Za H3).symm).mono ?_;rintro e w' ⟨rfl,rfl⟩))
    go_ret
    exact⟨rfl,(Za HB) _⟩
   ·have g4:(n != 0)=true:=by simp[h4]
    have e:Y4 (k,n)=3:=by simp[Y4,h1,h2,h4]
    rw[e]
    clear e h1 h2 h4
    go_enter Tryz.func222,Tryz.ntmps222
    go_wp2_with (go_at_call 114;refine (Va _ _ _ _ g1 g2).mono ?_;rintro e w' ⟨rfl,rfl⟩)
    go_ret
    exact⟨rfl,(Za HB) _⟩
def OpsAt(w:World)(a:Option Addr)(len:Nat)(l:List (Int×Int)):Prop:=
 l.length=len∧(0<len→∃ b off,a=some ⟨b,off,none⟩∧∀ i,i<len→w.cell? ⟨b,off+i*2,none⟩=some (.int .i64 (l.getD i (0,0)).1)∧w.cell? ⟨b,off+i*2+1,none⟩=some (.int .i64 (l.getD i (0,0)).2))
theorem OpsAt.later{w w':World}{a:Option Addr}{len:Nat}{l:List (Int×Int)}(h:OpsAt w a len l)(hb:Below w.heap.size w w'):OpsAt w' a len l:=by
 obtain⟨hz,hc⟩:=h
 refine⟨hz,fun h=>?_⟩
 obtain⟨b,off,rfl,hcell⟩:=hc h
 refine⟨b,off,rfl,fun i hi=>?_⟩
 obtain⟨h1,h2⟩:=hcell i hi
 refine⟨?_,?_⟩
 ·rw[hb.cell (p:=⟨b,off+i*2,none⟩) (World.block_lt_of_cell? _ _ h1)];exact h1
 ·rw[hb.cell (p:=⟨b,off+i*2+1,none⟩) (World.block_lt_of_cell? _ _ h2)];exact h2
theorem Be(a:Option Addr)(len cap:Nat)(w:World)(h:16<len) :
  Calls Tryz.prog 185 #[.slice a len cap] w fun e w'=>e = .returned (.int .i64 2)∧w=w':=by
 go_enter Tryz.func185,Tryz.ntmps185
 go_wp2
 go_ret
 exact⟨rfl,rfl⟩
theorem Hx(a:Option Addr)(cap:Nat)(w:World) :
  Calls Tryz.prog 185 #[.slice a 0 cap] w fun e w'=>e = .returned (.int .i64 0)∧w=w':=by
 go_enter Tryz.func185,Tryz.ntmps185
 go_wp2
 refine wp_loop_rounds 1 ?_
 rw[rounds_succ]
 go_wp2
 go_ret
 exact⟨rfl,rfl⟩
theorem Bd(b off len cap:Nat)(l:List (Int×Int))(w:World)(h0:len≤16)(hz:l.length=len)
  (hc:∀ i,i<len→w.cell? ⟨b,off+i*2,none⟩=some (.int .i64 (l.getD i (0,0)).1)∧w.cell? ⟨b,off+i*2+1,none⟩=some (.int .i64 (l.getD i (0,0)).2)) (hl:b<w.heap.size) :
  Calls Tryz.prog 185 #[.slice (some ⟨b,off,none⟩) len cap] w fun e w'=>e = .returned (.int .i64 (Vg l))∧Below w.heap.size w w':=by
 have HC:=Zb hc
 have HZ:=Zb hz
 clear hc hz
 go_enter Tryz.func185,Tryz.ntmps185
 go_wp2
 go_loopw [11] (fun i wr=>∃ k:Nat,k≤len∧i = .int .i64 k∧Vg (l.take k)=0∧Below w.heap.size w wr) (fun i _=>len - (intOf i).toNat)
 case atStart=>exact⟨0,Nat.zero_le _,rfl,rfl,Below.refl _ _⟩
 case round=>
  obtain⟨k,hk,rfl,hok,hb⟩:=hrel
  have HOK:=Zb hok
  have HB:=Zb hb
  clear hok
  by_cases hlt:k<len
  ·obtain⟨c1,c2⟩:=(Za HC) k hlt
   rw[←hb.cell (p:=⟨b,off+k*2,none⟩) hl] at c1
   rw[←hb.cell (p:=⟨b,off+k*2+1,none⟩) hl] at c2
   obtain⟨q,hq⟩:∃ q,q=l.getD k (0,0):=⟨_,rfl⟩
   rw[←hq] at c1 c2
   have hlk:k<l.length:=by rw[Za HZ];exact hlt
   have hq':q=l[k]:=by rw[hq];simp[hlk]
   have HQ:=Zb hq'
   clear hb hq hq'
   obtain⟨q1,q2⟩:=q
   have CO:=Zb (Hz q1 q2)
   obtain⟨x,hx⟩:∃ x,x=Y4 (q1,q2):=⟨_,rfl⟩
   rw[←hx] at CO
   have HX:=Zb hx
   clear hx
   by_cases hx0:x=0
   ·subst hx0
    go_wp2_with fail
    refine ((Za CO) _).mono ?_
    rintro e w1 ⟨rfl,hb1⟩
    have hb2:=(Za HB).trans (((Below.refl wr.heap.size wr).alloc (Nat.le_refl _) _).trans (hb1.mono (by simp)) |>.mono (Za HB).size)
    have HB2:=Zb hb2
    clear hb1 hb2
    go_wp2
    go_roundw
    case rel=>
     refine⟨k+1,by omega,by go_num,?_,Za HB2⟩
     rw[Lt l k hlk (Za HOK),←Za HQ,←Za HX];rfl
    case measure=>simp[intOf];omega
   ·have hx1:(x != 0)=true:=by simp[hx0]
    have HX0:=Zb hx0
    clear hx0
    go_wp2_with fail
    refine ((Za CO) _).mono ?_
    rintro e w1 ⟨rfl,hb1⟩
    have hb2:=(Za HB).trans (((Below.refl wr.heap.size wr).alloc (Nat.le_refl _) _).trans (hb1.mono (by simp)) |>.mono (Za HB).size)
    have HB2:=Zb hb2
    clear hb1 hb2
    go_wp2
    go_ret
    refine⟨R7 ?_,Za HB2⟩
    rw[Lu l k hlk (Za HOK) (by rw[←Za HQ,←Za HX];exact Za HX0),←Za HQ,←Za HX]
  ·clear hb
   go_wp2
   go_ret
   have e:k=len:=by omega
   subst e
   refine⟨R7 ?_,Za HB⟩
   have h1:=Za HOK
   rw[←Za HZ,List.take_length] at h1
   exact h1.symm
theorem Ua(a:Option Addr)(len cap:Nat)(l:List (Int×Int))(w:World)(h:OpsAt w a len l) :
  Calls Tryz.prog 185 #[.slice a len cap] w fun e w'=>e = .returned (.int .i64 (chk l))∧Below w.heap.size w w':=by
 obtain⟨hz,hc⟩:=h
 unfold chk
 rw[hz]
 by_cases h1:16<len
 ·rw[if_pos h1]
  exact (Be a len cap w h1).mono fun e w' ⟨x,y⟩=>⟨x,y ▸ Below.refl _ _⟩
 ·rw[if_neg h1]
  by_cases h2:len=0
  ·subst h2
   have e:l=[]:=List.length_eq_zero_iff.1 hz
   subst e
   exact (Hx a cap w).mono fun e w' ⟨x,y⟩=>⟨x,y ▸ Below.refl _ _⟩
  ·obtain⟨b,off,rfl,hcell⟩:=hc (by omega)
   exact Bd b off len cap l w (by omega) hz hcell (World.block_lt_of_cell? _ _ (hcell 0 (by omega)).1)
def RowAt(w:World)(a:Option Addr)(len:Nat)(Z:List Int):Prop:=
 Z.length=len∧len≤maxLen∧(0<len→∃ b off,a=some ⟨b,off,none⟩∧∀ i,i<len→w.cell? ⟨b,off+i,none⟩=some (.int .i64 (Z.getD i 0)))
theorem RowAt.later{w w':World}{a:Option Addr}{len:Nat}{Z:List Int}(h:RowAt w a len Z)(hb:Below w.heap.size w w'):RowAt w' a len Z:=by
 obtain⟨hz,hm,hc⟩:=h
 refine⟨hz,hm,fun h=>?_⟩
 obtain⟨b,off,rfl,hcell⟩:=hc h
 refine⟨b,off,rfl,fun i hi=>?_⟩
 have h1:=hcell i hi
 rw[hb.cell (p:=⟨b,off+i,none⟩) (World.block_lt_of_cell? _ _ h1)];exact h1
theorem RowAt.nil(w:World)(a:Option Addr):RowAt w a 0 []:=⟨rfl,Nat.zero_le _,fun h=>absurd h (by omega)⟩
def RowsAt{α : Type}(R:World→Nat→Nat → α→Prop)(sz:Nat)(w:World)(a:Option Addr)(len:Nat)(l:List α):Prop:=
 l.length=len∧(0<len→∃ b off,a=some ⟨b,off,none⟩∧b<w.heap.size∧∀ i (h:i<l.length),R w b (off+i*sz) l[i])
def L4{α : Type}(R:World→Nat→Nat → α→Prop):Prop:=∀ (w w':World) (b o:Nat) (x : α),Below w.heap.size w w'→R w b o x→R w' b o x
theorem RowsAt.later{α : Type}{R:World→Nat→Nat → α→Prop}(hR:L4 R){sz:Nat}{w w':World}{a:Option Addr}{len:Nat}{l:List α}(h:RowsAt R sz w a len l)(hb:Below w.heap.size w w'):RowsAt R sz w' a len l:=by
 refine⟨h.1,fun h0=>?_⟩
 obtain⟨b,off,e,hl,hc⟩:=h.2 h0
 exact⟨b,off,e,Nat.lt_of_lt_of_le hl hb.size,fun i hi=>hR w w' b _ _ hb (hc i hi)⟩
theorem RowsAt.nil{α : Type}{R:World→Nat→Nat → α→Prop}{sz:Nat}(w:World)(a:Option Addr):RowsAt R sz w a 0 []:=⟨rfl,fun h=>absurd h (by omega)⟩
theorem Zc{w w':World}{p:Addr}{v:Value}(hb:Below w.heap.size w w')(h:w.cell? p=some v):w'.cell? p=some v:=by
 rw[hb.cell (p:=p) (World.block_lt_of_cell? _ _ h)];exact h
def SlOk(a:Option Addr)(n c:Nat):Prop:=n≤c∧c≤maxLen∧(a=none→n=0∧c=0)
theorem SlOk.len{a:Option Addr}{n c:Nat}(h:SlOk a n c):n≤maxLen:=Nat.le_trans h.1 h.2.1
def InAt(w:World)(b o:Nat)(x:InD):Prop:=
 w.cell? ⟨b,o,none⟩=some (.int .i64 x.1)∧w.cell? ⟨b,o+1,none⟩=some (.int .i64 x.2.1)∧∃ a n c,w.cell? ⟨b,o+2,none⟩=some (.slice a n c)∧OpsAt w a n x.2.2∧SlOk a n c
def OutAt(w:World)(b o:Nat)(x:Zw):Prop:=
 w.cell? ⟨b,o,none⟩=some (.int .i64 x.1)∧∃ a n c,w.cell? ⟨b,o+1,none⟩=some (.slice a n c)∧OpsAt w a n x.2∧SlOk a n c
theorem InAt.kept:L4 InAt:=fun _ _ _ _ _ hb h=>by
 obtain⟨h1,h2,a,n,c,h3,h4,h5⟩:=h
 exact⟨Zc hb h1,Zc hb h2,a,n,c,Zc hb h3,h4.later hb,h5⟩
theorem OutAt.kept:L4 OutAt:=fun _ _ _ _ _ hb h=>by
 obtain⟨h1,a,n,c,h3,h4,h5⟩:=h
 exact⟨Zc hb h1,a,n,c,Zc hb h3,h4.later hb,h5⟩
def InsAt(w:World)(a:Option Addr)(len:Nat)(l:List InD):Prop:=RowsAt InAt 3 w a len l
def OutsAt(w:World)(a:Option Addr)(len:Nat)(l:List Zw):Prop:=RowsAt OutAt 2 w a len l
theorem InsAt.later{w w':World}{a:Option Addr}{len:Nat}{l:List InD}(h:InsAt w a len l)(hb:Below w.heap.size w w'):InsAt w' a len l:=RowsAt.later InAt.kept h hb
theorem OutsAt.later{w w':World}{a:Option Addr}{len:Nat}{l:List Zw}(h:OutsAt w a len l)(hb:Below w.heap.size w w'):OutsAt w' a len l:=RowsAt.later OutAt.kept h hb
theorem RowsAt.take{α : Type}{R:World→Nat→Nat → α→Prop}{sz:Nat}{w:World}{a:Option Addr}{len:Nat}{l:List α}(h:RowsAt R sz w a len l)(k:Nat)(hk:k≤len):RowsAt R sz w a k (l.take k):=by
 have hl:=h.1
 refine⟨by rw[List.length_take];omega,fun h0=>?_⟩
 obtain⟨b,off,e,hb,hc⟩:=h.2 (by omega)
 refine⟨b,off,e,hb,fun i hi=>?_⟩
 rw[List.length_take] at hi
 rw[List.getElem_take]
 exact hc i (by omega)
theorem Ze{w w1 w2:World}(h1:Below w.heap.size w w1)(h2:Below w1.heap.size w1 w2):Below w.heap.size w w2:=h1.trans (h2.mono h1.size)
theorem Zf(w:World)(o:Obj):Below w.heap.size w (w.alloc o):=(Below.refl _ _).alloc (Nat.le_refl _) _
abbrev Zg:=Int×Int×Int×List (Int×Int)×Int×Bool
abbrev PtD:=Int×Int
def pt(c:Zg):PtD:=(c.1,c.2.1)
def cv(c:Zg):Int:=c.2.2.1
def ck(c:Zg):List (Int×Int):=c.2.2.2.1
def ch(c:Zg):Int:=c.2.2.2.2.1
def cr(c:Zg):Bool:=c.2.2.2.2.2
def lt(p q:PtD):Bool:=decide (p.1<q.1) || (decide (p.1=q.1) && decide (p.2<q.2))
theorem Ud(p q:PtD):lt p q=true↔p.1<q.1∨p.1=q.1∧p.2<q.2:=by simp[lt]
theorem Jt(p:PtD):lt p p=false:=by
 rw[←Bool.not_eq_true,Ud];omega
theorem lt_trans{p q r:PtD}(h1:lt p q=true)(h2:lt q r=true):lt p r=true:=by
 rw[Ud] at *;omega
theorem Je{p q:PtD}(h1:lt p q=true):lt q p=false:=by
 rw[←Bool.not_eq_true,Ud];rw[Ud] at h1;omega
theorem An(p q:PtD):lt p q=true∨p=q∨lt q p=true:=by
 rw[Ud,Ud,Prod.ext_iff];omega
theorem Qz{p q:PtD}(h:lt p q=true):p≠q:=fun e=>by
 subst e;rw[Jt] at h;exact Bool.noConfusion h
def P2(p q:PtD):Int:=if lt p q then -1 else if p=q then 0 else 1
theorem Mq{p q:PtD}:P2 p q<0↔lt p q=true:=by
 unfold P2;split
 ·simp[*]
 ·split
  ·rename_i h e;subst e;simp[Jt]
  ·simp[*]
theorem Zgi{p q:PtD}:P2 p q=0↔p=q:=by
 unfold P2;split
 ·rename_i h;simp[Qz h]
 ·split <;> simp[*]
def Srt(L:List Zg):Prop:=L.Pairwise fun a b=>lt (pt a) (pt b)=true
theorem Srt.tail{c:Zg}{L:List Zg}(h:Srt (c :: L)):Srt L:=(List.pairwise_cons.1 h).2
theorem Srt.head{c:Zg}{L:List Zg}(h:Srt (c :: L)):∀ x∈L,lt (pt c) (pt x)=true:=(List.pairwise_cons.1 h).1
theorem Srt.inj{L:List Zg}(h:Srt L):∀ {x y:Zg},x∈L→y∈L→pt x=pt y→x=y:=by
 induction L with
 | nil=>intro x y hx;cases hx
 | cons c L ih=>
  intro x y hx hy e
  rcases List.mem_cons.1 hx with rfl|hx <;> rcases List.mem_cons.1 hy with rfl|hy
  ·rfl
  ·exact absurd e (Qz (h.head y ‹y∈L›))
  ·exact absurd e.symm (Qz (h.head x ‹x∈L›))
  ·exact ih h.tail hx hy e
theorem Srt.ext:∀ {L M:List Zg},Srt L→Srt M→(∀ x,x∈L↔x∈M)→L=M
 | [],[],_,_,_=>rfl
 | [],c :: M,_,_,h=>absurd ((h c).2 (List.mem_cons_self ..)) (by simp)
 | c :: L,[],_,_,h=>absurd ((h c).1 (List.mem_cons_self ..)) (by simp)
 | c :: L,d :: M,h1,h2,h=>by
  have e:c=d:=by
   rcases List.mem_cons.1 ((h c).1 (List.mem_cons_self ..)) with e|e
   ·exact e
   rcases List.mem_cons.1 ((h d).2 (List.mem_cons_self ..)) with f|f
   ·exact f.symm
   ·have g:=Je (h2.head _ e)
    rw[h1.head _ f] at g
    exact Bool.noConfusion g
  subst e
  rw[Srt.ext h1.tail h2.tail fun x=>⟨fun hx=>?_,fun hx=>?_⟩]
  ·rcases List.mem_cons.1 ((h x).1 (List.mem_cons_of_mem _ hx)) with rfl|q
   ·exact absurd rfl (Qz (h1.head _ hx))
   ·exact q
  ·rcases List.mem_cons.1 ((h x).2 (List.mem_cons_of_mem _ hx)) with rfl|q
   ·exact absurd rfl (Qz (h2.head _ hx))
   ·exact q
def Zfn(p:PtD):Bool:=(decide (1≤p.1) && decide (p.1≤120)) && (decide (0≤p.2) && decide (p.2≤5))
def okV(n:Int):Bool:=decide (1≤n) && decide (n≤1000000000)
def okH(n:Int):Bool:=decide (1≤n) && decide (n≤1000)
def okC(c:Zg):Bool:=Zfn (pt c) && (okV (cv c) && okH (ch c))
def ck1(c:Zg):Int:=if okC c=false then 3 else chk (ck c)
theorem Yp{c:Zg}(h:ck1 c=0):1≤c.1∧c.1≤120∧0≤c.2.1∧c.2.1≤5∧1≤cv c∧cv c≤1000000000∧1≤ch c∧ch c≤1000∧chk (ck c)=0:=by
 unfold ck1 at h
 split at h
 ·cases h
 ·rename_i q
  simp only[Bool.not_eq_false,okC,Zfn,okV,okH,pt,Bool.and_eq_true,decide_eq_true_eq] at q
  exact⟨of_decide_eq_true q.1.1.1,of_decide_eq_true q.1.1.2,of_decide_eq_true q.1.2.1,of_decide_eq_true q.1.2.2,q.2.1.1,q.2.1.2,q.2.2.1,q.2.2.2,h⟩
def Jn(p:Option PtD)(c:Zg):Bool:=match p with|none=>true|some p=>lt p (pt c)
def Yh:Option PtD→Int→List Zg→Int
 | _,_,[]=>0
 | p,s,c :: r=>if ck1 c≠0 then ck1 c else if Jn p c=false then 6 else if 1000000000<s+cv c then 12 else Yh (some (pt c)) (s+cv c) r
def Yi(L:List Zg):Int:=if 720<L.length then 2 else Yh none 0 L
def Wq(L:List Zg)(k:Nat):Option PtD:=if k=0 then none else (L[k - 1]?).map pt
def Zp(L:List Zg):Int:=(L.map cv).sum
def Xk(L:List Zw):Int:=(L.map (·.1)).sum
theorem Ni:Zp []=0:=rfl
theorem Wc(c:Zg)(L:List Zg):Zp (c :: L)=cv c+Zp L:=by simp[Zp]
theorem Q0(L M:List Zg):Zp (L++M)=Zp L+Zp M:=by simp[Zp]
theorem Ty(L:List Zg)(k:Nat)(h:k<L.length):Zp (L.take (k+1))=Zp (L.take k)+cv L[k]:=by
 rw[List.take_succ_eq_append_getElem h,Q0,Wc,Ni];omega
theorem La(L:List Zw)(k:Nat)(h:k<L.length):Xk (L.take (k+1))=Xk (L.take k)+L[k].1:=by
 rw[List.take_succ_eq_append_getElem h];unfold Xk;rw[List.map_append,List.sum_append];simp
theorem Qb(L:List Zg)(k:Nat)(h:k<L.length):Wq L (k+1)=some (pt L[k]):=by
 unfold Wq;rw[if_neg (by omega)];simp[h]
theorem Cn(L:List Zg)(k:Nat)(h:k<L.length)(p:Option PtD)(s:Int):Yh p s (L.drop k)=if ck1 L[k]≠0 then ck1 L[k] else if Jn p L[k]=false then 6 else if 1000000000<s+cv L[k] then 12 else Yh (some (pt L[k])) (s+cv L[k]) (L.drop (k+1)):=by
 rw[List.drop_eq_getElem_cons h,Yh]
theorem Fj(L:List Zg)(k:Nat)(h:L.length≤k)(p:Option PtD)(s:Int):Yh p s (L.drop k)=0:=by
 rw[List.drop_of_length_le h,Yh]
theorem Zec{c:Zg}{r:List Zg}{p:Option PtD}{s:Int}(h:ck1 c≠0):Yh p s (c :: r)=ck1 c:=by rw[Yh,if_pos h]
theorem Bc{c:Zg}{r:List Zg}{p:Option PtD}{s:Int}(h:ck1 c=0)(h2:Jn p c=false):Yh p s (c :: r)=6:=by
 rw[Yh,if_neg (by rw[h];decide),if_pos h2]
theorem Zam{c:Zg}{r:List Zg}{p:Option PtD}{s:Int}(h:ck1 c=0)(h2:Jn p c=true)(h3:1000000000<s+cv c):Yh p s (c :: r)=12:=by
 rw[Yh,if_neg (by rw[h];decide),if_neg (by rw[h2];decide),if_pos h3]
theorem Zgk{c:Zg}{r:List Zg}{p:Option PtD}{s:Int}(h:ck1 c=0)(h2:Jn p c=true)(h3:¬1000000000<s+cv c):Yh p s (c :: r)=Yh (some (pt c)) (s+cv c) r:=by
 rw[Yh,if_neg (by rw[h];decide),if_neg (by rw[h2];decide),if_neg h3]
theorem Wo:∀ (L:List Zg),(∀ c∈L,0≤cv c)→0≤Zp L
 | [],_=>Int.le_refl _
 | c :: r,h=>by
  rw[Wc]
  have h1:=h c (List.mem_cons_self ..)
  have h2:=Wo r fun x hx=>h x (List.mem_cons_of_mem _ hx)
  omega
theorem Lq:∀ (L:List Zg) (p:Option PtD) (s:Int),0≤s→s≤1000000000→(Yh p s L=0↔(∀ c∈L,ck1 c=0)∧Srt L∧(∀ c∈L,Jn p c=true)∧s+Zp L≤1000000000)
 | [],p,s,_,h=>by simp[Yh,Srt,Zp,h]
 | c :: r,p,s,h0,h=>by
  by_cases h1:ck1 c=0
  ·have hv:1≤cv c:=(Yp h1).2.2.2.2.1
   cases h2:Jn p c with
   | false=>
    rw[Bc h1 h2]
    refine⟨fun e=>(by cases e),fun e=>?_⟩
    have:=e.2.2.1 c (List.mem_cons_self ..)
    rw[h2] at this;exact Bool.noConfusion this
   | true=>
    by_cases h3:1000000000<s+cv c
    ·rw[Zam h1 h2 h3]
     refine⟨fun e=>(by cases e),fun e=>?_⟩
     have h4:0≤Zp r:=Wo r fun x hx=>by
      have:=(Yp (e.1 x (List.mem_cons_of_mem _ hx))).2.2.2.2.1
      omega
     have h5:=e.2.2.2
     rw[Wc] at h5
     omega
    ·rw[Zgk h1 h2 h3,Lq r (some (pt c)) (s+cv c) (by omega) (by omega),Wc]
     constructor
     ·rintro ⟨a1,a2,a3,a4⟩
      refine⟨fun x hx=>?_,List.pairwise_cons.2 ⟨fun x hx=>a3 x hx,a2⟩,fun x hx=>?_,by omega⟩
      ·rcases List.mem_cons.1 hx with rfl|hx
       ·exact h1
       ·exact a1 x hx
      ·rcases List.mem_cons.1 hx with rfl|hx
       ·exact h2
       ·cases p with
        | none=>rfl
        | some p=>exact lt_trans h2 (a3 x hx)
     ·rintro ⟨a1,a2,a3,a4⟩
      exact⟨fun x hx=>a1 x (List.mem_cons_of_mem _ hx),Srt.tail a2,fun x hx=>Srt.head a2 x hx,by omega⟩
  ·rw[Zec h1]
   exact⟨fun e=>absurd e h1,fun e=>absurd (e.1 c (List.mem_cons_self ..)) h1⟩
structure Z5(L:List Zg):Prop where
 len:L.length≤720
 one:∀ c∈L,ck1 c=0
 srt:Srt L
 sum:Zp L≤1000000000
theorem Xa(L:List Zg):Yi L=0↔Z5 L:=by
 unfold Yi
 by_cases h:720<L.length
 ·rw[if_pos h];exact⟨fun e=>(by cases e),fun e=>absurd e.len (by omega)⟩
 ·rw[if_neg h,Lq L none 0 (by omega) (by omega)]
  exact⟨fun ⟨a,b,_,c⟩=>⟨by omega,a,b,by omega⟩,fun e=>⟨e.one,e.srt,fun _ _=>rfl,by have:=e.sum;omega⟩⟩
def pos(p:PtD)(L:List Zg):Nat:=L.countP fun c=>lt (pt c) p
def We(p:PtD)(L:List Zg):Bool:=L.any fun c=>decide (pt c=p)
def Wu(p:PtD)(L:List Zg):Option (Zg×List Zg):=
 match L.find? (fun c=>decide (pt c=p)) with|none=>none|some c=>some (c,L.filter fun c=>decide (pt c≠p))
def Vz(c:Zg)(L:List Zg):List Zg:=L.filter (fun x=>lt (pt x) (pt c))++c :: L.filter fun x=>lt (pt c) (pt x)
theorem Srt.filter{L:List Zg}(h:Srt L)(f:Zg→Bool):Srt (L.filter f):=List.Pairwise.filter f h
theorem Vs(p:PtD)(L:List Zg):We p L=true↔∃ c∈L,pt c=p:=by simp[We]
theorem U1{c:Zg}{L:List Zg}(h:Srt L):Srt (Vz c L):=by
 unfold Vz Srt
 rw[List.pairwise_append]
 refine⟨h.filter _,List.pairwise_cons.2 ⟨fun x hx=>(List.mem_filter.1 hx).2,h.filter _⟩,fun a ha b hb=>?_⟩
 have h1:=(List.mem_filter.1 ha).2
 rcases List.mem_cons.1 hb with rfl|hb
 ·exact h1
 ·exact lt_trans h1 (List.mem_filter.1 hb).2
theorem V8{p:PtD}:∀ {L:List Zg},Srt L→L.take (pos p L)=L.filter (fun x=>lt (pt x) p)∧L.drop (pos p L)=L.filter (fun x=>!lt (pt x) p)
 | [],_=>by simp[pos]
 | c :: L,h=>by
  obtain⟨h1,h2⟩:=V8 (p:=p) h.tail
  unfold pos at *
  cases hc:lt (pt c) p with
  | true=>
   rw[List.countP_cons_of_pos (by simpa using hc),List.filter_cons_of_pos (by simpa using hc),List.filter_cons_of_neg (by simp[hc]),List.take_succ_cons,List.drop_succ_cons,h1,h2]
   exact⟨rfl,rfl⟩
  | false=>
   have h3:∀ x∈L,lt (pt x) p=false:=fun x hx=>by
    rw[←Bool.not_eq_true]
    intro q
    rw[lt_trans (h.head x hx) q] at hc
    exact Bool.noConfusion hc
   have e:(c :: L).countP (fun c=>lt (pt c) p)=0:=by
    rw[List.countP_eq_zero]
    intro x hx
    rcases List.mem_cons.1 hx with rfl|hx
    ·simp[hc]
    ·simp[h3 x hx]
   rw[e,List.take_zero,List.drop_zero]
   constructor
   ·symm;rw[List.filter_eq_nil_iff]
    intro x hx
    rcases List.mem_cons.1 hx with rfl|hx
    ·simp[hc]
    ·simp[h3 x hx]
   ·symm;rw[List.filter_eq_self]
    intro x hx
    rcases List.mem_cons.1 hx with rfl|hx
    ·simp[hc]
    ·simp[h3 x hx]
theorem Zcj(p:PtD)(L:List Zg):pos p L≤L.length:=List.countP_le_length ..
theorem Dw{p:PtD}{L:List Zg}(h:Srt L):We p L=(decide (pos p L<L.length) && decide ((L[pos p L]?).map pt=some p)):=by
 obtain⟨h1,h2⟩:=V8 (p:=p) h
 rw[Bool.eq_iff_iff,Vs,Bool.and_eq_true,decide_eq_true_eq,decide_eq_true_eq]
 constructor
 ·rintro ⟨c,hc,e⟩
  have hd:c∈L.drop (pos p L):=by rw[h2,List.mem_filter];exact⟨hc,by rw[e,Jt];rfl⟩
  have hl:pos p L<L.length:=by
   rcases Nat.lt_or_ge (pos p L) L.length with q|q
   ·exact q
   ·rw[List.drop_of_length_le q] at hd;cases hd
  refine⟨hl,?_⟩
  have hs:Srt (L.drop (pos p L)):=by rw[h2];exact h.filter _
  rw[List.drop_eq_getElem_cons hl] at hd hs
  rw[List.getElem?_eq_getElem hl,Option.map_some]
  rcases List.mem_cons.1 hd with rfl|q
  ·rw[e]
  ·have g:=hs.head c q
   have h3:L[pos p L]∈L.drop (pos p L):=by rw[List.drop_eq_getElem_cons hl];exact List.mem_cons_self ..
   rw[h2,List.mem_filter] at h3
   rw[e] at g
   rw[g] at h3
   exact absurd h3.2 (by decide)
 ·rintro ⟨hl,e⟩
  rw[List.getElem?_eq_getElem hl,Option.map_some,Option.some.injEq] at e
  exact⟨L[pos p L],List.getElem_mem hl,e⟩
theorem Fu{p:PtD}{L:List Zg}(h:We p L=false):Wu p L=none:=by
 unfold Wu
 have:L.find? (fun c=>decide (pt c=p))=none:=by
  rw[List.find?_eq_none]
  intro x hx
  rw[←Bool.not_eq_true,Vs] at h
  simp only[decide_eq_true_eq]
  exact fun e=>h ⟨x,hx,e⟩
 rw[this]
theorem Cy{p:PtD}{L:List Zg}(h:Srt L){c:Zg}(hc:c∈L)(e:pt c=p):Wu p L=some (c,L.filter fun c=>decide (pt c≠p)):=by
 unfold Wu
 have:L.find? (fun c=>decide (pt c=p))=some c:=by
  cases q:L.find? (fun c=>decide (pt c=p)) with
  | none=>rw[List.find?_eq_none] at q;exact absurd (decide_eq_true e) (q c hc)
  | some d=>
   have h1:=List.find?_some q
   have h2:=List.mem_of_find?_eq_some q
   simp only[decide_eq_true_eq] at h1
   rw[h.inj h2 hc (by rw[h1,e])]
 rw[this]
theorem Rc{p:PtD}{L M:List Zg}{c:Zg}(h:Wu p L=some (c,M)):c∈L∧pt c=p∧M=L.filter fun c=>decide (pt c≠p):=by
 unfold Wu at h
 split at h
 ·cases h
 ·rename_i d q
  simp only[Option.some.injEq,Prod.mk.injEq] at h
  obtain⟨rfl,rfl⟩:=h
  have h1:=List.find?_some q
  simp only[decide_eq_true_eq] at h1
  exact⟨List.mem_of_find?_eq_some q,h1,rfl⟩
theorem Zbi{p:PtD}{L:List Zg}(h:Srt L)(hl:pos p L<L.length)(e:pt L[pos p L]=p):Wu p L=some (L[pos p L],L.take (pos p L)++L.drop (pos p L+1)):=by
 rw[Cy h (List.getElem_mem hl) e]
 obtain⟨h1,h2⟩:=V8 (p:=p) h
 have h3:=List.drop_eq_getElem_cons hl
 rw[h2] at h3
 have hs:Srt (L[pos p L] :: L.drop (pos p L+1)):=by rw[←h3];exact h.filter _
 have e1:L.filter (fun c=>decide (pt c≠p))=L.take (pos p L)++L.drop (pos p L+1):=by
  have e2:L=L.take (pos p L)++(L[pos p L] :: L.drop (pos p L+1)):=by rw[←List.drop_eq_getElem_cons hl,List.take_append_drop]
  have e3:L.filter (fun c=>decide (pt c≠p))=(L.take (pos p L)++(L[pos p L] :: L.drop (pos p L+1))).filter (fun c=>decide (pt c≠p)):=congrArg _ e2
  rw[e3,List.filter_append,List.filter_cons_of_neg (by simp[e])]
  congr 1
  ·rw[List.filter_eq_self]
   intro x hx
   rw[h1,List.mem_filter] at hx
   exact decide_eq_true (Qz hx.2)
  ·rw[List.filter_eq_self]
   intro x hx
   have:=hs.head x hx
   rw[e] at this
   exact decide_eq_true (Ne.symm (Qz this))
 rw[e1]
theorem Bz{c:Zg}{L:List Zg}(h:Srt L)(hn:We (pt c) L=false):Vz c L=L.take (pos (pt c) L)++c :: L.drop (pos (pt c) L):=by
 obtain⟨h1,h2⟩:=V8 (p:=pt c) h
 unfold Vz
 rw[h1,h2]
 congr 2
 refine List.filter_congr fun x hx=>?_
 rw[Bool.eq_iff_iff]
 rcases An (pt x) (pt c) with q|q|q
 ·simp[q,Je q]
 ·rw[←Bool.not_eq_true,Vs] at hn
  exact absurd ⟨x,hx,q⟩ hn
 ·simp[q,Je q]
def cnV(x:Zg)(a:Option Addr)(n c:Nat):Value:=.agg #[.int .i64 x.1,.int .i64 x.2.1,.int .i64 (cv x),.slice a n c,.int .i64 (ch x),.bool (cr x)]
def CoinAt(w:World)(b o:Nat)(x:Zg):Prop:=
 w.cell? ⟨b,o,none⟩=some (.int .i64 x.1)∧w.cell? ⟨b,o+1,none⟩=some (.int .i64 x.2.1)∧w.cell? ⟨b,o+2,none⟩=some (.int .i64 (cv x)) ∧
 (∃ a n c,w.cell? ⟨b,o+3,none⟩=some (.slice a n c)∧OpsAt w a n (ck x)∧SlOk a n c) ∧
 w.cell? ⟨b,o+4,none⟩=some (.int .i64 (ch x))∧w.cell? ⟨b,o+5,none⟩=some (.bool (cr x))
theorem CoinAt.kept:L4 CoinAt:=fun _ _ _ _ _ hb h=>by
 obtain⟨h1,h2,h3,⟨a,n,c,h4,h5,h6⟩,h7,h8⟩:=h
 exact⟨Zc hb h1,Zc hb h2,Zc hb h3,⟨a,n,c,Zc hb h4,h5.later hb,h6⟩,Zc hb h7,Zc hb h8⟩
def CoinsAt(w:World)(a:Option Addr)(len:Nat)(l:List Zg):Prop:=RowsAt CoinAt 6 w a len l
theorem CoinsAt.later{w w':World}{a:Option Addr}{len:Nat}{l:List Zg}(h:CoinsAt w a len l)(hb:Below w.heap.size w w'):CoinsAt w' a len l:=RowsAt.later CoinAt.kept h hb
theorem P6(w:World)(a b c d e f:Value)(t:TypeId):(w.alloc (.cells #[a,b,c,d,e,f] t)).cell? ⟨w.heap.size,0,none⟩=some a∧(w.alloc (.cells #[a,b,c,d,e,f] t)).cell? ⟨w.heap.size,1,none⟩=some b∧(w.alloc (.cells #[a,b,c,d,e,f] t)).cell? ⟨w.heap.size,2,none⟩=some c ∧
  (w.alloc (.cells #[a,b,c,d,e,f] t)).cell? ⟨w.heap.size,3,none⟩=some d∧(w.alloc (.cells #[a,b,c,d,e,f] t)).cell? ⟨w.heap.size,4,none⟩=some e∧(w.alloc (.cells #[a,b,c,d,e,f] t)).cell? ⟨w.heap.size,5,none⟩=some f:=by
 refine⟨?_,?_,?_,?_,?_,?_⟩ <;> (rw[World.cell?_alloc_at _ _ _ _ rfl];rfl)
def P4(x y:Int):Int:=if x<y then -1 else if y<x then 1 else 0
theorem Dq(x:Int)(w:World):Calls Tryz.prog 227 #[.int .i64 x] w fun e w'=>e = .returned (.bool false)∧w=w':=by
 go_enter Tryz.func227,Tryz.ntmps227
 go_wp2
 go_ret
 exact⟨rfl,rfl⟩
theorem Kn(x y:Int)(w:World):Calls Tryz.prog 192 #[.int .i64 x,.int .i64 y] w fun e w'=>e = .returned (.int .i64 (P4 x y))∧w=w':=by
 have C1:=Zb (Dq x)
 have C2:=Zb (Dq y)
 by_cases h1:x<y
 ·have e:P4 x y = -1:=by simp[P4,h1]
  rw[e]
  clear e
  go_enter Tryz.func192,Tryz.ntmps192
  go_wp2_with fail
  refine ((Za C1) _).mono ?_
  rintro e w' ⟨rfl,rfl⟩
  go_wp2_with fail
  refine ((Za C2) _).mono ?_
  rintro e w' ⟨rfl,rfl⟩
  go_wp2
  go_ret
  exact⟨rfl,rfl⟩
 ·by_cases h2:y<x
  ·have e:P4 x y=1:=by simp[P4,h1,h2]
   rw[e]
   clear e
   go_enter Tryz.func192,Tryz.ntmps192
   go_wp2_with fail
   refine ((Za C1) _).mono ?_
   rintro e w' ⟨rfl,rfl⟩
   go_wp2_with fail
   refine ((Za C2) _).mono ?_
   rintro e w' ⟨rfl,rfl⟩
   go_wp2
   go_ret
   exact⟨rfl,rfl⟩
  ·have e:P4 x y=0:=by simp[P4,h1,h2]
   rw[e]
   clear e
   go_enter Tryz.func192,Tryz.ntmps192
   go_wp2_with fail
   refine ((Za C1) _).mono ?_
   rintro e w' ⟨rfl,rfl⟩
   go_wp2_with fail
   refine ((Za C2) _).mono ?_
   rintro e w' ⟨rfl,rfl⟩
   go_wp2
   go_ret
   exact⟨rfl,rfl⟩
def orI(x y:Int):Int:=if x=0 then y else x
theorem Zdz(x y:Int)(b c:Nat)(w:World)(h1:w.cell? ⟨b,0,none⟩=some (.int .i64 x))(h2:w.cell? ⟨b,1,none⟩=some (.int .i64 y)) :
  Calls Tryz.prog 191 #[.slice (some ⟨b,0,none⟩) 2 c] w fun e w'=>e = .returned (.int .i64 (orI x y))∧w=w':=by
 by_cases hx:x=0
 ·subst hx
  by_cases hy:y=0
  ·subst hy
   have e:orI 0 0=0:=rfl
   rw[e]
   clear e
   go_enter Tryz.func191,Tryz.ntmps191
   go_wp2
   refine wp_loop_rounds 3 ?_
   rw[rounds_succ]
   go_wp2
   rw[rounds_succ]
   go_wp2
   rw[rounds_succ]
   go_wp2
   go_ret
   exact⟨rfl,rfl⟩
  ·have e:orI 0 y=y:=rfl
   rw[e]
   have gy:(y != 0)=true:=by simp[hy]
   clear e hy
   go_enter Tryz.func191,Tryz.ntmps191
   go_wp2
   refine wp_loop_rounds 2 ?_
   rw[rounds_succ]
   go_wp2
   rw[rounds_succ]
   go_wp2
   go_ret
   exact⟨rfl,rfl⟩
 ·have e:orI x y=x:=by simp[orI,hx]
  rw[e]
  have gx:(x != 0)=true:=by simp[hx]
  clear e hx
  go_enter Tryz.func191,Tryz.ntmps191
  go_wp2
  refine wp_loop_rounds 1 ?_
  rw[rounds_succ]
  go_wp2
  go_ret
  exact⟨rfl,rfl⟩
theorem Zgh(p q:PtD):orI (P4 p.1 q.1) (P4 p.2 q.2)=P2 p q:=by
 obtain⟨a,b⟩:=p
 obtain⟨c,d⟩:=q
 unfold orI P4 P2 lt
 simp only[Bool.or_eq_true,Bool.and_eq_true,decide_eq_true_eq,Prod.mk.injEq]
 repeat' split
 all_goals omega
theorem Yd(w:World)(x y:Value)(t:TypeId):(w.alloc (.cells #[x,y] t)).cell? ⟨w.heap.size,0,none⟩=some x∧(w.alloc (.cells #[x,y] t)).cell? ⟨w.heap.size,1,none⟩=some y:=
 ⟨by rw[World.cell?_alloc_at _ _ _ _ rfl];rfl,by rw[World.cell?_alloc_at _ _ _ _ rfl];rfl⟩
theorem Zi(w:World):Below w.heap.size w w.drew:=⟨rfl,rfl,rfl,Nat.le_refl _,fun _ _=>rfl⟩
set_option maxRecDepth 10000 in
theorem Ro(p q:PtD)(z:Int)(w:World)(hz:P2 p q=z) :
  Calls Tryz.prog 165 #[.agg #[.int .i64 p.1,.int .i64 p.2],.agg #[.int .i64 q.1,.int .i64 q.2]] w fun e w'=>e = .returned (.int .i64 z)∧Below w.heap.size w w':=by
 obtain⟨a,b⟩:=p
 obtain⟨c,d⟩:=q
 have e:=Zgh (a,b) (c,d)
 rw[hz] at e
 simp only at e ⊢
 have E:=Zb e
 obtain⟨X,hX⟩:∃ X,X=(w.alloc (.cells #[.int .i64 a,.int .i64 b] 99)).alloc (.cells #[.int .i64 c,.int .i64 d] 99):=⟨_,rfl⟩
 have HB:Hid (Below w.heap.size w X):=by rw[hX];exact (Ze (Zf w (.cells #[.int .i64 a,.int .i64 b] 99)) (Zf _ (.cells #[.int .i64 c,.int .i64 d] 99)))
 have x0:X.cell? ⟨w.heap.size,0,none⟩=some (.int .i64 a):=by rw[hX];exact Zc (Zf _ _) (Yd w _ _ _).1
 have x1:X.cell? ⟨w.heap.size,1,none⟩=some (.int .i64 b):=by rw[hX];exact Zc (Zf _ _) (Yd w _ _ _).2
 have x2:X.cell? ⟨w.heap.size+1,0,none⟩=some (.int .i64 c):=by rw[hX];have:=(Yd (w.alloc (.cells #[.int .i64 a,.int .i64 b] 99)) (.int .i64 c) (.int .i64 d) 99).1;simp at this ⊢
 have x3:X.cell? ⟨w.heap.size+1,1,none⟩=some (.int .i64 d):=by rw[hX];have:=(Yd (w.alloc (.cells #[.int .i64 a,.int .i64 b] 99)) (.int .i64 c) (.int .i64 d) 99).2;simp at this ⊢
 clear hz e
 go_enter Tryz.func165,Tryz.ntmps165
 go_wp2_with fail
 rw[←hX]
 clear hX
 go_region_held3 (fun w'=>Below X.heap.size X w'∧w'.cell? ⟨w.heap.size,0,none⟩=some (.int .i64 a)∧w'.cell? ⟨w.heap.size,1,none⟩=some (.int .i64 b)∧w'.cell? ⟨w.heap.size+1,0,none⟩=some (.int .i64 c)∧w'.cell? ⟨w.heap.size+1,1,none⟩=some (.int .i64 d))
  (first
  | exact⟨Zi _,x0,x1,x2,x3⟩
  | (go_split_ands;exact⟨by assumption,by assumption,by assumption,by assumption,by assumption⟩)
  | (go_split_ands;exact⟨Ze (by assumption) (Zf _ _),Zc (Zf _ _) (by assumption),Zc (Zf _ _) (by assumption),Zc (Zf _ _) (by assumption),Zc (Zf _ _) (by assumption)⟩))
  (first
  | (go_at_call 192;refine (Kn _ _ _).mono ?_;rintro e w' ⟨rfl,rfl⟩)
  | (go_at_call 191;refine (Zdz (P4 a c) (P4 b d) _ 2 _ ?_ ?_).mono ?_;exact (Yd _ _ _ _).1;exact (Yd _ _ _ _).2;rintro e w' ⟨rfl,rfl⟩))
 rename_i hH
 have HH:=Zb (Ze (Za HB) hH.1)
 clear hH
 go_wp2
 go_ret
 exact⟨by rw[←Za E];rfl,Za HH⟩
theorem Rs(n:Int)(w:World)(h1:0≤n)(h2:n≤1000000000) :
  Calls Tryz.prog 224 #[.int .i64 n] w fun e w'=>e = .returned (.int .i64 0)∧w=w':=by
 go_enter Tryz.func224,Tryz.ntmps224
 go_wp2_with (go_at_call 114;refine (Va _ _ _ _ h1 h2).mono ?_;rintro e w' ⟨rfl,rfl⟩)
 go_ret
 exact⟨rfl,rfl⟩
theorem L0(n:Int)(w:World)(h:n<0∨1000000000<n) :
  Calls Tryz.prog 224 #[.int .i64 n] w fun e w'=>e = .returned (.int .i64 3)∧w=w':=by
 go_enter Tryz.func224,Tryz.ntmps224
 go_wp2_with (go_at_call 114;refine (Jo _ _ _ _ h).mono ?_;rintro e w' ⟨rfl,rfl⟩)
 go_ret
 exact⟨rfl,rfl⟩
theorem Zev(a:Option Addr)(len cap:Nat)(Z:List Int)(w:World)(h:RowAt w a len Z) :
  Calls Tryz.prog 188 #[.slice a len cap] w fun e w'=>e = .returned (.tuple #[.int .i64 (sm 0 Z).1,.int .i64 (sm 0 Z).2])∧w=w':=by
 obtain⟨hz,hm,hc⟩:=h
 unfold maxLen at hm
 rcases Nat.eq_zero_or_pos len with h0|h0
 ·subst h0
  have HZ:Hid (Z=[]):=List.eq_nil_of_length_eq_zero hz
  clear hz hc hm
  go_enter Tryz.func188,Tryz.ntmps188
  go_wp2
  refine wp_loop_rounds 1 ?_
  rw[rounds_succ]
  go_wp2
  go_ret2
  rw[HZ.out]
  exact⟨rfl,rfl⟩
 ·obtain⟨b,off,rfl,hcell⟩:=hc h0
  have HC:Hid (∀ i,i<len→w.cell? ⟨b,off+i,none⟩=some (.int .i64 (Z.getD i 0))):=hcell
  clear hc hcell
  go_enter Tryz.func188,Tryz.ntmps188
  go_wp2
  go_loop [4,10] (fun s i=>∃ (k:Nat) (x:Int),k≤len∧i = .int .i64 k∧s = .int .i64 x∧0≤x∧x≤1000000000∧Hid (sm 0 Z=sm x (Z.drop k))) (fun _ i=>len - (intOf i).toNat)
  case atStart=>exact⟨0,0,Nat.zero_le _,rfl,rfl,by decide,by decide,by exact rfl⟩
  case round=>
   obtain⟨k,x,hk,rfl,rfl,hx0,hx1,HS⟩:=hrel
   by_cases hlt:k<len
   ·have hck:=HC.out k hlt
    generalize hv:Z.getD k 0=v at hck
    have HV:Hid (Z.getD k 0=v):=hv
    clear hv
    by_cases hr:v<0∨1000000000<v
    ·go_wp2_with (go_at_call 224;refine (L0 _ _ hr).mono ?_;rintro e w' ⟨rfl,rfl⟩)
     go_ret2
     rw[HS.out,Nl x Z k (by omega) (by rw[HV.out];exact hr)]
     exact⟨rfl,rfl⟩
    ·have hr1:0≤v:=by omega
     have hr2:v≤1000000000:=by omega
     clear hr
     by_cases hf:1000000000<x+v
     ·go_wp2_with fail
      refine (Rs _ _ hr1 hr2).mono ?_
      rintro e w' ⟨rfl,rfl⟩
      go_wp2_with fail
      refine (L0 _ _ (.inr hf)).mono ?_
      rintro e w' ⟨rfl,rfl⟩
      go_wp2
      go_ret2
      rw[HS.out,Bv x Z k (by omega) (by rw[HV.out];exact hr1) (by rw[HV.out];exact hr2) (by rw[HV.out];exact hf)]
      exact⟨rfl,rfl⟩
     ·have hf2:x+v≤1000000000:=by omega
      have hf1:0≤x+v:=by omega
      clear hf
      go_wp2_with fail
      refine (Rs _ _ hr1 hr2).mono ?_
      rintro e w' ⟨rfl,rfl⟩
      go_wp2_with fail
      refine (Rs _ _ hf1 hf2).mono ?_
      rintro e w' ⟨rfl,rfl⟩
      go_wp2
      go_round
      case rel=>
       refine⟨k+1,x+v,by omega,by go_num,rfl,by omega,by omega,?_⟩
       show sm 0 Z=_
       rw[HS.out,Bu x Z k (by omega) (by rw[HV.out];exact hr1) (by rw[HV.out];exact hr2) (by rw[HV.out];exact hf2),HV.out]
      case measure=>simp[intOf];omega
   ·go_wp2
    go_ret2
    rw[HS.out,Zbu x Z k (by omega)]
    exact⟨rfl,rfl⟩
end Go.Proofs.YtpikejjiignchaaGreatDoor
