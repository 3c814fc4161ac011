/- A region that draws its order, walked in a round of a loop over an iterator by what holds of it outside. Nothing of the program. -/
import Derived.RangeFuncNested
import Derived.RangeFuncBound
import Derived.RangeFuncCalls
import Derived.RangeFuncLeaves
import Derived.WalkKit
import Derived.OwnWalkIn
import Derived.OrdersIn
import Derived.OrdersHeld
import Derived.Deep.RegionHeld
import Derived.Test.YtepmnpapdknocaaGreatDoorCoinBackMToRefNames
import Derived.Test.YtepmnpapdknocaaGreatDoorCoinCopyCToBlkReward
import Derived.Shelf.Abstract
import Derived.Shelf.RegionOpen
import Derived.TacticsInMore
import Derived.LoopNIn
import Derived.LoopIn
import Derived.RangeFuncWrites
set_option maxHeartbeats 2000000
namespace Go.Proofs.YtepmnpapdknocaaGreatDoor
open Go.RowKit
theorem Ar{P:Program}{row:String}{args:Array Value}{w:World}{R R':Value→World→Prop}{l n:Nat}(h:Rows P row args w R)(hr:∀ v w',R v w'→R' v w'):RowsIn (Fence.wide.inRound l) n P row args w R':=
 fun c cs _=>let ⟨v,w',r,s⟩:=h c cs;⟨v,w',hr _ _ r,stepsIn_wide.2 s⟩
theorem Ac{l n:Nat}{P:Program}{ops:Array Oper}{Q:Exit→Act→World→Prop}{i:Nat}{K K':Act→World→Prop}{a:Act}{w:World}
  (hd:∀ (i:Nat) (o:Oper),ops[i]? = some o→∀ c,o.op ≠ .defer c) (hL:¬LetsOut Q) (hK:∀ a w,K a w→K' a w) (h:wpOp P ops Q i K a w):wpOpIn (Fence.wide.inRound l) n P ops Q i K' a w:=by
 unfold wpOp at h
 unfold wpOpIn
 cases ho:ops[i]? with
 | none=>simp only[ho] at h ⊢;exact hK _ _ h
 | some o=>
  simp only[ho] at h ⊢
  split at h
  ·rename_i hw
   rw[if_pos hw]
   rcases h with h|h
   ·refine⟨fun _ _=>trivial,?_⟩
    rw[Oper.semAt_plain _ _ _ (hd i o ho)]
    unfold Oper.wp at h
    generalize (execOp a.eval o).run P w=res at *
    cases res with
    | ok x w'=>
     cases x with
     | value v=>exact hK _ _ h
     | skip=>exact hK _ _ h
     | defer d=>exact hK _ _ h
     | enter f args=>
      refine⟨fun q=>(by cases q),?_⟩
      have h2:Calls P f args w' _:=h
      refine CallsIn.inRound l (callsIn_wide.2 (h2.mono fun e w'' he=>?_))
      cases e with
      | returned v=>exact hK _ _ he
      | panicked c=>exact he
      | outgrown=>exact he
     | row row args=>exact⟨fun q=>(by cases q),Ar h (fun v w'' q=>hK _ _ q)⟩
     | _=>exact False.elim h
    | halt x w'=>
     cases x with
     | panic v=>exact h
     | _=>exact False.elim h
   ·exact absurd h.2 hL
  ·rename_i hw
   rw[if_neg hw]
   exact⟨fun _ _=>trivial,hK _ _ h⟩
theorem Sa{l n:Nat}{P:Program}{md:Region.Mode}{ops:Array Oper}{Q:Exit→Act→World→Prop}(hd:∀ (i:Nat) (o:Oper),ops[i]? = some o→∀ c,o.op ≠ .defer c)(hL:¬LetsOut Q) :
  ∀ (fuel:Nat) (listed:Array Bool) (a:Act) (w:World),wpAny P md ops Q fuel listed a w→wpAnyIn (Fence.wide.inRound l) n P md ops Q fuel listed a w
 | 0,_,_,_,h=>h
 | fuel+1,_,_,_,h=>⟨h.1,fun i hi=>Ac hd hL (fun a' w' h'=>Sa hd hL fuel _ a' w' h') (h.2 i hi)⟩
def Ms(ops:Array Oper):Bool:=ops.all fun o=>match o.op with|.defer _=>false|_=>true
theorem Mr{ops:Array Oper}(h:Ms ops=true):∀ (i:Nat) (o:Oper),ops[i]? = some o→∀ c,o.op ≠ .defer c:=by
 intro i o ho c e
 unfold Ms at h
 rw[Array.all_eq_true] at h
 obtain⟨hi,rfl⟩:=Array.getElem?_eq_some_iff.1 ho
 have:=h i hi
 rw[e] at this
 exact Bool.noConfusion this
theorem Rr{l n:Nat}{P:Program}{id:Nat}{ops:Array Oper}{Q:Exit→Act→World→Prop}{S:World→Prop}{a:Act}{w:World}(hm:P.follows .mixedOrders=true)(hd:Ms ops=true)(hS:S w.drew)
  (h:S w.drew→wpAnyH P .any ops (fun e a w=>e ≠ .outgrown∧Q e a w) S ops.size (Array.replicate ops.size false) a w.drew):(Code.region id ops true).wpIn (Fence.wide.inRound l) n P Q a w:=by
 have h1:=Sa (l:=l) (n:=n) (Mr hd) (fun ⟨_,_,q⟩=>q.1 rfl) _ _ _ _ (wpAny_of_held _ _ _ _ (h hS))
 have h2:(Code.region id ops true).wpIn (Fence.wide.inRound l) n P (fun e a w=>e ≠ .outgrown∧Q e a w) a w:=wpIn_region_any hm h1
 intro b k cs hro hb hr
 obtain⟨e,a',w',q,r⟩:=h2 b k cs hro hb hr
 exact⟨e,a',w',q.2,r⟩
open Go.RowKit Go.Shelf
attribute [local go_sem] Oper.semAt_some
def Ls(T:List TxD)(N:List Int)(S:List (List Zb))(i:Nat)(C:List Zb):Int×List Zb:=
 rvD C (T.getD ((i+1) % T.length) Wg) (N.getD ((i+1) % T.length) 0) (S.getD ((i+1) % T.length) [])
def Jq(T:List TxD)(N:List Int)(S:List (List Zb)):List Nat→List Zb→Int×List Zb
 | [],C=>(0,C)
 | i :: r,C=>if (Ls T N S i C).1≠0 then ((Ls T N S i C).1,[]) else Jq T N S r (Ls T N S i C).2
def Qq:Nat→List Nat
 | 0=>[]
 | q+1=>q :: Qq q
theorem Re(T:List TxD)(N:List Int)(S:List (List Zb)):∀ (q:Nat) (C:List Zb),Uu T N S q C=Jq T N S (Qq q) C
 | 0,C=>rfl
 | q+1,C=>by
  rw[Uu,Qq,Jq,←Re T N S q]
  rfl
theorem Lv{T:List TxD}{N:List Int}{S:List (List Zb)}{i:Nat}{y:Int}{M:List Zb}:∀ {l:List Nat} {C C1:List Zb},Jq T N S l C=(0,C1)→Ls T N S i C1=(y,M)→Jq T N S (l++[i]) C=if y≠0 then (y,[]) else (0,M)
 | [],C,C1,h,hs=>by
  rw[Jq] at h
  injection h with _ h
  subst h
  rw[List.nil_append,Jq,hs]
  rfl
 | j :: l,C,C1,h,hs=>by
  rw[Jq] at h
  rw[List.cons_append,Jq]
  split at h
  ·rename_i q;injection h with h _;exact absurd h q
  ·rename_i q
   rw[if_neg q]
   exact Lv h hs
theorem Ft{T:List TxD}{N:List Int}{S:List (List Zb)}{y:Int}{M:List Zb}{r:List Nat}:∀ {l:List Nat} {C:List Zb},Jq T N S l C=(y,M)→y≠0→Jq T N S (l++r) C=(y,[])
 | [],C,h,hy=>by
  rw[Jq] at h
  injection h with h _
  exact absurd h.symm hy
 | j :: l,C,h,hy=>by
  rw[Jq] at h
  rw[List.cons_append,Jq]
  split at h
  ·rename_i q
   rw[if_pos q]
   injection h with h _
   rw[h]
  ·rename_i q
   rw[if_neg q]
   exact Ft h hy
def dnL(m:Nat):(k:Nat)→k≤m→List { i:Nat // i<m }
 | 0,_=>[]
 | k+1,h=>dnL m k (Nat.le_of_succ_le h)++[⟨m - 1 - k,by omega⟩]
theorem Cx(m:Nat):∀ (k:Nat) (h:k≤m),(dnL m k h).length=k
 | 0,_=>rfl
 | k+1,h=>by rw[dnL,List.length_append,Cx m k];rfl
theorem Hk(m:Nat):∀ (k:Nat) (h:k≤m),Qq m=(dnL m k h).map (·.1)++Qq (m - k)
 | 0,_=>rfl
 | k+1,h=>by
  rw[dnL,List.map_append,List.append_assoc,Hk m k (Nat.le_of_succ_le h)]
  congr 1
  obtain⟨q,hq⟩:∃ q,m - k=q+1:=⟨m - k - 1,by omega⟩
  rw[hq,Qq,show m - (k+1)=q by omega]
  show _=(m - 1 - k) :: Qq q
  congr 1
  omega
theorem Zge(m:Nat):Qq m=(dnL m m (Nat.le_refl m)).map (·.1):=by
 have:=Hk m m (Nat.le_refl m)
 rwa [Nat.sub_self,Qq,List.append_nil] at this
structure KpD(n1 b c:Nat)(W W':World):Prop where
 os:W'.os=W.os
 tape:W'.tape=W.tape
 output:W'.output=W.output
 size:W.heap.size≤W'.heap.size
 block:∀ k,k<n1→k≠b→k≠c→W'.heap[k]? = W.heap[k]?
theorem KpD.refl(n1 b c:Nat)(W:World):KpD n1 b c W W:=⟨rfl,rfl,rfl,Nat.le_refl _,fun _ _ _ _=>rfl⟩
theorem KpD.trans{n1 b c:Nat}{A B C:World}(h:KpD n1 b c A B)(k:KpD n1 b c B C):KpD n1 b c A C:=
 ⟨k.os.trans h.os,k.tape.trans h.tape,k.output.trans h.output,Nat.le_trans h.size k.size,fun i h1 h2 h3=>(k.block i h1 h2 h3).trans (h.block i h1 h2 h3)⟩
theorem KpD.put{n1 b c:Nat}(W:World)(l:Nat)(o:Obj)(h:n1≤l):KpD n1 b c W (W.putObj l o):=
 ⟨rfl,rfl,rfl,by simp,fun k hk _ _=>World.putObj_heap_other (by omega)⟩
theorem KpD.set{n1 b c:Nat}{W W':World}(h:KpD n1 b c W W'){p:Addr}(hp:p.block=b∨p.block=c)(u:Value):KpD n1 b c W (W'.setCell p u):=
 ⟨h.os,h.tape,h.output,by simpa[World.setCell] using h.size,fun k h1 h2 h3=>(Below.heap_setCell W' p u k (fun e=>by subst e;rcases hp with q|q;exact h2 q;exact h3 q)).trans (h.block k h1 h2 h3)⟩
theorem KpD.on{n1 b c:Nat}{W W1 W2:World}(h:KpD n1 b c W W1)(hb:Below W1.heap.size W1 W2)(hn:n1≤W1.heap.size):KpD n1 b c W W2:=
 ⟨hb.os.trans h.os,hb.tape.trans h.tape,hb.output.trans h.output,Nat.le_trans h.size hb.size,fun k h1 h2 h3=>(hb.block k (by omega)).trans (h.block k h1 h2 h3)⟩
theorem KpD.grown{n1 b c:Nat}{W W1 W2:World}(h:KpD n1 b c W W1){row:Option Nat}(g:W1.grownBy W2 row)(hr:∀ r,row=some r→n1≤r)(hn:n1≤W1.heap.size):KpD n1 b c W W2:=
 ⟨g.os.trans h.os,g.tape.trans h.tape,g.output.trans h.output,Nat.le_trans h.size g.size,fun k h1 h2 h3=>(g.block k (by omega) (fun e=>by have:=hr k e.symm;omega)).trans (h.block k h1 h2 h3)⟩
theorem KpD.below{n1 b c:Nat}{w W0 W:World}(h:KpD n1 b c W0 W)(hb:Below w.heap.size w W0)(hn:w.heap.size≤n1)(h1:w.heap.size≤b)(h2:w.heap.size≤c):Below w.heap.size w W:=
 ⟨h.os.trans hb.os,h.tape.trans hb.tape,h.output.trans hb.output,Nat.le_trans hb.size h.size,fun k hk=>(h.block k (by omega) (by omega) (by omega)).trans (hb.block k hk)⟩
theorem KpD.cell{n1 b c:Nat}{W W':World}(h:KpD n1 b c W W'){k o:Nat}{v:Value}(hk:k<n1)(h2:k≠b)(h3:k≠c)(hv:W.cell? ⟨k,o,none⟩=some v):W'.cell? ⟨k,o,none⟩=some v:=
 (World.cell?_of_block (a:=⟨k,o,none⟩) (h.block k hk h2 h3)).trans hv
def T9(W W':World):Prop:=W.heap.size≤W'.heap.size∧∀ b o v,W.cell? ⟨b,o,none⟩=some v→W'.cell? ⟨b,o,none⟩=some v
theorem Zah{W W':World}(hk:T9 W W'){a:Option Addr}{n:Nat}{l:List (Int×Int)}(h:OpsAt W a n l):OpsAt W' a n l:=by
 refine⟨h.1,fun h0=>?_⟩
 obtain⟨b,off,rfl,hc⟩:=h.2 h0
 exact⟨b,off,rfl,fun i hi=>⟨hk.2 _ _ _ (hc i hi).1,hk.2 _ _ _ (hc i hi).2⟩⟩
theorem Sz{W W':World}(hk:T9 W W'){a:Option Addr}{n:Nat}{L:List Zb}(h:CoinsAt W a n L):CoinsAt W' a n L:=by
 refine⟨h.1,fun h0=>?_⟩
 obtain⟨b,off,rfl,hl,hc⟩:=h.2 h0
 refine⟨b,off,rfl,Nat.lt_of_lt_of_le hl hk.1,fun i hi=>?_⟩
 obtain⟨c0,c1,c2,⟨la,ln,lc,c3,h5,h6⟩,c4,c5⟩:=hc i hi
 exact⟨hk.2 _ _ _ c0,hk.2 _ _ _ c1,hk.2 _ _ _ c2,⟨la,ln,lc,hk.2 _ _ _ c3,Zah hk h5,h6⟩,hk.2 _ _ _ c4,hk.2 _ _ _ c5⟩
theorem G3{W W':World}{row:Option Nat}(g:W.grownBy W' row)(hr:∀ r,row=some r→∃ o:Obj,W.heap[r]? = some o∧o.isCells=false):T9 W W':=
 ⟨g.size,fun _ _ _ h=>cell_kept h g hr⟩
def Box1(W:World)(k:Nat):Prop:=∃ v t fr,W.heap[k]? = some (.cells #[v] t fr)
theorem Box1.two{W:World}{k:Nat}(h:Box1 W k){o:Nat}{v:Value}(h2:W.cell? ⟨k,o+1,none⟩=some v):False:=by
 obtain⟨x,t,fr,hx⟩:=h
 rw[cell_of_row W k (o+1) #[x] t fr hx] at h2
 simp at h2
theorem Zfk{W W':World}{S:Nat→Prop}(hk:∀ k,k<W.heap.size→¬S k→W'.heap[k]? = W.heap[k]?)(hB:∀ k,S k→Box1 W k){a:Option Addr}{n:Nat}{l:List (Int×Int)}(h:OpsAt W a n l):OpsAt W' a n l:=by
 refine⟨h.1,fun h0=>?_⟩
 obtain⟨b,off,rfl,hc⟩:=h.2 h0
 refine⟨b,off,rfl,fun i hi=>?_⟩
 obtain⟨c0,c1⟩:=hc i hi
 have e:=hk b (World.block_lt_of_cell? _ _ c0) (fun q=>(hB b q).two c1)
 exact⟨(World.cell?_of_block (a:=⟨b,_,none⟩) e).trans c0,(World.cell?_of_block (a:=⟨b,_,none⟩) e).trans c1⟩
theorem Jn{W W':World}{S:Nat→Prop}(hs:W.heap.size≤W'.heap.size)(hk:∀ k,k<W.heap.size→¬S k→W'.heap[k]? = W.heap[k]?)(hB:∀ k,S k→Box1 W k){a:Option Addr}{n:Nat}{L:List Zb}(h:CoinsAt W a n L):CoinsAt W' a n L:=by
 refine⟨h.1,fun h0=>?_⟩
 obtain⟨b,off,rfl,hl,hc⟩:=h.2 h0
 refine⟨b,off,rfl,Nat.lt_of_lt_of_le hl hs,fun i hi=>?_⟩
 obtain⟨c0,c1,c2,⟨la,ln,lc,c3,h5,h6⟩,c4,c5⟩:=hc i hi
 have e:=hk b hl (fun q=>(hB b q).two c1)
 have g:=fun (o:Nat)=>World.cell?_of_block (a:=⟨b,o,none⟩) e
 exact⟨(g _).trans c0,(g _).trans c1,(g _).trans c2,⟨la,ln,lc,(g _).trans c3,Zfk hk hB h5,h6⟩,(g _).trans c4,(g _).trans c5⟩
theorem F4(a:Option Addr)(len cap:Nat)(w:World) :
  Calls Tryz.prog 31 #[.slice a len cap] w fun e w'=>e = .returned (.func (.func 74) #[] #[.pointer (some ⟨w.heap.size,0,none⟩)])∧w'=w.alloc (.cells #[.slice a len cap] 30):=by
 go_enter Tryz.func31,Tryz.ntmps31
 go_wp2
 go_ret
 exact⟨rfl,rfl⟩
abbrev Zht(m:Nat)(x:{ i:Nat // i<m }):Array Value:=#[Value.int .i64 (x.1:Int),Value.int .i64 (((x.1+1) % m:Nat):Int)]
set_option maxRecDepth 100000 in
theorem Ni(F:Fence)(n:Nat)(h8:F.fn 74)(hro:F.round=none)(hn:1≤n)(l Bs n1 bb bc tb m cap:Nat)(hm:m≤4)(hb:tb<n1)(hb2:tb≠bb)(hb3:tb≠bc)(hBl:Bs<n1)(hB2:Bs≠bb)(hB3:Bs≠bc)(J Jx:List { i:Nat // i<m }→World→Prop)
  (hY:∀ pre x W,J pre W→pre.length<m→YieldAt F (n - 1) Tryz.prog l (Zht m x) W fun e W'=>
   (e = .returned (.bool true)∧J (pre++[x]) W'∧KpD n1 bb bc W W')∨(e = .returned (.bool false)∧Jx (pre++[x]) W'))
  (W:World) (hBs:W.cell? ⟨Bs,0,none⟩=some (.slice (some ⟨tb,0,none⟩) m cap)) (hc:∀ j,j<m→W.cell? ⟨tb,j,none⟩=some (.int .i64 (((j+1) % m:Nat):Int))) (h0:J [] W) :
  CallsIn F n Tryz.prog 74 #[.func (.yield l) #[] #[],.pointer (some ⟨Bs,0,none⟩)] W fun e W'=>(∃ v,e = .returned v) ∧
   ((∃ ys,ys=dnL m m (Nat.le_refl m)∧J ys W')∨(∃ pre,(∃ k,∃ h:k≤m,pre=dnL m k h)∧Jx pre W')):=by
 have hm0:(m:Int)≤4:=by omega
 refine callsIn_of_wp Tryz.func74 rfl h8 ?_ hro
 simp only[Tryz.ntmps74,List.size_toArray,List.length_cons,List.length_nil,Nat.reduceAdd,Nat.reduceSub,Array.replicate_succ,Array.replicate_zero,List.push_toArray,List.append_toArray,List.nil_append,List.cons_append]
 gi_wp2
 gi_loopw [3] (fun i wr=>∃ (k:Nat) (h:k≤m),i = .int .i64 ((m:Int) - k - 1)∧J (dnL m k h) wr∧KpD n1 bb bc W wr)
  (fun i _=>(intOf i+1).toNat)
 case atStart=>exact⟨0,Nat.zero_le _,by simp,h0,KpD.refl _ _ _ _⟩
 case round=>
  obtain⟨k,hk,rfl,hJs,hnx⟩:=hrel
  by_cases hlt:k<m
  ·obtain⟨j,hj,hjm⟩:∃ j,j=m - 1 - k∧j<m:=⟨_,rfl,by omega⟩
   obtain⟨fn,tmps,assign,body,hy,hR⟩:=hY _ ⟨j,hjm⟩ wr hJs (by rw[Cx];exact hlt)
   dsimp only[Zht] at hy
   have hcx:=hnx.cell hb hb2 hb3 (hc j hjm)
   have hbx:=hnx.cell hBl hB2 hB3 hBs
   have e1:(m:Int) - k - 1=(j:Int):=by omega
   have e2:(m:Int) - ((k+1:Nat):Int) - 1=(j:Int) - 1:=by omega
   have HJ:Hid (j=m - 1 - k):=hj
   obtain⟨tv,htv⟩:∃ tv:Nat,(j+1) % m=tv:=⟨_,rfl⟩
   rw[htv] at hy hcx
   clear hj htv
   rw[e1]
   have hj0:(0:Int)≤(j:Int):=by omega
   have hj1:(j:Int)<(m:Int):=by omega
   clear hc hBs
   gi_wp2
   refine hR.mono ?_
   rintro e W3 (⟨rfl,hJ3,hk3⟩|⟨rfl,hJx3⟩)
   ·gi_wp2
    go_roundw
    case rel=>
     refine⟨k+1,hlt,?_,?_,hnx.trans hk3⟩
     ·rw[e2]
     ·rw[dnL]
      obtain rfl:=unhide HJ
      exact hJ3
    case measure=>simp[intOf]
   ·gi_wp2
    refine bodyPost_ret (results_none rfl _ _ _) rfl ?_
    refine⟨⟨_,rfl⟩,.inr ⟨_,⟨k+1,hlt,?_⟩,hJx3⟩⟩
    rw[dnL]
    obtain rfl:=unhide HJ
    rfl
  ·obtain rfl:k=m:=by omega
   have e1:(k:Int) - k - 1 = -1:=by omega
   rw[e1]
   clear hc hBs
   gi_wp2
   go_end0
   exact⟨⟨_,rfl⟩,.inl ⟨_,rfl,hJs⟩⟩
theorem Hz(F:Fence)(n:Nat)(h8:F.fn 74)(hro:F.round=none)(hn:1≤n)(Bs n1 bb bc tb m cap:Nat)(hm:m≤4)(w:World)(hw:w.heap.size=n1)(hb:tb<n1)(hb2:tb≠bb)(hb3:tb≠bc)(hBl:Bs<n1)(hB2:Bs≠bb)(hB3:Bs≠bc)
  (hBs:w.cell? ⟨Bs,0,none⟩=some (.slice (some ⟨tb,0,none⟩) m cap)) (hc:∀ j,j<m→w.cell? ⟨tb,j,none⟩=some (.int .i64 (((j+1) % m:Nat):Int))) :
  SeqStopsK F n Tryz.prog 74 #[.pointer (some ⟨Bs,0,none⟩)] (Zht m) (KpD n1 bb bc) (fun ys=>ys=dnL m m (Nat.le_refl m)) (fun pre=>∃ k,∃ h:k≤m,pre=dnL m k h) m w:=fun l J Jx W hW _ _ hY h0=>by
 subst hw
 exact Ni F n h8 hro hn l Bs w.heap.size bb bc tb m cap hm hb hb2 hb3 hBl hB2 hB3 J Jx hY W (cell_later hW hBs) (fun j hj=>cell_later hW (hc j hj)) h0
end Go.Proofs.YtepmnpapdknocaaGreatDoor
