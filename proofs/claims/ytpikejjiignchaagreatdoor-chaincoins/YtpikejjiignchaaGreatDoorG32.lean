import Derived.Test.YtpikejjiignchaaGreatDoorG2
import Derived.Laws.AppendOwnNone
namespace Go.Proofs.YtpikejjiignchaaGreatDoor
open Go.RowKit
theorem Yy(M:List Int)(a:Int):Xd (M++[a])=some M:=by simp[Xd]
theorem Xr(M:List Int)(a:Int):Q4 (M++[a])=a:=by simp[Q4]
theorem Um(M:List Int)(a b:Int):Xd (M++[a,b])=some (M++[a]):=by
 rw[show M++[a,b]=(M++[a])++[b] by simp];exact Yy _ _
theorem Ql(M:List Int)(a b:Int):Q4 (M++[a,b])=b:=by
 rw[show M++[a,b]=(M++[a])++[b] by simp];exact Xr _ _
theorem Zcs(h n:Int)(L:List Int):Z8 h 1 n L=Yf L [n]:=by simp[Z8,Yf]
theorem Ah(h n:Int)(L:List Int):Z8 h 12 n L=Yf L [h]:=by simp[Z8,Yf]
theorem Zfo(h n:Int)(M:List Int)(a:Int):Z8 h 2 n (M++[a])=Yf M [a,a]:=by
 simp[Z8,Yf,Yy,Xr]
theorem Zcv(h n:Int)(M:List Int)(a:Int):Z8 h 4 n (M++[a])=some M:=by simp[Z8,Yy]
theorem Zfm(h n:Int)(M:List Int)(a:Int):Z8 h 9 n (M++[a])=Yf M [b01 (a == 0)]:=by
 simp[Z8,Yf,Yy,Xr,g1]
theorem Zfn(h n:Int)(M:List Int)(a:Int):Z8 h 13 n (M++[a])=Yf M [Bt a]:=by
 simp[Z8,Yf,Yy,Xr,g1]
theorem Ga(h n:Int)(M:List Int)(a:Int):Z8 h 11 n (M++[a])=if a=0 then none else some M:=by
 simp[Z8,Yy,Xr]
theorem Zcq(h n:Int)(M:List Int)(a b:Int):Z8 h 3 n (M++[a,b])=Yf M [b,a]:=by
 simp[Z8,Yf,Um,Ql,Yy,Xr]
theorem Zfq(h n:Int)(M:List Int)(a b:Int):Z8 h 5 n (M++[a,b])=Yf M [a+b]:=by
 simp[Z8,Yf,Um,Ql,Yy,Xr,g2]
theorem Zfl(h n:Int)(M:List Int)(a b:Int):Z8 h 6 n (M++[a,b])=Yf M [a - b]:=by
 simp[Z8,Yf,Um,Ql,Yy,Xr,g2]
theorem Zcr(h n:Int)(M:List Int)(a b:Int):Z8 h 7 n (M++[a,b])=Yf M [b01 (a == b)]:=by
 simp[Z8,Yf,Um,Ql,Yy,Xr,g2]
theorem Zcu(h n:Int)(M:List Int)(a b:Int):Z8 h 8 n (M++[a,b])=Yf M [b01 (decide (a<b))]:=by
 simp[Z8,Yf,Um,Ql,Yy,Xr,g2]
theorem Zfp(h n:Int)(M:List Int)(a b:Int):Z8 h 10 n (M++[a,b])=Yf M [b01 (a != 0 && b != 0)]:=by
 simp[Z8,Yf,Um,Ql,Yy,Xr,g2]
theorem N7:Xd []=none:=rfl
theorem We(h k n:Int)(hk:k≠1)(hk':k≠12):Z8 h k n []=none:=by
 simp[Z8,N7,hk,hk']
theorem Qm(h k n a:Int)(hk:k=3∨k=5∨k=6∨k=7∨k=8∨k=10):Z8 h k n [a]=none:=by
 have e:Xd [a]=some []:=rfl
 rcases hk with rfl|rfl|rfl|rfl|rfl|rfl <;> simp[Z8,e,N7]
theorem Xu{L:List Int}(h:1≤L.length):∃ M a,L=M++[a]:=by
 have hn:L≠[]:=fun e=>by subst e;simp at h
 exact⟨L.dropLast,L.getLast hn,(List.dropLast_concat_getLast hn).symm⟩
theorem Qq{L:List Int}(h:2≤L.length):∃ M a b,L=M++[a,b]:=by
 obtain⟨M,b,rfl⟩:=Xu (L:=L) (by omega)
 obtain⟨N,a,rfl⟩:=Xu (L:=M) (by simp at h;omega)
 exact⟨N,a,b,by simp⟩
theorem Xt{M:List Int}{x:Int}(h1:M.length<16)(h2:fit x=true):Yf M [x]=some (M++[x]):=by
 have:¬M.length=16:=by omega
 simp[Yf,Qc,this,h2]
theorem Y9{M:List Int}{x:Int}{r:List Int}(h1:M.length=16):Yf M (x :: r)=none:=by simp[Yf,Qc,h1]
theorem Xg{M:List Int}{x:Int}{r:List Int}(h2:fit x=false):Yf M (x :: r)=none:=by simp[Yf,Qc,h2]
theorem Sb{M:List Int}{x y:Int}(h1:M.length<16)(h2:fit x=true):Yf M [x,y]=Yf (M++[x]) [y]:=by
 have:¬M.length=16:=by omega
 simp[Yf,Qc,this,h2]
theorem Jx{L:List Int}(h:Z9 L=true):L.length≤16∧∀ x∈L,fit x=true:=by
 simpa[Z9] using h
open Go.RowKit Go.Maps
theorem Vd:Keyed Tryz.prog 3:=int_keyed Tryz.underlying3
theorem Xf(w:World):(zeroValue 3).run Tryz.prog w = .ok (.int .i64 0) w:=by kernel_rfl
theorem Tu{H:Type}{P:Program}(w:World){ops:Array Oper}{rest:List Oper}{o:Oper}{a:Act}{Q:Exit→Act→World→Prop}
  (hg:o.guard=none) (m x v:Operand) (t:TypeId) (hop:o.op=Op.insert t m x v)
  (k e:TypeId) (K:Keyed P k) (ht:P.underlying t=some (.map k e)) (R:Value→Option (DataW H×List MemPlace)) (b n:Nat) (D:DataW H)
  (hm:a.eval m = .map (some b)) (hown:w.ownsMap P k R b n D) (hn:n<maxLen) (key val:Value) (kl:Lit) (hx:a.eval x=key) (hv:a.eval v=val) (hkey:keyOf P k key=some kl)
  (d:DataW H) (ps:List MemPlace) (hval:R val=some (d,ps))
  (hK:∀ w',w'.ownsMap P k R b (n+1) (D.put kl d)→w.grownBy w' (some b)→wpList P ops Q rest (a.put o.dst undef) w') :
  wpList P ops Q (o :: rest) a w:=by
 refine wpList_plain hg fun K' hK'=>?_
 obtain⟨w',hrun,r1,r2⟩:=hown.update K ht hn hkey hval
 unfold Oper.wp
 simp[execOp,hop,hm,hx,hv,hrun,Result.andThen]
 exact hK' _ _ (hK w' r1 r2)
def putD(D:DataW Unit)(p:Int×Int):DataW Unit:=D.put (.int .i64 p.1) (.lit (.int .i64 p.2))
def TakesD:DataW Unit:=[(2,1),(3,2),(4,1),(5,2),(6,2),(7,2),(8,2),(9,1),(10,2),(11,1),(13,1)].foldl putD (.map [])
def Zbv(k:Int):Int:=if k=1∨k=12 then 0 else if k=2∨k=4∨k=9∨k=11∨k=13 then 1 else 2
theorem Zfe(k:Int)(h1:1≤k)(h2:k≤13):TakesD.atKey (.int .i64 k) (.lit (.int .i64 0)) = .lit (.int .i64 (Zbv k)):=by
 have h:k=1∨k=2∨k=3∨k=4∨k=5∨k=6∨k=7∨k=8∨k=9∨k=10∨k=11∨k=12∨k=13:=by omega
 rcases h with rfl|rfl|rfl|rfl|rfl|rfl|rfl|rfl|rfl|rfl|rfl|rfl|rfl
 all_goals rfl
abbrev Hs(bm n:Nat)(D:DataW Unit)(w:World):Prop:=w.ownsMap Tryz.prog 3 (plainElem (H:=Unit) Tryz.prog 3) bm n D
structure St(W:World)(bm:Nat)(v:Value)(L:List Int)(w:World):Prop where
 row:∃ g cap,v = .slice (some ⟨g,0,none⟩) L.length cap∧L.length≤cap∧cap≤maxLen
 own:w.ownsRow W.heap.size 3 1 v L.length (L.map (Value.int .i64))
 map:Hs bm 11 TakesD w
 bel:Below W.heap.size W w
theorem Zhd{bm n:Nat}{D:DataW Unit}{w w':World}(h:Hs bm n D w)(hb:Below w.heap.size w w'):Hs bm n D w':=by
 obtain⟨es,clock,h1,r⟩:=h
 exact⟨es,clock,(hb.block bm (lt_of_block h1)).trans h1,r⟩
theorem Zgq{w w':World}{base:Nat}{e:TypeId}{size:Nat}{v:Value}{n:Nat}{xs:List Value}(h:w.ownsRow base e size v n xs)(hb:Below w.heap.size w w'):w'.ownsRow base e size v n xs:=by
 obtain⟨hl,h0|⟨g,cap,cur,hv,hg,hh,r⟩⟩:=h
 ·exact⟨hl,.inl h0⟩
 ·exact⟨hl,.inr ⟨g,cap,cur,hv,hg,(hb.block g (lt_of_block hh)).trans hh,r⟩⟩
theorem St.keep{W:World}{bm:Nat}{v:Value}{L:List Int}{w w':World}(h:St W bm v L w)(hb:Below w.heap.size w w'):St W bm v L w':=
 ⟨h.row,Zgq h.own hb,Zhd h.map hb,h.bel.trans (hb.mono h.bel.size)⟩
theorem St.apart{W:World}{bm:Nat}{v:Value}{L:List Int}{w:World}(h:St W bm v L w):some bm≠v.ownBlock:=by
 obtain⟨es,clock,h1,_⟩:=h.map
 obtain⟨_,h0|⟨g,cap,cur,hv,hg,hh,r⟩⟩:=h.own
 ·obtain⟨g,cap,hv,_⟩:=h.row
  rw[hv] at h0
  simp at h0
 ·rw[hv]
  intro e
  simp only[Value.ownBlock,Option.some.injEq] at e
  rw[e,hh] at h1
  cases h1
theorem St.ge{W:World}{bm:Nat}{v:Value}{L:List Int}{w:World}(h:St W bm v L w):∀ k,v.ownBlock=some k→W.heap.size≤k:=by
 obtain⟨_,h0|⟨g,cap,cur,hv,hg,hh,r⟩⟩:=h.own
 ·intro k hk;rw[h0.1] at hk;cases hk
 ·intro k hk
  rw[hv] at hk
  simp only[Value.ownBlock,Option.some.injEq] at hk
  omega
theorem St.app{W:World}{bm:Nat}{v v':Value}{L:List Int}{x:Int}{w w':World}(h:St W bm v L w)
  (ho:w'.ownsRow W.heap.size 3 1 v' (L.length+1) (L.map (Value.int .i64)++[.int .i64 x])) (hg:w.grownBy w' v.ownBlock) (hn:v' = .slice none 0 0↔v = .slice none 0 0∧1=0):St W bm v' (L++[x]) w' where
 row:=by
  obtain⟨_,h0|⟨g,cap,cur,hv,hg,hh,h1,h2,r⟩⟩:=ho
  ·exact absurd (hn.1 h0.1).2 (by decide)
  ·exact⟨g,cap,by rw[hv];simp,by simpa using h1,h2⟩
 own:=by simpa using ho
 map:=h.map.kept hg h.apart
 bel:=h.bel.grown hg h.bel.size h.ge
theorem St.cut{W:World}{bm:Nat}{a:Option Addr}{n cap:Nat}{M T:List Int}{w:World}(h:St W bm (.slice a n cap) (M++T) w):St W bm (.slice a M.length cap) M w where
 row:=by
  obtain⟨g,c,hv,h1,h2⟩:=h.row
  simp only[Value.slice.injEq] at hv
  obtain⟨rfl,_,rfl⟩:=hv
  rw[List.length_append] at h1
  exact⟨g,cap,rfl,by omega,h2⟩
 own:=by
  obtain⟨hl,h0|⟨g,c,cur,hv,hg,hh,h1,h2,h3,h4⟩⟩:=h.own
  ·obtain⟨g,c,hv,_⟩:=h.row
   rw[hv] at h0
   simp at h0
  ·simp only[Value.slice.injEq] at hv
   obtain⟨rfl,_,rfl⟩:=hv
   rw[List.length_append] at h1
   refine⟨by simp,.inr ⟨g,cap,cur,rfl,hg,hh,by omega,h2,h3,?_⟩⟩
   have e:=congrArg (List.take (M.length*1)) h4
   rw[List.take_take,List.length_append] at e
   rw[show min (M.length*1) ((M.length+T.length)*1)=M.length*1 by omega] at e
   rw[e,List.map_append,List.take_left' (by simp)]
 map:=h.map
 bel:=h.bel
theorem St.cell{W:World}{bm:Nat}{g n cap:Nat}{L:List Int}{w:World}(h:St W bm (.slice (some ⟨g,0,none⟩) n cap) L w)(i:Nat)(hi:i<L.length):w.cell? ⟨g,i,none⟩=some (.int .i64 (L.getD i 0)):=by
 obtain⟨hl,h0|⟨g',c,cur,hv,hg,hh,h1,h2,h3,h4⟩⟩:=h.own
 ·obtain⟨h5,_⟩:=h0
  simp at h5
 ·simp only[Value.slice.injEq,Option.some.injEq,Addr.mk.injEq] at hv
  obtain⟨⟨rfl,_⟩,_,rfl⟩:=hv
  have e:=congrArg (fun l:List Value=>l[i]?) h4
  simp only[List.getElem?_take_of_lt (show i<L.length*1 by omega)] at e
  simp only[World.cell?,hh]
  rw[Array.getElem?_toList] at e
  simpa[hi] using e
theorem St.rowAt{W:World}{bm:Nat}{v:Value}{L:List Int}{w:World}(h:St W bm v L w):∃ a cap,v = .slice a L.length cap∧RowAt w a L.length L∧(a=none→cap=0):=by
 obtain⟨g,cap,rfl,h1,h2⟩:=h.row
 refine⟨_,cap,rfl,⟨rfl,Nat.le_trans h1 h2,fun _=>⟨g,0,rfl,fun i hi=>?_⟩⟩,fun h=>by cases h⟩
 rw[Nat.zero_add]
 exact h.cell i hi
open Go.RowKit Go.Maps
theorem Tryz.info3:(Tryz.prog.info? 3).map (fun i=>(i.zero,i.size,i.bytes))=some (some (.int .i64 0),1,8):=by kernel_rfl
theorem U2{w:World}{ops:Array Oper}{rest:List Oper}{o:Oper}{a:Act}{Q:Exit→Act→World→Prop}(hgd:o.guard=none)(s x:Operand)
  (ho:o.op = .call { callee:=.builtin .append,args:=#[s,x],argTypes:=#[25,25] }) (base:Nat) (v:Value) (n:Nat) (xs:List Value) (hs:a.eval s=v) (hown:w.ownsRow base 3 1 v n xs)
  (az:Option Addr) (len cap:Nat) (Z:List Int) (hx:a.eval x = .slice az len cap) (hcap:az=none→cap=0) (hR:RowAt w az len Z) (hnz:n+len≤1000000) (hbase:base≤w.heap.size)
  (h:∀ v' w',w'.ownsRow base 3 1 v' (n+len) (xs++Z.map (Value.int .i64))→w.grownBy w' v.ownBlock→(v = .slice none 0 0∨v' ≠ .slice none 0 0)→wpList Tryz.prog ops Q rest (a.put o.dst v') w') :
  wpList Tryz.prog ops Q (o :: rest) a w:=by
 obtain⟨i0,hi,hz0,hz1,hz2⟩:=info_parts Tryz.info3
 cases az with
 | none=>
  have h0:len=0:=by
   by_cases e:len=0
   ·exact e
   ·obtain⟨b,off,e',_⟩:=hR.2.2 (by omega)
    cases e'
  subst h0
  have hc:=hcap rfl
  subst hc
  have hZ:Z=[]:=List.length_eq_zero_iff.1 hR.1
  subst hZ
  refine wpList_append_own_none hgd s x 25 ho base 3 i0 1 Tryz.underlying25 hi v n xs hs hown hx ?_
  by_cases hv:v = .slice none 0 0
  ·exact h v w (by simpa using hown) (World.grownBy.refl _ _) (.inl hv)
  ·exact h v w (by simpa using hown) (World.grownBy.refl _ _) (.inr hv)
 | some ad=>
  refine wpList_append_own w hgd s x 25 ho base 3 i0 (.int .i64 0) 1 8 Tryz.underlying25 hi hz0 hz1 hz2 rfl (by decide) v n xs hs hown ad len cap (Z.map (Value.int .i64)) hx (by simp[hR.1]) (fun j u hj=>?_) (fun u hu=>?_) (by unfold maxLen;omega) (by omega) hbase fun v' w' h1 h2 h3=>h v' w' h1 h2 ?_
  ·have hj':j<Z.length:=by
    have:=(List.getElem?_eq_some_iff.1 hj).1
    simpa using this
   obtain⟨b,off,e,hc⟩:=hR.2.2 (by rw[←hR.1];omega)
   cases e
   have hadd:(⟨b,off,none⟩:Addr).add j=⟨b,off+j,none⟩:=by unfold Addr.add;split <;> simp_all
   rw[hadd,hc j (by rw[←hR.1];exact hj')]
   simpa[hj'] using hj
  ·simp only[List.mem_map] at hu
   obtain⟨y,_,rfl⟩:=hu
   rfl
  ·by_cases e:v' = .slice none 0 0
   ·exact .inl (h3.1 e).1
   ·exact .inr e
structure Pro(W:World)(bm:Nat)(v:Value)(L:List Int)(n:Nat)(D:DataW Unit)(w:World):Prop where
 row:∃ g cap,v = .slice (some ⟨g,0,none⟩) L.length cap∧L.length≤cap∧cap≤maxLen
 own:w.ownsRow W.heap.size 3 1 v L.length (L.map (Value.int .i64))
 apart:v.ownBlock≠some bm
 new:W.heap.size≤bm
 map:Hs bm n D w
 bel:Below W.heap.size W w
theorem Pro.start{W w0 w:World}{v0 v:Value}{L:List Int}(hb:Below W.heap.size W w0)(hv0:∀ k,v0.ownBlock=some k→W.heap.size≤k)(ho:w.ownsRow W.heap.size 3 1 v L.length (L.map (Value.int .i64)))(hg:w0.grownBy w v0.ownBlock)(hn:v ≠ .slice none 0 0) :
  Pro W w.heap.size v L 0 (.map []) (w.alloc (.map #[] 0)) where
 row:=by
  obtain⟨_,h0|⟨g,cap,cur,hv,_,hh,h1,h2,r⟩⟩:=ho
  ·exact absurd h0.1 hn
  ·exact⟨g,cap,hv,h1,h2⟩
 own:=ho.alloc _
 apart:=by
  obtain⟨_,h0|⟨g,cap,cur,hv,_,hh,_⟩⟩:=ho
  ·exact absurd h0.1 hn
  ·have:=lt_of_block hh
   rw[hv]
   intro e
   simp only[Value.ownBlock,Option.some.injEq] at e
   omega
 new:=(hb.grown hg hb.size hv0).size
 map:=World.ownsMap_made _ _ _ _
 bel:=(hb.grown hg hb.size hv0).alloc (hb.grown hg hb.size hv0).size _
theorem Nj{w w1:World}{v1:Value}{lens:Nat}{Z:List Int}(hb:Below w.heap.size w (w.alloc (.cells #[] 3)))(hz:Z.length=lens)(ho:w1.ownsRow w.heap.size 3 1 v1 (0+lens) ([]++Z.map (Value.int .i64)))
  (hg:(w.alloc (.cells #[] 3)).grownBy w1 (Value.ownBlock (.slice (some ⟨w.heap.size,0,none⟩) 0 0))) (hn:(Value.slice (some ⟨w.heap.size,0,none⟩) 0 0) = .slice none 0 0∨v1 ≠ .slice none 0 0):Pro w w1.heap.size v1 Z 0 (.map []) (w1.alloc (.map #[] 0)):=by
 rw[List.nil_append,Nat.zero_add,←hz] at ho
 exact Pro.start hb (fun k hk=>by cases hk;exact Nat.le_refl _) ho hg (hn.resolve_left (by simp))
theorem Pro.st{W:World}{bm:Nat}{v:Value}{L:List Int}{w:World}(h:Pro W bm v L 11 TakesD w):St W bm v L w:=⟨h.row,h.own,h.map,h.bel⟩
theorem U1(w:World){ops:Array Oper}{rest:List Oper}{o:Oper}{a:Act}{Q:Exit→Act→World→Prop}
  (hg:o.guard=none) (m x v:Operand) (hop:o.op=Op.insert 86 m x v) (W:World) (bm:Nat) (u:Value) (L:List Int) (n:Nat) (D:DataW Unit)
  (hp:Pro W bm u L n D w) (hm:a.eval m = .map (some bm)) (hn:n<100) (k t:Int) (hx:a.eval x = .int .i64 k) (hv:a.eval v = .int .i64 t) (hk:(Lit.int .i64 k).wf=true) (ht:(Lit.int .i64 t).wf=true)
  (hK:∀ w',Pro W bm u L (n+1) (putD D (k,t)) w'→wpList Tryz.prog ops Q rest (a.put o.dst undef) w') :
  wpList Tryz.prog ops Q (o :: rest) a w:=by
 refine Tu w hg m x v 86 hop 3 3 Vd Tryz.underlying86 _ bm n D hm hp.map (by unfold maxLen;omega) _ _ _ hx hv (keyOf_int_mk Tryz.underlying3 hk) _ [] (plainElem_int Tryz.underlying3 ht) fun w' h1 h2=>hK w' ?_
 exact⟨hp.row,hp.own.kept h2 (.inr hp.apart),hp.apart,hp.new,h1,hp.bel.grown h2 hp.bel.size (fun j hj=>by cases hj;exact hp.new)⟩
set_option maxRecDepth 100000 in
set_option maxHeartbeats 1600000 in
theorem Ap(az:Option Addr)(lens caps cap:Nat)(a:Option Addr)(Z:List Int)(h:Int)(w:World)(hR:RowAt w az lens Z)(hc:az=none→caps=0)(hZ:Z9 Z=true) :
  Calls Tryz.prog 151 #[.slice a 0 cap,.slice az lens caps,.int .i64 h] w fun e w'=>∃ a' cap',e = .returned (.tuple #[.slice a' Z.length cap',.bool true])∧RowAt w' a' Z.length Z∧Below w.heap.size w w'∧(a'=none→cap'=0):=by
 have hlen:lens≤16:=by rw[←hR.1];exact (Jx hZ).1
 have HR:=Zb hR
 have HC:=Zb hc
 clear hR hc hZ
 have HB0:=Zb ((Below.refl w.heap.size w).alloc (Nat.le_refl _) (.cells #[] 3))
 have HR0:=Zb ((Za HR).later (Za HB0))
 have HO0:Hid ((w.alloc (.cells #[] 3)).ownsRow w.heap.size 3 1 (.slice (some ⟨w.heap.size,0,none⟩) 0 0) 0 []):=⟨rfl,.inr ⟨w.heap.size,0,#[],rfl,Nat.le_refl _,heap_alloc_new _ _,Nat.le_refl _,by decide,rfl,rfl⟩⟩
 have hmm:=@run_makeMap Tryz.prog
 go_enter Tryz.func151,Tryz.ntmps151
 go_wp2_with (first
  | (at_builtin;refine U2 rfl _ _ rfl w.heap.size _ _ _ rfl (Za HO0) az lens caps Z rfl (Za HC) (Za HR0) (by omega) (Za HB0).size ?_;intro v1 w1 ho1 hg1 hn1;have hst:=Nj (Za HB0) (Za HR).1 ho1 hg1 hn1;clear ho1 hg1 hn1)
  | (refine U1 _ rfl _ _ _ rfl _ _ _ _ _ _ hst rfl (by omega) _ _ rfl rfl (by decide) (by decide) ?_;intro w2 hst2;clear hst;have hst:=hst2;clear hst2))
 have HST:=Zb (Pro.st hst)
 clear hst
 obtain⟨a',cap',rfl,hra,hca⟩:=(Za HST).rowAt
 have HCA:=Zb hca
 have HRA:=Zb hra
 clear hra hca
 refine wp_loop_rounds 1 ?_
 rw[rounds_succ]
 go_wp2
 go_ret2
 exact⟨a',cap',rfl,Za HRA,(Za HST).bel,Za HCA⟩
end Go.Proofs.YtpikejjiignchaaGreatDoor
