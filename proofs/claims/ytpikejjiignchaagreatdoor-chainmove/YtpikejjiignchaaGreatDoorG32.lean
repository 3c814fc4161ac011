import Derived.Test.YtpikejjiignchaaGreatDoorH
import Derived.Test.YtpikejjiignchaaGreatDoorG31
open Go.Proofs.Tryz
open Go renaming TypeId->bO,DataW->dA,maxLen->cD,lt_of_block->aA,wpList_append_own->dV,heap_alloc_new->aK,wp_loop_rounds->aQ,rounds_succ->aL,wpList_lookup_own_int->aU
open Go.Ending renaming returned->dX
open Go.IntKind renaming i64->J
open Go.Obj renaming cells->dW
open Go.Proofs renaming intOf->aV
open Go.Proofs.Tryz renaming prog->aB,underlying3->aG,underlying86->aW
open Go.Value renaming int->bC,int->E,slice->F,tuple->dY,bool->eA
open Go.Value.slice renaming injEq->cZ
open List renaming length_append->bB,length_eq_zero_iff->aJ
open Nat renaming le_refl->aE,zero_le->aP
open Option.some renaming injEq->bE
set_option maxHeartbeats 8000000
namespace Go.Proofs.YtpikejjiignchaaGreatDoor
open Go.RowKit Go.Maps
theorem Vx:Keyed aB 3:=int_keyed aG
theorem Xt(w):(zeroValue 3).run aB w = .ok (E J 0) w:=by kernel_rfl
theorem P4{H:Type}{P:Program}(w:World){ops rest}{o:Oper}{a:Act}{Q:Exit->Act->World->Prop}
  (hg:o.guard=none) (m x v:Operand) (t:bO) (hop:o.op=Op.insert t m x v)
  (k e:bO) (K:Keyed P k) (ht:P.underlying t=some (.map k e)) (R:Value->Option (dA H×List MemPlace)) (b n:Nat) (D:dA H)
  (hm:a.eval m = .map (some b)) (hown:w.ownsMap P k R b n D) (hn:n<cD) (key val) (kl:Lit) (hx:a.eval x=key) (hv:a.eval v=val) (hkey:keyOf P k key=some kl)
  (d:dA H) (ps) (hval:R val=some (d,ps))
  (hK:∀ w',w'.ownsMap P k R b (n+1) (D.put kl d)->w.grownBy w' (some b)->wpList P ops Q rest (a.put o.dst undef) w') :
  wpList P ops Q (o :: rest) a w:=by
 refine wpList_plain hg λK' hK'=>?_;obtain⟨w',hrun,r1,r2⟩:=hown.update K ht hn hkey hval;unfold Oper.wp;simp[execOp,hop,hm,hx,hv,hrun,Result.andThen];exact hK' _ _ (hK w' r1 r2)
def putD(D:dA Unit)(p:Int×Int):dA Unit:=D.put (.int .i64 p.1) (.lit (.int .i64 p.2))
def TakesD:dA Unit:=[(2,1),(3,2),(4,1),(5,2),(6,2),(7,2),(8,2),(9,1),(10,2),(11,1),(13,1)].foldl putD (.map [])
def Zft(k:Int):Int:=if k=1\/k=12 then 0 else if k=2\/k=4\/k=9\/k=11\/k=13 then 1 else 2
theorem Zjr(k:Int)(h1:1<=k)(h2:k<=13):TakesD.atKey (.int .i64 k) (.lit (.int .i64 0)) = .lit (.int .i64 (Zft k)):=by
 have h:k=1\/k=2\/k=3\/k=4\/k=5\/k=6\/k=7\/k=8\/k=9\/k=10\/k=11\/k=12\/k=13:=by omega
 rcases h with rfl|rfl|rfl|rfl|rfl|rfl|rfl|rfl|rfl|rfl|rfl|rfl|rfl
 all_goals rfl
abbrev Mf(bm n:Nat)(D:dA Unit)(w:World):Prop:=w.ownsMap aB 3 (plainElem (H:=Unit) aB 3) bm n D
structure St(W:World)(bm:Nat)(v:Value)(L:List Int)(w:World):Prop where
 row:∃ g cap,v = F (some ⟨g,0,none⟩) L.length cap/\L.length<=cap/\cap<=cD
 own:w.ownsRow W.heap.size 3 1 v L.length (L.map (bC .i64))
 map:Mf bm 11 TakesD w
 bel:ZD W w
theorem Zlv{bm n:Nat}{D:dA Unit}{w w':World}(h:Mf bm n D w)(hb:ZD w w'):Mf bm n D w':=by
 obtain⟨es,clock,h1,r⟩:=h;exact⟨es,clock,(hb.block bm (aA h1)).trans h1,r⟩
theorem Zle{w w':World}{base:Nat}{e:bO}{size:Nat}{v}{n:Nat}{xs}(h:w.ownsRow base e size v n xs)(hb:ZD w w'):w'.ownsRow base e size v n xs:=by
 obtain⟨hl,h0|⟨g,cap,cur,hv,hg,hh,r⟩⟩:=h
 ·exact⟨hl,.inl h0⟩
 ·exact⟨hl,.inr ⟨g,cap,cur,hv,hg,(hb.block g (aA hh)).trans hh,r⟩⟩
theorem St.keep{W}{bm:Nat}{v L}{w w':World}(h:St W bm v L w)(hb:ZD w w'):St W bm v L w':=
 ⟨h.row,Zle h.own hb,Zlv h.map hb,h.bel.trans (hb.mono h.bel.size)⟩
theorem St.apart{W}{bm:Nat}{v:Value}{L w}(h:St W bm v L w):some bm≠v.ownBlock:=by
 obtain⟨es,clock,h1,_⟩:=h.map;obtain⟨_,h0|⟨g,cap,cur,hv,hg,hh,r⟩⟩:=h.own
 ·obtain⟨g,cap,hv,_⟩:=h.row;rw[hv] at h0;simp at h0
 ·rw[hv];intro e;simp only[Value.ownBlock,bE] at e;rw[e,hh] at h1;cases h1
theorem St.ge{W:World}{bm:Nat}{v:Value}{L w}(h:St W bm v L w):∀ k,v.ownBlock=some k->W.heap.size<=k:=by
 obtain⟨_,h0|⟨g,cap,cur,hv,hg,hh,r⟩⟩:=h.own
 ·intro k hk;rw[h0.1] at hk;cases hk
 ·intro k hk;rw[hv] at hk;simp only[Value.ownBlock,bE] at hk;omega
theorem St.app{W:World}{bm:Nat}{v v':Value}{L:List Int}{x:Int}{w w':World}(h:St W bm v L w)
  (ho:w'.ownsRow W.heap.size 3 1 v' (L.length+1) (L.map (bC .i64)++[E J x])) (hg:w.grownBy w' v.ownBlock) (hn:v' = F none 0 0↔v = F none 0 0/\1=0):St W bm v' (L++[x]) w' where
 row:=by
  obtain⟨_,h0|⟨g,cap,cur,hv,hg,hh,h1,h2,r⟩⟩:=ho
  ·exact absurd (hn.1 h0.1).2 (by decide)
  ·exact⟨g,cap,by rw[hv];simp,by simpa using h1,h2⟩
 own:=by simpa using ho
 map:=h.map.kept hg h.apart
 bel:=h.bel.grown hg h.bel.size h.ge
theorem St.cut{W}{bm:Nat}{a n cap}{M T:List Int}{w}(h:St W bm (F a n cap) (M++T) w):St W bm (F a M.length cap) M w where
 row:=by
  obtain⟨g,c,hv,h1,h2⟩:=h.row;simp only[cZ] at hv;obtain⟨rfl,_,rfl⟩:=hv;rw[bB] at h1;exact⟨g,cap,rfl,by omega,h2⟩
 own:=by
  obtain⟨hl,h0|⟨g,c,cur,hv,hg,hh,h1,h2,h3,h4⟩⟩:=h.own
  ·obtain⟨g,c,hv,_⟩:=h.row;rw[hv] at h0;simp at h0
  ·simp only[cZ] at hv;obtain⟨rfl,_,rfl⟩:=hv;rw[bB] at h1;refine⟨by simp,.inr ⟨g,cap,cur,rfl,hg,hh,by omega,h2,h3,?_⟩⟩;have e:=congrArg (List.take (M.length*1)) h4;rw[List.take_take,bB] at e;rw[show min (M.length*1) ((M.length+T.length)*1)=M.length*1 by omega] at e;rw[e,List.map_append,List.take_left' (by simp)]
 map:=h.map
 bel:=h.bel
theorem St.cell{W}{bm:Nat}{g n cap:Nat}{L:List Int}{w:World}(h:St W bm (F (some ⟨g,0,none⟩) n cap) L w)(i:Nat)(hi:i<L.length):w.cell? ⟨g,i,none⟩=some (E J (L.getD i 0)):=by
 obtain⟨hl,h0|⟨g',c,cur,hv,hg,hh,h1,h2,h3,h4⟩⟩:=h.own
 ·obtain⟨h5,_⟩:=h0;simp at h5
 ·simp only[cZ,bE,Addr.mk.injEq] at hv;obtain⟨⟨rfl,_⟩,_,rfl⟩:=hv;have e:=congrArg (λl:List Value=>l[i]?) h4;simp only[List.getElem?_take_of_lt (show i<L.length*1 by omega)] at e;simp only[World.cell?,hh];rw[Array.getElem?_toList] at e;simpa[hi] using e
theorem St.rowAt{W}{bm:Nat}{v}{L:List Int}{w}(h:St W bm v L w):∃ a cap,v = F a L.length cap/\RowAt w a L.length L/\(a=none->cap=0):=by
 obtain⟨g,cap,rfl,h1,h2⟩:=h.row;refine⟨_,cap,rfl,⟨rfl,Nat.le_trans h1 h2,λ_=>⟨g,0,rfl,λi hi=>?_⟩⟩,λh=>by cases h⟩;rw[Nat.zero_add];exact h.cell i hi
open Go.RowKit Go.Maps
theorem Tryz.info3:(Tryz.prog.info? 3).map (λi=>(i.zero,i.size,i.bytes))=some (some (E J 0),1,8):=by kernel_rfl
theorem Q9{w:World}{ops rest}{o:Oper}{a:Act}{Q:Exit->Act->World->Prop}(hgd:o.guard=none)(s x:Operand)
  (ho:o.op = .call { callee:=.builtin .append,args:=#[s,x],argTypes:=#[25,25] }) (base:Nat) (v:Value) (n:Nat) (xs) (hs:a.eval s=v) (hown:w.ownsRow base 3 1 v n xs)
  (az len cap) (Z:List Int) (hx:a.eval x = F az len cap) (hcap:az=none->cap=0) (hR:RowAt w az len Z) (hnz:n+len<=1000000) (hbase:base<=w.heap.size)
  (h:∀ v' w',w'.ownsRow base 3 1 v' (n+len) (xs++Z.map (bC .i64))->w.grownBy w' v.ownBlock->(v = F none 0 0\/v' ≠ F none 0 0)->wpList aB ops Q rest (a.put o.dst v') w') :
  wpList aB ops Q (o :: rest) a w:=by
 obtain⟨i0,hi,hz0,hz1,hz2⟩:=info_parts Tryz.info3;cases az with
 | none=>
  have h0:len=0:=by
   by_cases e:len=0
   ·exact e
   ·obtain⟨b,off,e',_⟩:=hR.2.2 (by omega);cases e'
  subst h0;have hc:=hcap rfl;subst hc;have hZ:Z=[]:=aJ.1 hR.1;subst hZ;refine wpList_append_own_none hgd s x 25 ho base 3 i0 1 underlying25 hi v n xs hs hown hx ?_;by_cases hv:v = F none 0 0
  ·exact h v w (by simpa using hown) (World.grownBy.refl _ _) (.inl hv)
  ·exact h v w (by simpa using hown) (World.grownBy.refl _ _) (.inr hv)
 | some ad=>
  refine dV w hgd s x 25 ho base 3 i0 (E J 0) 1 8 underlying25 hi hz0 hz1 hz2 rfl (by decide) v n xs hs hown ad len cap (Z.map (bC .i64)) hx (by simp[hR.1]) (λj u hj=>?_) (λu hu=>?_) (by unfold cD;omega) (by omega) hbase λv' w' h1 h2 h3=>h v' w' h1 h2 ?_
  ·have hj':j<Z.length:=by
    have:=(List.getElem?_eq_some_iff.1 hj).1;simpa using this
   obtain⟨b,off,e,hc⟩:=hR.2.2 (by rw[<-hR.1];omega);cases e;have hadd:(⟨b,off,none⟩:Addr).add j=⟨b,off+j,none⟩:=(by unfold Addr.add;split <;> simp_all);rw[hadd,hc j (by rw[<-hR.1];exact hj')];simpa[hj'] using hj
  ·simp only[List.mem_map] at hu;obtain⟨y,_,rfl⟩:=hu;rfl
  ·by_cases e:v' = F none 0 0
   ·exact .inl (h3.1 e).1
   ·exact .inr e
structure Pro(W:World)(bm:Nat)(v:Value)(L:List Int)(n:Nat)(D:dA Unit)(w:World):Prop where
 row:∃ g cap,v = F (some ⟨g,0,none⟩) L.length cap/\L.length<=cap/\cap<=cD
 own:w.ownsRow W.heap.size 3 1 v L.length (L.map (bC .i64))
 apart:v.ownBlock≠some bm
 new:W.heap.size<=bm
 map:Mf bm n D w
 bel:ZD W w
theorem Pro.start{W w0 w:World}{v0 v:Value}{L:List Int}(hb:ZD W w0)(hv0:∀ k,v0.ownBlock=some k->W.heap.size<=k)(ho:w.ownsRow W.heap.size 3 1 v L.length (L.map (bC .i64)))(hg:w0.grownBy w v0.ownBlock)(hn:v ≠ F none 0 0) :
  Pro W w.heap.size v L 0 (.map []) (w.alloc (.map #[] 0)) where
 row:=by
  obtain⟨_,h0|⟨g,cap,cur,hv,_,hh,h1,h2,r⟩⟩:=ho
  ·exact absurd h0.1 hn
  ·exact⟨g,cap,hv,h1,h2⟩
 own:=ho.alloc _
 apart:=by
  obtain⟨_,h0|⟨g,cap,cur,hv,_,hh,_⟩⟩:=ho
  ·exact absurd h0.1 hn
  ·have:=aA hh;rw[hv];intro e;simp only[Value.ownBlock,bE] at e;omega
 new:=(hb.grown hg hb.size hv0).size
 map:=World.ownsMap_made _ _ _ _
 bel:=(hb.grown hg hb.size hv0).alloc (hb.grown hg hb.size hv0).size _
theorem F9{w w1:World}{v1}{lens:Nat}{Z:List Int}(hb:ZD w (w.alloc (dW #[] 3)))(hz:Z.length=lens)(ho:w1.ownsRow w.heap.size 3 1 v1 (0+lens) ([]++Z.map (bC .i64)))
  (hg:(w.alloc (dW #[] 3)).grownBy w1 (Value.ownBlock (F (some ⟨w.heap.size,0,none⟩) 0 0))) (hn:(Value.slice (some ⟨w.heap.size,0,none⟩) 0 0) = F none 0 0\/v1 ≠ F none 0 0):Pro w w1.heap.size v1 Z 0 (.map []) (w1.alloc (.map #[] 0)):=by
 rw[List.nil_append,Nat.zero_add,<-hz] at ho;exact Pro.start hb (λk hk=>by cases hk;exact aE _) ho hg (hn.resolve_left (by simp))
theorem Pro.st{W}{bm:Nat}{v L w}(h:Pro W bm v L 11 TakesD w):St W bm v L w:=⟨h.row,h.own,h.map,h.bel⟩
theorem Q8(w){ops rest}{o:Oper}{a:Act}{Q:Exit->Act->World->Prop}
  (hg:o.guard=none) (m x v:Operand) (hop:o.op=Op.insert 86 m x v) (W) (bm:Nat) (u L) (n:Nat) (D:dA Unit)
  (hp:Pro W bm u L n D w) (hm:a.eval m = .map (some bm)) (hn:n<100) (k t:Int) (hx:a.eval x = .int .i64 k) (hv:a.eval v = .int .i64 t) (hk:(Lit.int .i64 k).wf=true) (ht:(Lit.int .i64 t).wf=true)
  (hK:∀ w',Pro W bm u L (n+1) (putD D (k,t)) w'->wpList aB ops Q rest (a.put o.dst undef) w') :
  wpList aB ops Q (o :: rest) a w:=by
 refine P4 w hg m x v 86 hop 3 3 Vx aW _ bm n D hm hp.map (by unfold cD;omega) _ _ _ hx hv (keyOf_int_mk aG hk) _ [] (plainElem_int aG ht) λw' h1 h2=>hK w' ?_;exact⟨hp.row,hp.own.kept h2 (.inr hp.apart),hp.apart,hp.new,h1,hp.bel.grown h2 hp.bel.size (λj hj=>by cases hj;exact hp.new)⟩
set_option maxRecDepth 100000 in
theorem Zab(az)(lens caps cap:Nat)(a)(Z:List Int)(h:Int)(w:World)(hR:RowAt w az lens Z)(hc:az=none->caps=0)(hZ:Yj Z=true) :
  Calls aB 151 #[F a 0 cap,F az lens caps,E J h] w λe w'=>∃ a' cap',e = dX (dY #[F a' Z.length cap',eA true])/\RowAt w' a' Z.length Z/\ZD w w'/\(a'=none->cap'=0):=by
 have hlen:lens<=16:=by rw[<-hR.1];exact (Tc hZ).1
 have HR:=Zb hR;have HC:=Zb hc;clear hR hc hZ;have HB0:=Zb ((Below.refl w.heap.size w).alloc (aE _) (dW #[] 3));have HR0:=Zb (HR.later HB0);have HO0:Hid ((w.alloc (dW #[] 3)).ownsRow w.heap.size 3 1 (F (some ⟨w.heap.size,0,none⟩) 0 0) 0 []):=⟨rfl,.inr ⟨w.heap.size,0,#[],rfl,aE _,aK _ _,aE _,by decide,rfl,rfl⟩⟩;have hmm:=@run_makeMap aB;go_enter func151,ntmps151
 go_wp2_with (first
  | (at_builtin;refine Q9 rfl _ _ rfl w.heap.size _ _ _ rfl HO0 az lens caps Z rfl HC HR0 (by omega) HB0.size ?_;intro v1 w1 ho1 hg1 hn1;have hst:=F9 HB0 HR.1 ho1 hg1 hn1;clear ho1 hg1 hn1)
  | (refine Q8 _ rfl _ _ _ rfl _ _ _ _ _ _ hst rfl (by omega) _ _ rfl rfl (by decide) (by decide) ?_;intro w2 hst2;clear hst;have hst:=hst2;clear hst2))
 have HST:=Zb (Pro.st hst);clear hst;obtain⟨a',cap',rfl,hra,hca⟩:=HST.rowAt;have HCA:=Zb hca;have HRA:=Zb hra;clear hra hca;refine aQ 1 ?_;rw[aL];go_wp2;go_ret2;exact⟨a',cap',rfl,Za HRA,HST.bel,Za HCA⟩
open Go.RowKit Go.Maps
theorem Zz{k c:Int}(h1:1<=k)(h2:k<=13)(hat:TakesD.atKey (.int .i64 k) (.lit (.int .i64 0)) = .lit (.int .i64 c)):c=Zft k:=by
 rw[Zjr k h1 h2] at hat;cases hat;rfl
theorem Zhz{k n:Int}(h:Xq (k,n)=0):(k=1\/k=2\/k=3\/k=4\/k=5\/k=6\/k=7\/k=8\/k=9\/k=10\/k=11\/k=12\/k=13)/\-1000000<=n/\n<=1000000:=by
 simp only[Xq] at h;split at h
 ·cases h
 ·split at h
  ·cases h
  ·rename_i h1 h2;simp only[not_or,Bool.not_eq_false] at h2;have:=(Yf n).1 h2.2;omega
theorem Xd{h:Int}{l:List (Int×Int)}{Z L}{k:Nat}{q:Int×Int}(hk:k<l.length)(hq:q=l[k])(hr:Xh h (l.take k) Z=some L):Xh h (l.take (k+1)) Z=Yi h q.1 q.2 L:=by
 rw[List.take_succ_eq_append_getElem hk,Uv,hr,<-hq];simp only[Option.bind,Xh];cases Yi h q.1 q.2 L <;> rfl
theorem Zq{h:Int}{l:List (Int×Int)}{Z L}{k:Nat}{q:Int×Int}(hk:k<l.length)(hq:q=l[k])(hr:Xh h (l.take k) Z=some L)(hs:Yi h q.1 q.2 L=none):Xh h l Z=none:=by
 rw[<-List.take_append_drop (k+1) l,Uv,Xd hk hq hr,hs];rfl
theorem Zqq(a d:Int):(a*d != 0)=(a != 0 && d != 0):=by
 by_cases h1:a=0
 ·simp[h1]
 ·by_cases h2:d=0
  ·simp[h2]
  ·have h3:a*d≠0:=Int.mul_ne_zero h1 h2;rw[bne_iff_ne.2 h3,bne_iff_ne.2 h1,bne_iff_ne.2 h2];rfl
theorem Zqr{a d:Int}(ha : -1000000<=a/\a<=1000000)(hd : -1000000<=d/\d<=1000000) : -1000000000000<=a*d/\a*d<=1000000000000:=by
 have h1:=Int.mul_nonneg (show 0<=1000000 - a by omega) (show 0<=1000000+d by omega);have h2:=Int.mul_nonneg (show 0<=1000000+a by omega) (show 0<=1000000 - d by omega);have h3:=Int.mul_nonneg (show 0<=1000000 - a by omega) (show 0<=1000000 - d by omega);have h4:=Int.mul_nonneg (show 0<=1000000+a by omega) (show 0<=1000000+d by omega);simp only[Int.sub_mul,Int.add_mul,Int.mul_sub,Int.mul_add] at h1 h2 h3 h4;omega
theorem Wu(w:World)(o:Obj):ZD w (w.alloc o):=(Below.refl _ _).alloc (aE _) _
theorem Ac(w0:World)(x y)(o:Obj)(ad:Nat)(had:ad=w0.heap.size):((w0.alloc (dW #[x,y] 3)).alloc o).cell? ⟨ad,1,none⟩=some y:=by
 subst had;rw[(Wu (w0.alloc (dW #[x,y] 3)) o).cell (p:=⟨w0.heap.size,1,none⟩) (by simp),World.cell?_alloc_at _ _ _ _ rfl];rfl
theorem Znb(w:World)(x)(t:bO)(j:Nat)(u)(h:[x][j]? = some u):(w.alloc (dW #[x] t)).cell? ((⟨w.heap.size,0,none⟩:Addr).add j)=some u:=by
 have hadd:(⟨w.heap.size,0,none⟩:Addr).add j=⟨w.heap.size,j,none⟩:=by unfold Addr.add;split <;> simp_all
 rw[hadd,World.cell?_alloc_at _ _ _ _ rfl];simpa using h
theorem St.lt{W}{bm g n cap:Nat}{L}{w:World}(h:St W bm (F (some ⟨g,0,none⟩) n cap) L w):g<w.heap.size:=by
 obtain⟨_,h0|⟨g',c,cur,hv,_,hh,_⟩⟩:=h.own
 ·exact absurd h0.1 (by simp)
 ·simp only[cZ,bE,Addr.mk.injEq] at hv;obtain⟨⟨rfl,_⟩,_⟩:=hv;exact aA hh
theorem St.drewN{W}{bm:Nat}{v L}{w:World}(h:St W bm v L w)(n:Nat):St W bm v L (w.drewN n):=
 ⟨h.row,h.own,h.map,⟨h.bel.os,h.bel.tape,h.bel.output,h.bel.size,h.bel.block⟩⟩
theorem Zv{w0:World}{x:Int}{ops rest}{o:Oper}{a:Act}{Q:Exit->Act->World->Prop}(hgd:o.guard=none)(s y:Operand)
  (ho:o.op = .call { callee:=.builtin .append,args:=#[s,y],argTypes:=#[25,25] }) (W) (bm:Nat) (v:Value) (L:List Int) (hs:a.eval s=v) (hL:L.length<=16)
  (hst:St W bm v L w0) (ad:Nat) (had:ad=w0.heap.size) (hx:a.eval y = F (some ⟨ad,0,none⟩) 1 1)
  (h:∀ v' w',St W bm v' (L++[x]) w'->(w0.alloc (dW #[E J x] 3)).grownBy w' v.ownBlock->wpList aB ops Q rest (a.put o.dst v') w') :
  wpList aB ops Q (o :: rest) a (w0.alloc (dW #[E J x] 3)):=by
 obtain⟨i0,hi,hz0,hz1,hz2⟩:=info_parts Tryz.info3;subst had;have hst1:=hst.keep (Wu w0 (dW #[E J x] 3));refine dV _ hgd s y 25 ho W.heap.size 3 i0 (E J 0) 1 8 underlying25 hi hz0 hz1 hz2 rfl (by decide) v L.length (L.map (bC .i64)) hs hst1.own ⟨w0.heap.size,0,none⟩ 1 1 [E J x] hx rfl (λj u hj=>Znb w0 _ 3 j u hj) (λu hu=>?_) (by unfold cD;omega) (by omega) hst1.bel.size λv' w' h1 h2 h3=>h v' w' (hst1.app h1 h2 h3) h2;simp only[List.mem_singleton] at hu;subst hu;rfl
set_option maxRecDepth 100000 in
theorem Zaa(b off len cap:Nat)(l:List (Int×Int))(az)(lens caps:Nat)(Z)(h:Int)(w:World)(h16:len<=16)(hck:Un l=0)(hz:l.length=len)
  (hc:∀ i,i<len->w.cell? ⟨b,off+i*2,none⟩=some (E J (l.getD i (0,0)).1)/\w.cell? ⟨b,off+i*2+1,none⟩=some (E J (l.getD i (0,0)).2)) (hl:b<w.heap.size)
  (hR:RowAt w az lens Z) (hcz:az=none->caps=0) (hZ:Yj Z=true) (hh:hOk h=true) :
  Calls aB 151 #[F (some ⟨b,off,none⟩) len cap,F az lens caps,E J h] w λe w'=>∃ a' cap',e = dX (dY #[.slice a' ((Xh h l Z).getD []).length cap',eA (Xh h l Z).isSome])/\RowAt w' a' ((Xh h l Z).getD []).length ((Xh h l Z).getD [])/\ZD w w'/\(a'=none->cap'=0):=by
 have hlen:lens<=16:=by rw[<-hR.1];exact (Tc hZ).1
 have HH:=Zb hh;have HC:=Zb hc;have HZ:=Zb hz;have HK:=Zb (Tu hck);have HSZ:=Zb hZ;have HR:=Zb hR;have HCZ:=Zb hcz;clear hR hc hZ hh hz hck hcz;have HB0:=Zb ((Below.refl w.heap.size w).alloc (aE _) (dW #[] 3));have HR0:=Zb (HR.later HB0);have HO0:Hid ((w.alloc (dW #[] 3)).ownsRow w.heap.size 3 1 (F (some ⟨w.heap.size,0,none⟩) 0 0) 0 []):=⟨rfl,.inr ⟨w.heap.size,0,#[],rfl,aE _,aK _ _,aE _,by decide,rfl,rfl⟩⟩;have hmm:=@run_makeMap aB;go_enter func151,ntmps151
 go_wp2_with (first
  | (at_builtin;refine Q9 rfl _ _ rfl w.heap.size _ _ _ rfl HO0 az lens caps Z rfl HCZ HR0 (by omega) HB0.size ?_;intro v1 w1 ho1 hg1 hn1;have hst:=F9 HB0 HR.1 ho1 hg1 hn1;clear ho1 hg1 hn1)
  | (refine Q8 _ rfl _ _ _ rfl _ _ _ _ _ _ hst rfl (by omega) _ _ rfl rfl (by decide) (by decide) ?_;intro w2 hst2;clear hst;have hst:=hst2;clear hst2))
 have HST0:=Zb (Pro.st hst);obtain⟨bm,hbm⟩:=ZG (w1.heap.size);rw[<-hbm] at HST0 ⊢;clear hst hmm hbm
 go_loopw [1,26] (λv i wr=>∃ (k:Nat) (L:List Int),k<=len/\i = E J k/\Xh h (l.take k) Z=some L/\St w bm v L wr) (λ_ i _=>len - (aV i).toNat)
 case atStart=>exact⟨0,Z,aP _,rfl,rfl,Za HST0⟩
 case round=>
  obtain⟨k,L,hk,rfl,hrl,hst⟩:=hrel;obtain⟨hL1,hL2⟩:=Tc (L5 HSZ hrl);have HL2:=Zb hL2;have HRL:=Zb hrl;have HST:=Zb hst;obtain⟨g,cp,rfl,hc1,hc2⟩:=hst.row;unfold cD at hc2;clear hL2 hrl;by_cases hlt:k<len
  ·obtain⟨c1,c2⟩:=HC k hlt;rw[<-hst.bel.cell (p:=⟨b,off+k*2,none⟩) hl] at c1;rw[<-hst.bel.cell (p:=⟨b,off+k*2+1,none⟩) hl] at c2;obtain⟨q,hq⟩:=ZG (l.getD k (0,0));rw[<-hq] at c1 c2;have hlk:k<l.length:=(by rw[Za HZ];exact hlt);have hq':q=l[k]:=(by rw[hq];simp[hlk]);obtain⟨hkind,hn1,hn2⟩:=Zhz (k:=q.1) (n:=q.2) (by rw[hq'];exact HK k hlk);have HQ:=Zb hq';clear hq hq' hst;obtain⟨q1,q2⟩:=q;simp only at c1 c2 hkind hn1 hn2;have STA:=Zb (HST.keep (Wu wr (dW #[E J q1,E J q2] 122)));have HF:=Zb ((Yf q2).2 ⟨hn1,hn2⟩)
   rcases hkind with rfl|rfl|rfl|rfl|rfl|rfl|rfl|rfl|rfl|rfl|rfl|rfl|rfl
   ·have STP:=Zb (STA.keep (Wu _ (dW #[E J q2] 3)))
    go_wp2_with (first|(at_lookup;refine aU _ rfl _ _ 86 rfl 3 3 .i64 Vx aW aG (Xt _) bm 11 _ rfl STA.map _ _ rfl (keyOf_int_mk aG (by decide)) ?_;intro c hat _;obtain rfl:c=0:=(Zz (by decide) (by decide) hat).trans (by decide);clear hat)|go_in)
    have SS:=Zb (Zgv h q2 L);by_cases hm:(L).length=16
    ·have gm:(16:Int)<=((L).length:Int):=(by omega);refine aQ 1 ?_;rw[aL];go_wp2;go_ret2;rw[Zq hlk (Za HQ) (Za HRL) ((Za SS).trans (Xn hm))];exact⟨none,0,rfl,RowAt.nil _ _,STP.bel,λ_=>rfl⟩
    ·have gm:¬(16:Int)<=((L).length:Int):=(by omega);have gm2:(L).length<16:=(by omega);clear hm;cases hx:fit q2 with
     | false=>
      have HX:=Zb hx;clear hx;refine aQ 1 ?_;rw[aL]
      go_wp2_with (go_at_call 178;refine (Yp q2 false _ HX.symm).mono ?_;rintro e w' ⟨rfl,rfl⟩)
      go_ret2;rw[Zq hlk (Za HQ) (Za HRL) ((Za SS).trans (Xu (Za HX)))];exact⟨none,0,rfl,RowAt.nil _ _,STP.bel,λ_=>rfl⟩
     | true=>
      have HX:=Zb hx;clear hx;refine aQ 2 ?_;rw[aL]
      go_wp2_with (first|(go_at_call 178;refine (Yp q2 true _ HX.symm).mono ?_;rintro e w' ⟨rfl,rfl⟩)|(at_builtin;refine Zv (x:=q2) rfl _ _ rfl w bm _ (L) rfl (by omega) STP _ (by simp) rfl ?_;intro v3 w3 st3 _;have ST3:=Zb st3;clear st3))
      rw[aL];go_wp2;go_roundw
      case rel=>exact⟨k+1,(L)++[q2],by omega,by go_num,(Xd hlk HQ HRL).trans (SS.trans (Wf gm2 HX)),Za ST3⟩
      case measure=>simp[aV];omega
   ·by_cases hs:L.length=0
    ·have e:L=[]:=aJ.1 hs;rw[hs]
     go_wp2_with (first|(at_lookup;refine aU _ rfl _ _ 86 rfl 3 3 .i64 Vx aW aG (Xt _) bm 11 _ rfl STA.map _ _ rfl (keyOf_int_mk aG (by decide)) ?_;intro c hat _;obtain rfl:c=1:=(Zz (by decide) (by decide) hat).trans (by decide);clear hat)|go_in)
     go_ret2;rw[Zq hlk (Za HQ) (Za HRL) (by rw[e];exact Wx h 2 q2 (by decide) (by decide))];exact⟨none,0,rfl,RowAt.nil _ _,STA.bel,λ_=>rfl⟩
    ·obtain⟨M,a,rfl⟩:=Wg (L:=L) (by omega);have ca:(wr.alloc (dW #[E J 2,E J q2] 122)).cell? ⟨g,M.length,none⟩=some (E J a):=(by have:=STA.cell M.length (by simp);simpa using this);have STM:=Zb STA.cut;have fa:=(Yf a).1 (HL2 a (by simp));have hlen1:(M++[a]).length=M.length+1:=(by simp);rw[hlen1] at hL1 hc1 ⊢;clear hs hlen1;have STP:=Zb (STM.keep (Wu _ (dW #[E J a,E J a] 3)));have HX:=Zb (HL2 a (by simp));have HY:=Zb (HL2 a (by simp));have hgl:g<wr.heap.size:=HST.lt;have CY:Hid (∀ (z:Int) (w3:World),(((wr.alloc (dW #[E J 2,E J q2] 122)).alloc (dW #[E J a,E J a] 3)).alloc (dW #[E J z] 3)).grownBy w3 (some g)->w3.cell? ⟨wr.heap.size+1,1,none⟩=some (E J a)):=λz w3 hg=>hg.cell (a:=⟨wr.heap.size+1,1,none⟩) (Ac _ _ _ _ _ (by simp)) (by simp;omega);have gm:¬(16:Int)<=(M.length:Int):=(by omega);have gm2:M.length<16:=by omega
     go_wp2_with (first|(at_lookup;refine aU _ rfl _ _ 86 rfl 3 3 .i64 Vx aW aG (Xt _) bm 11 _ rfl STA.map _ _ rfl (keyOf_int_mk aG (by decide)) ?_;intro c hat _;obtain rfl:c=1:=(Zz (by decide) (by decide) hat).trans (by decide);clear hat)|go_in)
     refine aQ 3 ?_;rw[aL]
     go_wp2_with (first|(go_at_call 178;refine (Yp a true _ HX.symm).mono ?_;rintro e w' ⟨rfl,rfl⟩)|(at_builtin;refine Zv (x:=a) rfl _ _ rfl w bm _ M rfl (by omega) STP _ (by simp) rfl ?_;intro v3 w3 st3 hg3;have cy:=CY _ _ hg3;have ST3:=Zb st3;clear st3 hg3;obtain⟨g3,cp3,rfl,_,_⟩:=ST3.row))
     have SS:=Zb (Zka h q2 M a);have hl2:(M++[a]).length=M.length+1:=(by simp);have ST4:St w bm (F (some ⟨g3,0,none⟩) (M.length+1) cp3) (M++[a]) w3:=(by rw[<-hl2];exact Za ST3);have HST4:=Zb ST4;clear hl2 ST4 ST3;by_cases hm:M.length=15
     ·have gm3:(16:Int)<=(M.length:Int)+1:=(by omega);rw[aL];go_wp2;go_ret2;rw[Zq hlk (Za HQ) (Za HRL) ((Za SS).trans ((Ge gm2 (Za HX)).trans (Xn (by simp;omega))))];exact⟨none,0,rfl,RowAt.nil _ _,HST4.bel,λ_=>rfl⟩
     ·have gm3:¬(16:Int)<=(M.length:Int)+1:=(by omega);rw[aL]
      go_wp2_with (first|(go_at_call 178;refine (Yp a true _ HY.symm).mono ?_;rintro e w' ⟨rfl,rfl⟩)|(at_builtin;refine Zv (x:=a) rfl _ _ rfl w bm _ (M++[a]) rfl (by simp;omega) HST4 _ (by first|rfl|simp) rfl ?_;intro v5 w5 st5 _;have ST5:=Zb st5;clear st5))
      rw[aL];go_wp2;go_roundw
      case rel=>exact⟨k+1,(M++[a])++[a],by omega,by go_num,(Xd hlk HQ HRL).trans (SS.trans ((Ge gm2 HX).trans (Wf (by simp;omega) HY))),Za ST5⟩
      case measure=>simp[aV];omega
   ·by_cases hs:L.length<2
    ·have gs:(L.length:Int)<2:=by omega
     have hno:Yi h 3 q2 L=none:=by
      by_cases h0:L.length=0
      ·rw[aJ.1 h0];exact Wx h 3 q2 (by decide) (by decide)
      ·obtain⟨M,a,rfl⟩:=Wg (L:=L) (by omega);have e:M=[]:=aJ.1 (by simp at hs;omega);subst e;exact Ju h 3 q2 a (by decide)
     have HNO:=Zb hno;clear hno
     go_wp2_with (first|(at_lookup;refine aU _ rfl _ _ 86 rfl 3 3 .i64 Vx aW aG (Xt _) bm 11 _ rfl STA.map _ _ rfl (keyOf_int_mk aG (by decide)) ?_;intro c hat _;obtain rfl:c=2:=(Zz (by decide) (by decide) hat).trans (by decide);clear hat)|go_in)
     go_ret2;rw[Zq hlk (Za HQ) (Za HRL) (Za HNO)];exact⟨none,0,rfl,RowAt.nil _ _,STA.bel,λ_=>rfl⟩
    ·obtain⟨M,a,d,rfl⟩:=J1 (L:=L) (by omega);have ca:(wr.alloc (dW #[E J 3,E J q2] 122)).cell? ⟨g,M.length,none⟩=some (E J a):=(by have:=STA.cell M.length (by simp);simpa using this);have cd:(wr.alloc (dW #[E J 3,E J q2] 122)).cell? ⟨g,M.length+1,none⟩=some (E J d):=(by have:=STA.cell (M.length+1) (by simp);simpa using this);have STM:=Zb STA.cut;have fa:=(Yf a).1 (HL2 a (by simp));have fd:=(Yf d).1 (HL2 d (by simp));have hlen1:(M++[a,d]).length=M.length+2:=(by simp);rw[hlen1] at hL1 hc1 ⊢;clear hs hlen1;have STP:=Zb (λn:Nat=>(STM.drewN n).keep (Wu _ (dW #[E J d,E J a] 3)));have HX:=Zb (HL2 d (by simp));have HY:=Zb (HL2 a (by simp));have hgl:g<wr.heap.size:=HST.lt;have CY:Hid (∀ (n:Nat) (z:Int) (w3:World),((((wr.alloc (dW #[E J 3,E J q2] 122)).drewN n).alloc (dW #[E J d,E J a] 3)).alloc (dW #[E J z] 3)).grownBy w3 (some g)->w3.cell? ⟨wr.heap.size+1,1,none⟩=some (E J a)):=λn z w3 hg=>hg.cell (a:=⟨wr.heap.size+1,1,none⟩) (Ac _ _ _ _ _ (by simp)) (by simp;omega);have gm:¬(16:Int)<=(M.length:Int):=(by omega);have gm2:M.length<16:=by omega
     go_wp2_with (first|(at_lookup;refine aU _ rfl _ _ 86 rfl 3 3 .i64 Vx aW aG (Xt _) bm 11 _ rfl STA.map _ _ rfl (keyOf_int_mk aG (by decide)) ?_;intro c hat _;obtain rfl:c=2:=(Zz (by decide) (by decide) hat).trans (by decide);clear hat)|go_in)
     go_quiet (fail)
     go_wp2;refine aQ 3 ?_;rw[aL]
     go_wp2_with (first|(go_at_call 178;refine (Yp d true _ HX.symm).mono ?_;rintro e w' ⟨rfl,rfl⟩)|(at_builtin;refine Zv (x:=d) rfl _ _ rfl w bm _ M rfl (by omega) (STP _) _ (by simp) rfl ?_;intro v3 w3 st3 hg3;have cy:=CY _ _ _ hg3;have ST3:=Zb st3;clear st3 hg3;obtain⟨g3,cp3,rfl,_,_⟩:=ST3.row))
     have SS:=Zb (Zgt h q2 M a d);have hl2:(M++[d]).length=M.length+1:=(by simp);have ST4:St w bm (F (some ⟨g3,0,none⟩) (M.length+1) cp3) (M++[d]) w3:=(by rw[<-hl2];exact Za ST3);have HST4:=Zb ST4;clear hl2 ST4 ST3;by_cases hm:M.length=15
     ·have gm3:(16:Int)<=(M.length:Int)+1:=(by omega);rw[aL];go_wp2;go_ret2;rw[Zq hlk (Za HQ) (Za HRL) ((Za SS).trans ((Ge gm2 (Za HX)).trans (Xn (by simp;omega))))];exact⟨none,0,rfl,RowAt.nil _ _,HST4.bel,λ_=>rfl⟩
     ·have gm3:¬(16:Int)<=(M.length:Int)+1:=(by omega);rw[aL]
      go_wp2_with (first|(go_at_call 178;refine (Yp a true _ HY.symm).mono ?_;rintro e w' ⟨rfl,rfl⟩)|(at_builtin;refine Zv (x:=a) rfl _ _ rfl w bm _ (M++[d]) rfl (by simp;omega) HST4 _ (by first|rfl|simp) rfl ?_;intro v5 w5 st5 _;have ST5:=Zb st5;clear st5))
      rw[aL];go_wp2;go_roundw
      case rel=>exact⟨k+1,(M++[d])++[a],by omega,by go_num,(Xd hlk HQ HRL).trans (SS.trans ((Ge gm2 HX).trans (Wf (by simp;omega) HY))),Za ST5⟩
      case measure=>simp[aV];omega
   ·by_cases hs:L.length=0
    ·have e:L=[]:=aJ.1 hs;rw[hs]
     go_wp2_with (first|(at_lookup;refine aU _ rfl _ _ 86 rfl 3 3 .i64 Vx aW aG (Xt _) bm 11 _ rfl STA.map _ _ rfl (keyOf_int_mk aG (by decide)) ?_;intro c hat _;obtain rfl:c=1:=(Zz (by decide) (by decide) hat).trans (by decide);clear hat)|go_in)
     go_ret2;rw[Zq hlk (Za HQ) (Za HRL) (by rw[e];exact Wx h 4 q2 (by decide) (by decide))];exact⟨none,0,rfl,RowAt.nil _ _,STA.bel,λ_=>rfl⟩
    ·obtain⟨M,a,rfl⟩:=Wg (L:=L) (by omega);have ca:(wr.alloc (dW #[E J 4,E J q2] 122)).cell? ⟨g,M.length,none⟩=some (E J a):=(by have:=STA.cell M.length (by simp);simpa using this);have STM:=Zb STA.cut;have fa:=(Yf a).1 (HL2 a (by simp));have hlen1:(M++[a]).length=M.length+1:=(by simp);rw[hlen1] at hL1 hc1 ⊢;clear hs hlen1
     go_wp2_with (first|(at_lookup;refine aU _ rfl _ _ 86 rfl 3 3 .i64 Vx aW aG (Xt _) bm 11 _ rfl STA.map _ _ rfl (keyOf_int_mk aG (by decide)) ?_;intro c hat _;obtain rfl:c=1:=(Zz (by decide) (by decide) hat).trans (by decide);clear hat)|go_in)
     refine aQ 1 ?_;rw[aL];go_wp2;go_roundw
     case rel=>exact⟨k+1,M,by omega,by go_num,(Xd hlk HQ HRL).trans (Zgy h q2 M a),Za STM⟩
     case measure=>simp[aV];omega
   ·by_cases hs:L.length<2
    ·have gs:(L.length:Int)<2:=by omega
     have hno:Yi h 5 q2 L=none:=by
      by_cases h0:L.length=0
      ·rw[aJ.1 h0];exact Wx h 5 q2 (by decide) (by decide)
      ·obtain⟨M,a,rfl⟩:=Wg (L:=L) (by omega);have e:M=[]:=aJ.1 (by simp at hs;omega);subst e;exact Ju h 5 q2 a (by decide)
     have HNO:=Zb hno;clear hno
     go_wp2_with (first|(at_lookup;refine aU _ rfl _ _ 86 rfl 3 3 .i64 Vx aW aG (Xt _) bm 11 _ rfl STA.map _ _ rfl (keyOf_int_mk aG (by decide)) ?_;intro c hat _;obtain rfl:c=2:=(Zz (by decide) (by decide) hat).trans (by decide);clear hat)|go_in)
     go_ret2;rw[Zq hlk (Za HQ) (Za HRL) (Za HNO)];exact⟨none,0,rfl,RowAt.nil _ _,STA.bel,λ_=>rfl⟩
    ·obtain⟨M,a,d,rfl⟩:=J1 (L:=L) (by omega);have ca:(wr.alloc (dW #[E J 5,E J q2] 122)).cell? ⟨g,M.length,none⟩=some (E J a):=(by have:=STA.cell M.length (by simp);simpa using this);have cd:(wr.alloc (dW #[E J 5,E J q2] 122)).cell? ⟨g,M.length+1,none⟩=some (E J d):=(by have:=STA.cell (M.length+1) (by simp);simpa using this);have STM:=Zb STA.cut;have fa:=(Yf a).1 (HL2 a (by simp));have fd:=(Yf d).1 (HL2 d (by simp));have hlen1:(M++[a,d]).length=M.length+2:=(by simp);rw[hlen1] at hL1 hc1 ⊢;clear hs hlen1;have STP:=Zb (λn:Nat=>(STM.drewN n).keep (Wu _ (dW #[E J (a+d)] 3)))
     go_wp2_with (first|(at_lookup;refine aU _ rfl _ _ 86 rfl 3 3 .i64 Vx aW aG (Xt _) bm 11 _ rfl STA.map _ _ rfl (keyOf_int_mk aG (by decide)) ?_;intro c hat _;obtain rfl:c=2:=(Zz (by decide) (by decide) hat).trans (by decide);clear hat)|go_in)
     go_quiet (fail)
     go_wp2_with (first|(go_at_call 177;refine (Hp _ _).mono ?_;rintro e w' ⟨rfl,rfl⟩)|go_in)
     have SS:=Zb (Zkc h q2 M a d);by_cases hm:(M).length=16
     ·have gm:(16:Int)<=((M).length:Int):=(by omega);refine aQ 1 ?_;rw[aL];go_wp2;go_ret2;rw[Zq hlk (Za HQ) (Za HRL) ((Za SS).trans (Xn hm))];exact⟨none,0,rfl,RowAt.nil _ _,(STP _).bel,λ_=>rfl⟩
     ·have gm:¬(16:Int)<=((M).length:Int):=(by omega);have gm2:(M).length<16:=(by omega);clear hm;cases hx:fit (a+d) with
      | false=>
       have HX:=Zb hx;clear hx;refine aQ 1 ?_;rw[aL]
       go_wp2_with (go_at_call 178;refine (Yp (a+d) false _ HX.symm).mono ?_;rintro e w' ⟨rfl,rfl⟩)
       go_ret2;rw[Zq hlk (Za HQ) (Za HRL) ((Za SS).trans (Xu (Za HX)))];exact⟨none,0,rfl,RowAt.nil _ _,(STP _).bel,λ_=>rfl⟩
      | true=>
       have HX:=Zb hx;clear hx;refine aQ 2 ?_;rw[aL]
       go_wp2_with (first|(go_at_call 178;refine (Yp (a+d) true _ HX.symm).mono ?_;rintro e w' ⟨rfl,rfl⟩)|(at_builtin;refine Zv (x:=(a+d)) rfl _ _ rfl w bm _ (M) rfl (by omega) (STP _) _ (by simp) rfl ?_;intro v3 w3 st3 _;have ST3:=Zb st3;clear st3))
       rw[aL];go_wp2;go_roundw
       case rel=>exact⟨k+1,(M)++[(a+d)],by omega,by go_num,(Xd hlk HQ HRL).trans (SS.trans (Wf gm2 HX)),Za ST3⟩
       case measure=>simp[aV];omega
   ·by_cases hs:L.length<2
    ·have gs:(L.length:Int)<2:=by omega
     have hno:Yi h 6 q2 L=none:=by
      by_cases h0:L.length=0
      ·rw[aJ.1 h0];exact Wx h 6 q2 (by decide) (by decide)
      ·obtain⟨M,a,rfl⟩:=Wg (L:=L) (by omega);have e:M=[]:=aJ.1 (by simp at hs;omega);subst e;exact Ju h 6 q2 a (by decide)
     have HNO:=Zb hno;clear hno
     go_wp2_with (first|(at_lookup;refine aU _ rfl _ _ 86 rfl 3 3 .i64 Vx aW aG (Xt _) bm 11 _ rfl STA.map _ _ rfl (keyOf_int_mk aG (by decide)) ?_;intro c hat _;obtain rfl:c=2:=(Zz (by decide) (by decide) hat).trans (by decide);clear hat)|go_in)
     go_ret2;rw[Zq hlk (Za HQ) (Za HRL) (Za HNO)];exact⟨none,0,rfl,RowAt.nil _ _,STA.bel,λ_=>rfl⟩
    ·obtain⟨M,a,d,rfl⟩:=J1 (L:=L) (by omega);have ca:(wr.alloc (dW #[E J 6,E J q2] 122)).cell? ⟨g,M.length,none⟩=some (E J a):=(by have:=STA.cell M.length (by simp);simpa using this);have cd:(wr.alloc (dW #[E J 6,E J q2] 122)).cell? ⟨g,M.length+1,none⟩=some (E J d):=(by have:=STA.cell (M.length+1) (by simp);simpa using this);have STM:=Zb STA.cut;have fa:=(Yf a).1 (HL2 a (by simp));have fd:=(Yf d).1 (HL2 d (by simp));have hlen1:(M++[a,d]).length=M.length+2:=(by simp);rw[hlen1] at hL1 hc1 ⊢;clear hs hlen1;have STP:=Zb (λn:Nat=>(STM.drewN n).keep (Wu _ (dW #[E J (a - d)] 3)))
     go_wp2_with (first|(at_lookup;refine aU _ rfl _ _ 86 rfl 3 3 .i64 Vx aW aG (Xt _) bm 11 _ rfl STA.map _ _ rfl (keyOf_int_mk aG (by decide)) ?_;intro c hat _;obtain rfl:c=2:=(Zz (by decide) (by decide) hat).trans (by decide);clear hat)|go_in)
     go_quiet (fail)
     go_wp2_with (first|(go_at_call 177;refine (Hp _ _).mono ?_;rintro e w' ⟨rfl,rfl⟩)|go_in)
     have SS:=Zb (Zjx h q2 M a d);by_cases hm:(M).length=16
     ·have gm:(16:Int)<=((M).length:Int):=(by omega);refine aQ 1 ?_;rw[aL];go_wp2;go_ret2;rw[Zq hlk (Za HQ) (Za HRL) ((Za SS).trans (Xn hm))];exact⟨none,0,rfl,RowAt.nil _ _,(STP _).bel,λ_=>rfl⟩
     ·have gm:¬(16:Int)<=((M).length:Int):=(by omega);have gm2:(M).length<16:=(by omega);clear hm;cases hx:fit (a - d) with
      | false=>
       have HX:=Zb hx;clear hx;refine aQ 1 ?_;rw[aL]
       go_wp2_with (go_at_call 178;refine (Yp (a - d) false _ HX.symm).mono ?_;rintro e w' ⟨rfl,rfl⟩)
       go_ret2;rw[Zq hlk (Za HQ) (Za HRL) ((Za SS).trans (Xu (Za HX)))];exact⟨none,0,rfl,RowAt.nil _ _,(STP _).bel,λ_=>rfl⟩
      | true=>
       have HX:=Zb hx;clear hx;refine aQ 2 ?_;rw[aL]
       go_wp2_with (first|(go_at_call 178;refine (Yp (a - d) true _ HX.symm).mono ?_;rintro e w' ⟨rfl,rfl⟩)|(at_builtin;refine Zv (x:=(a - d)) rfl _ _ rfl w bm _ (M) rfl (by omega) (STP _) _ (by simp) rfl ?_;intro v3 w3 st3 _;have ST3:=Zb st3;clear st3))
       rw[aL];go_wp2;go_roundw
       case rel=>exact⟨k+1,(M)++[(a - d)],by omega,by go_num,(Xd hlk HQ HRL).trans (SS.trans (Wf gm2 HX)),Za ST3⟩
       case measure=>simp[aV];omega
   ·by_cases hs:L.length<2
    ·have gs:(L.length:Int)<2:=by omega
     have hno:Yi h 7 q2 L=none:=by
      by_cases h0:L.length=0
      ·rw[aJ.1 h0];exact Wx h 7 q2 (by decide) (by decide)
      ·obtain⟨M,a,rfl⟩:=Wg (L:=L) (by omega);have e:M=[]:=aJ.1 (by simp at hs;omega);subst e;exact Ju h 7 q2 a (by decide)
     have HNO:=Zb hno;clear hno
     go_wp2_with (first|(at_lookup;refine aU _ rfl _ _ 86 rfl 3 3 .i64 Vx aW aG (Xt _) bm 11 _ rfl STA.map _ _ rfl (keyOf_int_mk aG (by decide)) ?_;intro c hat _;obtain rfl:c=2:=(Zz (by decide) (by decide) hat).trans (by decide);clear hat)|go_in)
     go_ret2;rw[Zq hlk (Za HQ) (Za HRL) (Za HNO)];exact⟨none,0,rfl,RowAt.nil _ _,STA.bel,λ_=>rfl⟩
    ·obtain⟨M,a,d,rfl⟩:=J1 (L:=L) (by omega);have ca:(wr.alloc (dW #[E J 7,E J q2] 122)).cell? ⟨g,M.length,none⟩=some (E J a):=(by have:=STA.cell M.length (by simp);simpa using this);have cd:(wr.alloc (dW #[E J 7,E J q2] 122)).cell? ⟨g,M.length+1,none⟩=some (E J d):=(by have:=STA.cell (M.length+1) (by simp);simpa using this);have STM:=Zb STA.cut;have fa:=(Yf a).1 (HL2 a (by simp));have fd:=(Yf d).1 (HL2 d (by simp));have hlen1:(M++[a,d]).length=M.length+2:=(by simp);rw[hlen1] at hL1 hc1 ⊢;clear hs hlen1;have STP:=Zb (λn:Nat=>(STM.drewN n).keep (Wu _ (dW #[E J (b01 (a == d))] 3)))
     go_wp2_with (first|(at_lookup;refine aU _ rfl _ _ 86 rfl 3 3 .i64 Vx aW aG (Xt _) bm 11 _ rfl STA.map _ _ rfl (keyOf_int_mk aG (by decide)) ?_;intro c hat _;obtain rfl:c=2:=(Zz (by decide) (by decide) hat).trans (by decide);clear hat)|go_in)
     go_quiet (fail)
     go_wp2_with (first|(go_at_call 177;refine (Hp _ _).mono ?_;rintro e w' ⟨rfl,rfl⟩)|go_in)
     have SS:=Zb (Zgu h q2 M a d);by_cases hm:(M).length=16
     ·have gm:(16:Int)<=((M).length:Int):=(by omega);refine aQ 1 ?_;rw[aL];go_wp2;go_ret2;rw[Zq hlk (Za HQ) (Za HRL) ((Za SS).trans (Xn hm))];exact⟨none,0,rfl,RowAt.nil _ _,(STP _).bel,λ_=>rfl⟩
     ·have gm:¬(16:Int)<=((M).length:Int):=(by omega);have gm2:(M).length<16:=(by omega);clear hm;cases hx:fit (b01 (a == d)) with
      | false=>
       have HX:=Zb hx;clear hx;refine aQ 1 ?_;rw[aL]
       go_wp2_with (go_at_call 178;refine (Yp (b01 (a == d)) false _ HX.symm).mono ?_;rintro e w' ⟨rfl,rfl⟩)
       go_ret2;rw[Zq hlk (Za HQ) (Za HRL) ((Za SS).trans (Xu (Za HX)))];exact⟨none,0,rfl,RowAt.nil _ _,(STP _).bel,λ_=>rfl⟩
      | true=>
       have HX:=Zb hx;clear hx;refine aQ 2 ?_;rw[aL]
       go_wp2_with (first|(go_at_call 178;refine (Yp (b01 (a == d)) true _ HX.symm).mono ?_;rintro e w' ⟨rfl,rfl⟩)|(at_builtin;refine Zv (x:=(b01 (a == d))) rfl _ _ rfl w bm _ (M) rfl (by omega) (STP _) _ (by simp) rfl ?_;intro v3 w3 st3 _;have ST3:=Zb st3;clear st3))
       rw[aL];go_wp2;go_roundw
       case rel=>exact⟨k+1,(M)++[(b01 (a == d))],by omega,by go_num,(Xd hlk HQ HRL).trans (SS.trans (Wf gm2 HX)),Za ST3⟩
       case measure=>simp[aV];omega
   ·by_cases hs:L.length<2
    ·have gs:(L.length:Int)<2:=by omega
     have hno:Yi h 8 q2 L=none:=by
      by_cases h0:L.length=0
      ·rw[aJ.1 h0];exact Wx h 8 q2 (by decide) (by decide)
      ·obtain⟨M,a,rfl⟩:=Wg (L:=L) (by omega);have e:M=[]:=aJ.1 (by simp at hs;omega);subst e;exact Ju h 8 q2 a (by decide)
     have HNO:=Zb hno;clear hno
     go_wp2_with (first|(at_lookup;refine aU _ rfl _ _ 86 rfl 3 3 .i64 Vx aW aG (Xt _) bm 11 _ rfl STA.map _ _ rfl (keyOf_int_mk aG (by decide)) ?_;intro c hat _;obtain rfl:c=2:=(Zz (by decide) (by decide) hat).trans (by decide);clear hat)|go_in)
     go_ret2;rw[Zq hlk (Za HQ) (Za HRL) (Za HNO)];exact⟨none,0,rfl,RowAt.nil _ _,STA.bel,λ_=>rfl⟩
    ·obtain⟨M,a,d,rfl⟩:=J1 (L:=L) (by omega);have ca:(wr.alloc (dW #[E J 8,E J q2] 122)).cell? ⟨g,M.length,none⟩=some (E J a):=(by have:=STA.cell M.length (by simp);simpa using this);have cd:(wr.alloc (dW #[E J 8,E J q2] 122)).cell? ⟨g,M.length+1,none⟩=some (E J d):=(by have:=STA.cell (M.length+1) (by simp);simpa using this);have STM:=Zb STA.cut;have fa:=(Yf a).1 (HL2 a (by simp));have fd:=(Yf d).1 (HL2 d (by simp));have hlen1:(M++[a,d]).length=M.length+2:=(by simp);rw[hlen1] at hL1 hc1 ⊢;clear hs hlen1;have STP:=Zb (λn:Nat=>(STM.drewN n).keep (Wu _ (dW #[E J (b01 (decide (a<d)))] 3)))
     go_wp2_with (first|(at_lookup;refine aU _ rfl _ _ 86 rfl 3 3 .i64 Vx aW aG (Xt _) bm 11 _ rfl STA.map _ _ rfl (keyOf_int_mk aG (by decide)) ?_;intro c hat _;obtain rfl:c=2:=(Zz (by decide) (by decide) hat).trans (by decide);clear hat)|go_in)
     go_quiet (fail)
     go_wp2_with (first|(go_at_call 177;refine (Hp _ _).mono ?_;rintro e w' ⟨rfl,rfl⟩)|go_in)
     have SS:=Zb (Zgx h q2 M a d);by_cases hm:(M).length=16
     ·have gm:(16:Int)<=((M).length:Int):=(by omega);refine aQ 1 ?_;rw[aL];go_wp2;go_ret2;rw[Zq hlk (Za HQ) (Za HRL) ((Za SS).trans (Xn hm))];exact⟨none,0,rfl,RowAt.nil _ _,(STP _).bel,λ_=>rfl⟩
     ·have gm:¬(16:Int)<=((M).length:Int):=(by omega);have gm2:(M).length<16:=(by omega);clear hm;cases hx:fit (b01 (decide (a<d))) with
      | false=>
       have HX:=Zb hx;clear hx;refine aQ 1 ?_;rw[aL]
       go_wp2_with (go_at_call 178;refine (Yp (b01 (decide (a<d))) false _ HX.symm).mono ?_;rintro e w' ⟨rfl,rfl⟩)
       go_ret2;rw[Zq hlk (Za HQ) (Za HRL) ((Za SS).trans (Xu (Za HX)))];exact⟨none,0,rfl,RowAt.nil _ _,(STP _).bel,λ_=>rfl⟩
      | true=>
       have HX:=Zb hx;clear hx;refine aQ 2 ?_;rw[aL]
       go_wp2_with (first|(go_at_call 178;refine (Yp (b01 (decide (a<d))) true _ HX.symm).mono ?_;rintro e w' ⟨rfl,rfl⟩)|(at_builtin;refine Zv (x:=(b01 (decide (a<d)))) rfl _ _ rfl w bm _ (M) rfl (by omega) (STP _) _ (by simp) rfl ?_;intro v3 w3 st3 _;have ST3:=Zb st3;clear st3))
       rw[aL];go_wp2;go_roundw
       case rel=>exact⟨k+1,(M)++[(b01 (decide (a<d)))],by omega,by go_num,(Xd hlk HQ HRL).trans (SS.trans (Wf gm2 HX)),Za ST3⟩
       case measure=>simp[aV];omega
   ·by_cases hs:L.length=0
    ·have e:L=[]:=aJ.1 hs;rw[hs]
     go_wp2_with (first|(at_lookup;refine aU _ rfl _ _ 86 rfl 3 3 .i64 Vx aW aG (Xt _) bm 11 _ rfl STA.map _ _ rfl (keyOf_int_mk aG (by decide)) ?_;intro c hat _;obtain rfl:c=1:=(Zz (by decide) (by decide) hat).trans (by decide);clear hat)|go_in)
     go_ret2;rw[Zq hlk (Za HQ) (Za HRL) (by rw[e];exact Wx h 9 q2 (by decide) (by decide))];exact⟨none,0,rfl,RowAt.nil _ _,STA.bel,λ_=>rfl⟩
    ·obtain⟨M,a,rfl⟩:=Wg (L:=L) (by omega);have ca:(wr.alloc (dW #[E J 9,E J q2] 122)).cell? ⟨g,M.length,none⟩=some (E J a):=(by have:=STA.cell M.length (by simp);simpa using this);have STM:=Zb STA.cut;have fa:=(Yf a).1 (HL2 a (by simp));have hlen1:(M++[a]).length=M.length+1:=(by simp);rw[hlen1] at hL1 hc1 ⊢;clear hs hlen1;have STP:=Zb (STM.keep (Wu _ (dW #[E J (b01 (a == 0))] 3)))
     go_wp2_with (first|(at_lookup;refine aU _ rfl _ _ 86 rfl 3 3 .i64 Vx aW aG (Xt _) bm 11 _ rfl STA.map _ _ rfl (keyOf_int_mk aG (by decide)) ?_;intro c hat _;obtain rfl:c=1:=(Zz (by decide) (by decide) hat).trans (by decide);clear hat)|(go_at_call 177;refine (Hp _ _).mono ?_;rintro e w' ⟨rfl,rfl⟩)|go_in)
     have SS:=Zb (Zjy h q2 M a);by_cases hm:(M).length=16
     ·have gm:(16:Int)<=((M).length:Int):=(by omega);refine aQ 1 ?_;rw[aL];go_wp2;go_ret2;rw[Zq hlk (Za HQ) (Za HRL) ((Za SS).trans (Xn hm))];exact⟨none,0,rfl,RowAt.nil _ _,STP.bel,λ_=>rfl⟩
     ·have gm:¬(16:Int)<=((M).length:Int):=(by omega);have gm2:(M).length<16:=(by omega);clear hm;cases hx:fit (b01 (a == 0)) with
      | false=>
       have HX:=Zb hx;clear hx;refine aQ 1 ?_;rw[aL]
       go_wp2_with (go_at_call 178;refine (Yp (b01 (a == 0)) false _ HX.symm).mono ?_;rintro e w' ⟨rfl,rfl⟩)
       go_ret2;rw[Zq hlk (Za HQ) (Za HRL) ((Za SS).trans (Xu (Za HX)))];exact⟨none,0,rfl,RowAt.nil _ _,STP.bel,λ_=>rfl⟩
      | true=>
       have HX:=Zb hx;clear hx;refine aQ 2 ?_;rw[aL]
       go_wp2_with (first|(go_at_call 178;refine (Yp (b01 (a == 0)) true _ HX.symm).mono ?_;rintro e w' ⟨rfl,rfl⟩)|(at_builtin;refine Zv (x:=(b01 (a == 0))) rfl _ _ rfl w bm _ (M) rfl (by omega) STP _ (by simp) rfl ?_;intro v3 w3 st3 _;have ST3:=Zb st3;clear st3))
       rw[aL];go_wp2;go_roundw
       case rel=>exact⟨k+1,(M)++[(b01 (a == 0))],by omega,by go_num,(Xd hlk HQ HRL).trans (SS.trans (Wf gm2 HX)),Za ST3⟩
       case measure=>simp[aV];omega
   ·by_cases hs:L.length<2
    ·have gs:(L.length:Int)<2:=by omega
     have hno:Yi h 10 q2 L=none:=by
      by_cases h0:L.length=0
      ·rw[aJ.1 h0];exact Wx h 10 q2 (by decide) (by decide)
      ·obtain⟨M,a,rfl⟩:=Wg (L:=L) (by omega);have e:M=[]:=aJ.1 (by simp at hs;omega);subst e;exact Ju h 10 q2 a (by decide)
     have HNO:=Zb hno;clear hno
     go_wp2_with (first|(at_lookup;refine aU _ rfl _ _ 86 rfl 3 3 .i64 Vx aW aG (Xt _) bm 11 _ rfl STA.map _ _ rfl (keyOf_int_mk aG (by decide)) ?_;intro c hat _;obtain rfl:c=2:=(Zz (by decide) (by decide) hat).trans (by decide);clear hat)|go_in)
     go_ret2;rw[Zq hlk (Za HQ) (Za HRL) (Za HNO)];exact⟨none,0,rfl,RowAt.nil _ _,STA.bel,λ_=>rfl⟩
    ·obtain⟨M,a,d,rfl⟩:=J1 (L:=L) (by omega);have ca:(wr.alloc (dW #[E J 10,E J q2] 122)).cell? ⟨g,M.length,none⟩=some (E J a):=(by have:=STA.cell M.length (by simp);simpa using this);have cd:(wr.alloc (dW #[E J 10,E J q2] 122)).cell? ⟨g,M.length+1,none⟩=some (E J d):=(by have:=STA.cell (M.length+1) (by simp);simpa using this);have STM:=Zb STA.cut;have fa:=(Yf a).1 (HL2 a (by simp));have fd:=(Yf d).1 (HL2 d (by simp));have hlen1:(M++[a,d]).length=M.length+2:=(by simp);rw[hlen1] at hL1 hc1 ⊢;clear hs hlen1;have STP:=Zb (λn:Nat=>(STM.drewN n).keep (Wu _ (dW #[E J (b01 (a*d != 0))] 3)))
     go_wp2_with (first|(at_lookup;refine aU _ rfl _ _ 86 rfl 3 3 .i64 Vx aW aG (Xt _) bm 11 _ rfl STA.map _ _ rfl (keyOf_int_mk aG (by decide)) ?_;intro c hat _;obtain rfl:c=2:=(Zz (by decide) (by decide) hat).trans (by decide);clear hat)|go_in)
     go_quiet (fail)
     have hm1:=Zqr fa fd
     go_wp2_with (first|(go_at_call 177;refine (Hp _ _).mono ?_;rintro e w' ⟨rfl,rfl⟩)|go_in)
     have SS:=Zb (show Yi h 10 q2 (M++[a,d])=Yn M [b01 (a*d != 0)] from (Zkb h q2 M a d).trans (by rw[Zqq]));by_cases hm:(M).length=16
     ·have gm:(16:Int)<=((M).length:Int):=(by omega);refine aQ 1 ?_;rw[aL];go_wp2;go_ret2;rw[Zq hlk (Za HQ) (Za HRL) ((Za SS).trans (Xn hm))];exact⟨none,0,rfl,RowAt.nil _ _,(STP _).bel,λ_=>rfl⟩
     ·have gm:¬(16:Int)<=((M).length:Int):=(by omega);have gm2:(M).length<16:=(by omega);clear hm;cases hx:fit (b01 (a*d != 0)) with
      | false=>
       have HX:=Zb hx;clear hx;refine aQ 1 ?_;rw[aL]
       go_wp2_with (go_at_call 178;refine (Yp (b01 (a*d != 0)) false _ HX.symm).mono ?_;rintro e w' ⟨rfl,rfl⟩)
       go_ret2;rw[Zq hlk (Za HQ) (Za HRL) ((Za SS).trans (Xu (Za HX)))];exact⟨none,0,rfl,RowAt.nil _ _,(STP _).bel,λ_=>rfl⟩
      | true=>
       have HX:=Zb hx;clear hx;refine aQ 2 ?_;rw[aL]
       go_wp2_with (first|(go_at_call 178;refine (Yp (b01 (a*d != 0)) true _ HX.symm).mono ?_;rintro e w' ⟨rfl,rfl⟩)|(at_builtin;refine Zv (x:=(b01 (a*d != 0))) rfl _ _ rfl w bm _ (M) rfl (by omega) (STP _) _ (by simp) rfl ?_;intro v3 w3 st3 _;have ST3:=Zb st3;clear st3))
       rw[aL];go_wp2;go_roundw
       case rel=>exact⟨k+1,(M)++[(b01 (a*d != 0))],by omega,by go_num,(Xd hlk HQ HRL).trans (SS.trans (Wf gm2 HX)),Za ST3⟩
       case measure=>simp[aV];omega
   ·by_cases hs:L.length=0
    ·have e:L=[]:=aJ.1 hs;rw[hs]
     go_wp2_with (first|(at_lookup;refine aU _ rfl _ _ 86 rfl 3 3 .i64 Vx aW aG (Xt _) bm 11 _ rfl STA.map _ _ rfl (keyOf_int_mk aG (by decide)) ?_;intro c hat _;obtain rfl:c=1:=(Zz (by decide) (by decide) hat).trans (by decide);clear hat)|go_in)
     go_ret2;rw[Zq hlk (Za HQ) (Za HRL) (by rw[e];exact Wx h 11 q2 (by decide) (by decide))];exact⟨none,0,rfl,RowAt.nil _ _,STA.bel,λ_=>rfl⟩
    ·obtain⟨M,a,rfl⟩:=Wg (L:=L) (by omega);have ca:(wr.alloc (dW #[E J 11,E J q2] 122)).cell? ⟨g,M.length,none⟩=some (E J a):=(by have:=STA.cell M.length (by simp);simpa using this);have STM:=Zb STA.cut;have fa:=(Yf a).1 (HL2 a (by simp));have hlen1:(M++[a]).length=M.length+1:=(by simp);rw[hlen1] at hL1 hc1 ⊢;clear hs hlen1;by_cases h0:a=0
     ·subst h0
      go_wp2_with (first|(at_lookup;refine aU _ rfl _ _ 86 rfl 3 3 .i64 Vx aW aG (Xt _) bm 11 _ rfl STA.map _ _ rfl (keyOf_int_mk aG (by decide)) ?_;intro c hat _;obtain rfl:c=1:=(Zz (by decide) (by decide) hat).trans (by decide);clear hat)|go_in)
      go_ret2;rw[Zq hlk (Za HQ) (Za HRL) ((Ke h q2 M 0).trans (if_pos rfl))];exact⟨none,0,rfl,RowAt.nil _ _,STA.bel,λ_=>rfl⟩
     ·have h0b:(a == 0)=false:=by simp[h0]
      go_wp2_with (first|(at_lookup;refine aU _ rfl _ _ 86 rfl 3 3 .i64 Vx aW aG (Xt _) bm 11 _ rfl STA.map _ _ rfl (keyOf_int_mk aG (by decide)) ?_;intro c hat _;obtain rfl:c=1:=(Zz (by decide) (by decide) hat).trans (by decide);clear hat)|go_in)
      refine aQ 1 ?_;rw[aL];go_wp2;go_roundw
      case rel=>exact⟨k+1,M,by omega,by go_num,(Xd hlk HQ HRL).trans ((Ke h q2 M a).trans (if_neg h0)),Za STM⟩
      case measure=>simp[aV];omega
   ·have STP:=Zb (STA.keep (Wu _ (dW #[E J h] 3)))
    go_wp2_with (first|(at_lookup;refine aU _ rfl _ _ 86 rfl 3 3 .i64 Vx aW aG (Xt _) bm 11 _ rfl STA.map _ _ rfl (keyOf_int_mk aG (by decide)) ?_;intro c hat _;obtain rfl:c=0:=(Zz (by decide) (by decide) hat).trans (by decide);clear hat)|go_in)
    have SS:=Zb (Eu h q2 L);by_cases hm:(L).length=16
    ·have gm:(16:Int)<=((L).length:Int):=(by omega);refine aQ 1 ?_;rw[aL];go_wp2;go_ret2;rw[Zq hlk (Za HQ) (Za HRL) ((Za SS).trans (Xn hm))];exact⟨none,0,rfl,RowAt.nil _ _,STP.bel,λ_=>rfl⟩
    ·have gm:¬(16:Int)<=((L).length:Int):=(by omega);have gm2:(L).length<16:=(by omega);clear hm;cases hx:fit h with
     | false=>
      have HX:=Zb hx;clear hx;refine aQ 1 ?_;rw[aL]
      go_wp2_with (go_at_call 178;refine (Yp h false _ HX.symm).mono ?_;rintro e w' ⟨rfl,rfl⟩)
      go_ret2;rw[Zq hlk (Za HQ) (Za HRL) ((Za SS).trans (Xu (Za HX)))];exact⟨none,0,rfl,RowAt.nil _ _,STP.bel,λ_=>rfl⟩
     | true=>
      have HX:=Zb hx;clear hx;refine aQ 2 ?_;rw[aL]
      go_wp2_with (first|(go_at_call 178;refine (Yp h true _ HX.symm).mono ?_;rintro e w' ⟨rfl,rfl⟩)|(at_builtin;refine Zv (x:=h) rfl _ _ rfl w bm _ (L) rfl (by omega) STP _ (by simp) rfl ?_;intro v3 w3 st3 _;have ST3:=Zb st3;clear st3))
      rw[aL];go_wp2;go_roundw
      case rel=>exact⟨k+1,(L)++[h],by omega,by go_num,(Xd hlk HQ HRL).trans (SS.trans (Wf gm2 HX)),Za ST3⟩
      case measure=>simp[aV];omega
   ·by_cases hs:L.length=0
    ·have e:L=[]:=aJ.1 hs;rw[hs]
     go_wp2_with (first|(at_lookup;refine aU _ rfl _ _ 86 rfl 3 3 .i64 Vx aW aG (Xt _) bm 11 _ rfl STA.map _ _ rfl (keyOf_int_mk aG (by decide)) ?_;intro c hat _;obtain rfl:c=1:=(Zz (by decide) (by decide) hat).trans (by decide);clear hat)|go_in)
     go_ret2;rw[Zq hlk (Za HQ) (Za HRL) (by rw[e];exact Wx h 13 q2 (by decide) (by decide))];exact⟨none,0,rfl,RowAt.nil _ _,STA.bel,λ_=>rfl⟩
    ·obtain⟨M,a,rfl⟩:=Wg (L:=L) (by omega);have ca:(wr.alloc (dW #[E J 13,E J q2] 122)).cell? ⟨g,M.length,none⟩=some (E J a):=(by have:=STA.cell M.length (by simp);simpa using this);have STM:=Zb STA.cut;have fa:=(Yf a).1 (HL2 a (by simp));have hlen1:(M++[a]).length=M.length+1:=(by simp);rw[hlen1] at hL1 hc1 ⊢;clear hs hlen1;have hbd:=Zb (Zfx a (HL2 a (by simp)))
     go_wp2_with (first|(at_lookup;refine aU _ rfl _ _ 86 rfl 3 3 .i64 Vx aW aG (Xt _) bm 11 _ rfl STA.map _ _ rfl (keyOf_int_mk aG (by decide)) ?_;intro c hat _;obtain rfl:c=1:=(Zz (by decide) (by decide) hat).trans (by decide);clear hat)|go_in)
     go_loop [16,135] (λr i=>∃ j:Nat,j<=3/\i = E J j/\r = E J (Ls a j)) (λ_ i=>3 - (aV i).toNat)
     case atStart=>exact⟨0,aP _,rfl,rfl⟩
     case round=>
      obtain⟨j,hj,rfl,rfl⟩:=hrel;obtain⟨b1,b2⟩:=hbd j;obtain⟨m,hm⟩:=ZG (Ls a j);rw[<-hm] at b1 b2 ⊢;have HM:=Zb hm;clear hm;by_cases hj3:j<3
      ·go_wp2
       go_round
       case rel=>
        refine⟨j+1,by omega,by go_num,?_⟩;have:=Za HM;simp only[Ls,<-this,Int.mul_comm m 7919]
       case measure=>simp[aV];omega
      ·have hj4:j=3:=(by omega);have STP:=Zb (STM.keep (Wu _ (dW #[E J (m % 1000001)] 3)));have hmo:Zbg a=m % 1000001:=(by unfold Zbg;rw[Za HM,hj4]);have HMM:=Zb hmo;clear hj4 hmo;go_wp2;have SS:=Zb (show Yi h 13 q2 (M++[a])=Yn M [m % 1000001] from (Zjz h q2 M a).trans (by rw[Za HMM]));by_cases hm:(M).length=16
       ·have gm:(16:Int)<=((M).length:Int):=(by omega);refine aQ 1 ?_;rw[aL];go_wp2;go_ret2;rw[Zq hlk (Za HQ) (Za HRL) ((Za SS).trans (Xn hm))];exact⟨none,0,rfl,RowAt.nil _ _,STP.bel,λ_=>rfl⟩
       ·have gm:¬(16:Int)<=((M).length:Int):=(by omega);have gm2:(M).length<16:=(by omega);clear hm;cases hx:fit (m % 1000001) with
        | false=>
         have HX:=Zb hx;clear hx;refine aQ 1 ?_;rw[aL]
         go_wp2_with (go_at_call 178;refine (Yp (m % 1000001) false _ HX.symm).mono ?_;rintro e w' ⟨rfl,rfl⟩)
         go_ret2;rw[Zq hlk (Za HQ) (Za HRL) ((Za SS).trans (Xu (Za HX)))];exact⟨none,0,rfl,RowAt.nil _ _,STP.bel,λ_=>rfl⟩
        | true=>
         have HX:=Zb hx;clear hx;refine aQ 2 ?_;rw[aL]
         go_wp2_with (first|(go_at_call 178;refine (Yp (m % 1000001) true _ HX.symm).mono ?_;rintro e w' ⟨rfl,rfl⟩)|(at_builtin;refine Zv (x:=(m % 1000001)) rfl _ _ rfl w bm _ (M) rfl (by omega) STP _ (by simp) rfl ?_;intro v3 w3 st3 _;have ST3:=Zb st3;clear st3))
         rw[aL];go_wp2;go_roundw
         case rel=>exact⟨k+1,(M)++[(m % 1000001)],by omega,by go_num,(Xd hlk HQ HRL).trans (SS.trans (Wf gm2 HX)),Za ST3⟩
         case measure=>simp[aV];omega
  ·have e:k=len:=(by omega);subst e;clear hlt;go_wp2;go_ret2;have h1:=Za HRL;rw[<-Za HZ,List.take_length] at h1;rw[h1];obtain⟨a',cap',hv,hra,hca⟩:=HST.rowAt;simp only[Option.getD_some,Option.isSome_some];exact⟨_,_,rfl,(by cases hv;exact hra),HST.bel,(by cases hv;exact hca)⟩
open Go.RowKit Go.Maps
theorem Mq(a len cap l az)(lens caps:Nat)(Z)(h:Int)(w:World)(hO:OpsAt w a len l)(hck:chk l=0)
  (hR:RowAt w az lens Z) (hcz:az=none->caps=0) (hZ:Yj Z=true) (hh:hOk h=true) :
  Calls aB 151 #[F a len cap,F az lens caps,E J h] w λe w'=>∃ a' cap',e = dX (dY #[.slice a' ((Xh h l Z).getD []).length cap',eA (Xh h l Z).isSome])/\RowAt w' a' ((Xh h l Z).getD []).length ((Xh h l Z).getD [])/\ZD w w'/\(a'=none->cap'=0):=by
 obtain⟨hz,hc⟩:=hO
 have h16:len<=16/\Un l=0:=by
  unfold chk at hck;split at hck
  ·cases hck
  ·exact⟨by omega,hck⟩
 by_cases h0:len=0
 ·subst h0;have e:l=[]:=aJ.1 hz;subst e;exact Zab az lens caps cap a Z h w hR hcz hZ
 ·obtain⟨b,off,rfl,hcell⟩:=hc (by omega);exact Zaa b off len cap l az lens caps Z h w h16.1 h16.2 hz hcell (World.block_lt_of_cell? _ _ (hcell 0 (by omega)).1) hR hcz hZ hh
open Go.RowKit Go.Maps
def Ua(l k:List (Int×Int))(h:Int):Bool:=match (Xh h k []).bind (Xh h l) with|some L=>Gk L|none=>false
set_option maxRecDepth 10000 in
theorem Nk(a b lena capa lenb capb l k)(h:Int)(w:World)(hO:OpsAt w a lena l)(hK:OpsAt w b lenb k)(hcl:chk l=0)(hck:chk k=0)(hh:hOk h=true) :
  ZH 111 #[F a lena capa,F b lenb capb,E J h] w (eA (Ua l k h)):=by
 have r1:=Mq b lenb capb k none 0 0 [] h w hK hck (RowAt.nil _ _) (λ_=>rfl) rfl hh;cases h1:Xh h k [] with
 | none=>
  rw[h1] at r1;simp only[Option.getD_none,Option.isSome_none,List.length_nil] at r1;have R1:=Zb r1;have e:Ua l k h=false:=by unfold Ua;rw[h1];rfl
  rw[e];clear e h1 r1 hO hK hcl hck hh;go_enter func111,ntmps111;go_wp2_with fail;refine R1.mono ?_;rintro e w1 ⟨a',cap',rfl,_,hb,_⟩;have HB:=Zb hb;clear hb;go_wp2;go_ret;exact⟨rfl,Za HB⟩
 | some S=>
  rw[h1] at r1;simp only[Option.getD_some,Option.isSome_some] at r1;have R1:=Zb r1;have r2:∀ (a':Option Addr) (cap':Nat) (w1:World),RowAt w1 a' S.length S->ZD w w1->(a'=none->cap'=0)->_:=λa' cap' w1 hr hb hc=>Mq a lena capa l a' S.length cap' S h w1 (hO.later hb) hcl hr hc (L5 (L:=[]) rfl h1) hh;cases h2:Xh h l S with
  | none=>
   rw[h2] at r2;simp only[Option.getD_none,Option.isSome_none,List.length_nil] at r2;have R2:=Zb r2;have e:Ua l k h=false:=(by unfold Ua;rw[h1];simp only[Option.bind_some];rw[h2]);rw[e];clear e h1 h2 r1 r2 hO hK hcl hck hh;go_enter func111,ntmps111;go_wp2_with fail;refine R1.mono ?_;rintro e w1 ⟨a',cap',rfl,hr,hb,hc⟩;have C2:=Zb (R2 a' cap' w1 hr hb hc);have HB:=Zb hb;clear hr hb hc;go_wp2_with fail;refine C2.mono ?_;rintro e w2 ⟨a2,cap2,rfl,_,hb2,_⟩;have HB2:=Zb (HB.trans (hb2.mono HB.size));clear hb2;go_wp2;go_ret;exact⟨rfl,Za HB2⟩
  | some L=>
   rw[h2] at r2;simp only[Option.getD_some,Option.isSome_some] at r2;have R2:=Zb r2;have e:Ua l k h=Gk L:=(by unfold Ua;rw[h1];simp only[Option.bind_some];rw[h2]);rw[e];clear e h1 h2 r1 r2 hO hK hcl hck hh;by_cases h3:L.length=1
   ·obtain⟨x,rfl⟩:=List.length_eq_one_iff.1 h3;have e:Gk [x]=(x != 0):=(by simp[Gk,Rd]);rw[e];clear h3 e;go_enter func111,ntmps111;go_wp2_with fail;refine R1.mono ?_;rintro e w1 ⟨a',cap',rfl,hr,hb,hc⟩;have C2:=Zb (R2 a' cap' w1 hr hb hc);have HB:=Zb hb;clear hr hb hc;go_wp2_with fail;refine C2.mono ?_;rintro e w2 ⟨a2,cap2,rfl,hr2,hb2,_⟩;obtain⟨b2,off2,rfl,hc2⟩:=hr2.2.2 (Nat.zero_lt_one);have c2:=hc2 0 (Nat.zero_lt_one);have c3:w2.cell? ⟨b2,off2,none⟩=some (E J x):=c2;have HB2:=Zb (HB.trans (hb2.mono HB.size));clear hb2 hr2 hc2 c2;simp only[List.length_cons,List.length_nil];go_wp2;go_ret;exact⟨rfl,Za HB2⟩
   ·have e:Gk L=false:=(by simp[Gk,h3]);rw[e];obtain⟨n,hn⟩:=ZF (L.length);rw[hn] at R2 h3;have h4:((n:Int) == 1)=false:=(by simp;omega);clear hn e h3;go_enter func111,ntmps111;go_wp2_with fail;refine R1.mono ?_;rintro e w1 ⟨a',cap',rfl,hr,hb,hc⟩;have C2:=Zb (R2 a' cap' w1 hr hb hc);have HB:=Zb hb;clear hr hb hc;go_wp2_with fail;refine C2.mono ?_;rintro e w2 ⟨a2,cap2,rfl,_,hb2,_⟩;have HB2:=Zb (HB.trans (hb2.mono HB.size));clear hb2;go_wp2;go_ret;exact⟨rfl,Za HB2⟩
