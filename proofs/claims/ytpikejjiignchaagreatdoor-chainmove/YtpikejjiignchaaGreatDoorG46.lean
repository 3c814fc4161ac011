import Derived.Test.YtpikejjiignchaaGreatDoorH
import Derived.Test.YtpikejjiignchaaGreatDoorG43
open Go.Proofs.Tryz
open Go renaming lt_of_block->aA,maxLen->cD
open Go.Ending renaming returned->dX
open Go.IntKind renaming i64->J
open Go.Obj renaming cells->dW
open Go.Proofs.Tryz renaming prog->aB,underlying3->aG,underlying86->aW
open Go.Value renaming int->E,slice->F,tuple->dY,bool->eA
open List renaming take_succ_eq_append_getElem->aM,length_take->bG
open Nat renaming lt_of_lt_of_le->aI,le_trans->aT
set_option maxHeartbeats 12800000
set_option maxRecDepth 10000
namespace Go.Proofs.YtpikejjiignchaaGreatDoor.Tr
open Go.RowKit Go.Maps
theorem Vx:Keyed aB 3:=int_keyed aG
theorem Xt(w):(zeroValue 3).run aB w = .ok (E J 0) w:=by kernel_rfl
theorem Ca{x y:Int}(h:x≠y):(Lit.int .i64 x)≠(Lit.int .i64 y):=by
 intro e;injection e with _ e;exact h e
structure HMap(bm:Nat)(N:List Int)(T:List Zj)(w:World):Prop where
 map:∃ D,w.ownsMap aB 3 (plainElem (H:=Unit) aB 3) bm (N.length+1) D/\IsMap D/\(∀ x:Int,Maps.has D (.int .i64 x)=decide (x=0\/x∈N))/\∀ x:Int,D.atKey (.int .i64 x) (.lit (.int .i64 0)) = .lit (.int .i64 (fnd x N T).2.1)
theorem HMap.keep{bm:Nat}{N T}{w w':World}(h:HMap bm N T w)(hb:ZD w w'):HMap bm N T w':=by
 obtain⟨D,⟨O,z,h1,r⟩,r2⟩:=h.map;exact⟨D,⟨O,z,(hb.block bm (aA h1)).trans h1,r⟩,r2⟩
theorem HMap.start{bm:Nat}{w:World}{D:DataW Unit}(z:D=DataW.put (.map []) (.int .i64 0) (.lit (.int .i64 0)))(h:w.ownsMap aB 3 (plainElem (H:=Unit) aB 3) bm (0+1) D):HMap bm [] [] w:=by
 have O:IsMap (DataW.map (H:=Unit) []):=⟨_,rfl⟩;refine⟨D,h,by rw[z];exact⟨_,rfl⟩,λx=>?_,λx=>?_⟩
 ·by_cases e:x=0
  ·subst e;rw[z,has_put_same O (by simp[WideAt.IsKeyLit])];simp
  ·rw[z,has_put_other (Ca e)];simp[e,Maps.has]
 ·by_cases e:x=0
  ·subst e;rw[z,atKey_put_same O (by simp[WideAt.IsKeyLit])];simp[fnd,U6]
  ·rw[z,atKey_put_other (Ca e)];simp[fnd,U6];rfl
theorem HMap.put{bm:Nat}{N:List Int}{T:List Zj}{w:World}{D:DataW Unit}{s:Int}{b:Zj}(z:N.length=T.length)(hs:s∉N)
  (O:IsMap D) (hh:∀ x:Int,Maps.has D (.int .i64 x)=decide (x=0\/x∈N)) (ha:∀ x:Int,D.atKey (.int .i64 x) (.lit (.int .i64 0)) = .lit (.int .i64 (fnd x N T).2.1))
  (h:w.ownsMap aB 3 (plainElem (H:=Unit) aB 3) bm (N.length+1+1) (D.put (.int .i64 s) (.lit (.int .i64 b.2.1)))):HMap bm (N++[s]) (T++[b]) w:=by
 refine⟨_,by simpa using h,?_,λx=>?_,λx=>?_⟩
 ·obtain⟨es,rfl⟩:=O;exact⟨_,rfl⟩
 ·by_cases e:x=s
  ·subst e;rw[has_put_same O (by simp[WideAt.IsKeyLit])];simp
  ·rw[has_put_other (Ca e),hh];simp[e]
 ·by_cases e:x=s
  ·subst e;rw[atKey_put_same O (by simp[WideAt.IsKeyLit]),J3 z hs,Zge]
  ·rw[atKey_put_other (Ca e),ha];by_cases hx:x∈N
   ·rw[Aq z hx]
   ·rw[J3 z hx,Jg z hx];simp[fnd,e]
section
variable {w : World} {ops : Array Oper} {rest : List Oper} {o : Oper} {a : Act} {Q : Exit -> Act -> World -> Prop}
theorem Xx(hg:o.guard=none)(m x:Operand)(ag:o.op=Op.lookup 86 m x true)(bm:Nat)(N T)(hm:a.eval m = .map (some bm))(h:HMap bm N T w)(y:Int)(hx:a.eval x = .int .i64 y)
  (hy:(Lit.int .i64 y).wf=true) (z:Int) (t:Bool) (e1:(fnd y N T).2.1=z) (e2:decide (y=0\/y∈N)=t) (hK:wpList aB ops Q rest (a.put o.dst (.tuple #[.int .i64 z,.bool t])) w):wpList aB ops Q (o :: rest) a w:=by
 obtain⟨D,h1,h2,h3,h4⟩:=h.map;refine wpList_lookup_own_ok_int w hg m x 86 ag 3 3 .i64 Vx aW aG (Xt w) bm _ D hm h1 _ _ hx (keyOf_int_mk aG hy) λc O _=>?_;rw[h4,e1] at O;have ec:z=c:=by injection O with q;injection q
 rw[h3,e2,<-ec];exact hK
theorem Lp(O:o.guard=none)(m x v:Operand)(ac:o.op=Op.mapUpdate 86 m x v)(bm:Nat)(N:List Int)(T:List Zj)(hm:a.eval m = .map (some bm))(h:HMap bm N T w)(hl:N.length=T.length)(hn:N.length<=100)(s:Int)(hs:s∉N)(b:Zj)
  (hx:a.eval x = .int .i64 s) (hv:a.eval v = .int .i64 b.2.1) (h1:(Lit.int .i64 s).wf=true) (h2:(Lit.int .i64 b.2.1).wf=true)
  (z:∀ w',HMap bm (N++[s]) (T++[b]) w'->w.grownBy w' (some bm)->wpList aB ops Q rest (a.put o.dst undef) w'):wpList aB ops Q (o :: rest) a w:=by
 obtain⟨D,q1,q2,q3,q4⟩:=h.map;exact wpList_mapUpdate_own w O m x v 86 ac 3 3 Vx aW _ bm _ D hm q1 (by unfold cD;omega) _ _ _ hx hv (keyOf_int_mk aG h1) _ [] (plainElem_int aG h2) λw' r1 r2=>z w' (HMap.put hl hs q2 q3 q4 r1) r2
theorem Lq(hg:o.guard=none)(m x v:Operand)(ae:o.op=Op.insert 86 m x v)(W:World)(bm:Nat)(aa:W.heap.size=bm)(hw:w=W.alloc (.map #[] 0))(hm:a.eval m = .map (some bm))(hx:a.eval x = .int .i64 0)(hv:a.eval v = .int .i64 0)
  (z:∀ w',HMap bm [] [] w'->ZD W w'->wpList aB ops Q rest (a.put o.dst undef) w'):wpList aB ops Q (o :: rest) a w:=by
 subst hw aa;have h0:=World.ownsMap_made W aB 3 (plainElem (H:=Unit) aB 3);obtain⟨w',af,r1,r2⟩:=h0.update Vx aW (by unfold cD;omega) (keyOf_int_mk aG (q:=.i64) (a:=0) (by decide)) (plainElem_int aG (q:=.i64) (a:=0) (by decide));refine wpList_plain hg λK' O=>?_;unfold Oper.wp;simp[execOp,ae,hm,hx,hv,af,Result.andThen];exact O _ _ (z w' (HMap.start rfl r1) ((Zg W (.map #[] 0)).grown r2 (Zg W (.map #[] 0)).size (λj hj=>by cases hj;exact Nat.le_refl _)))
end
open Go.RowKit Go.Maps
theorem Mg{x:Int}(h0:0<=x)(h1:x<=1000000000):(Lit.int .i64 x).wf=true:=by
 simp[Lit.wf,IntKind.min,IntKind.max,IntKind.signed,IntKind.bits];omega
theorem Zck{b:Zj}(h:Xo b=0):0<=b.1/\b.1<=120:=by
 unfold Xo at h;split at h
 ·cases h
 ·next q=>simp[Wj] at q;omega
theorem Nr{N T}{s:Int}{b:Zj}(h:s<1\/120<s):Xw N T s b=3:=by
 unfold Xw;rw[if_pos (by simp;omega)]
theorem Zlr{N T}{s:Int}{b:Zj}(h0:¬s<1)(h1:¬120<s)(h:Xo b≠0):Xw N T s b=Xo b:=by
 unfold Xw;rw[if_neg (by simp;omega),if_pos h]
theorem Zdo{N T}{s:Int}{b:Zj}(h0:¬s<1)(h1:¬120<s)(h:Xo b=0)(z:s∈N):Xw N T s b=6:=by
 unfold Xw;rw[if_neg (by simp;omega),if_neg (by simp[h]),if_pos (by simp[z])]
theorem Zlq{N T}{s:Int}{b:Zj}(h0:¬s<1)(h1:¬120<s)(h:Xo b=0)(O:s∉N)(z:¬(b.1=0\/b.1∈N)):Xw N T s b=5:=by
 unfold Xw;rw[if_neg (by simp;omega),if_neg (by simp[h]),if_neg (by simp[O]),if_pos (by simp;exact not_or.1 z)]
theorem Ag{N T}{s:Int}{b:Zj}(h0:¬s<1)(h1:¬120<s)(h:Xo b=0)(O:s∉N)(z:b.1=0\/b.1∈N):Xw N T s b=if b.2.1≠(fnd b.1 N T).2.1+1 then 4 else 0:=by
 unfold Xw;rw[if_neg (by simp;omega),if_neg (by simp[h]),if_neg (by simp[O]),if_neg (by rintro ⟨q1,q2⟩;rcases z with q|q <;> simp_all)]
theorem rchkTree_any(a b n c m d N T)(x:Int)(w:World)(hN:IntsAt w a n N)(hT:BlksAt w b m T)(sN:SlOk a n c)(sT:SlOk b m d)(hx:chkTr N T=x) :
  ZH 9 #[.agg #[F a n c,F b m d]] w (.int .i64 x):=by
 subst hx;obtain⟨X,hX⟩:=ZG (w.alloc (dW #[F a n c,F b m d] 28));have bc:ZD w X:=by rw[hX];exact Zg _ _
 have ap:X.heap[w.heap.size]? = some (dW [F a n c,F b m d].toArray 28 (0,0)):=by rw[hX];exact two_heap _ _ _ _
 have HB:=Zb bc;have ea:Hid (X.heap.size=w.heap.size+1):=by show _=_;rw[hX];simp
 have ej:=Zb ap;have x0:=Zd ap 0 _ rfl;have x1:=Zd ap 1 _ rfl;have xl:=aA ap;have HN:=Zb (hN.later bc);have HT:=Zb (hT.later bc);have de:=Zb hN.1;have eb:=Zb hT.1;have hm:=sN.2.1;have eh:=sT.2.1;have ep:=sN.1;unfold cD at hm eh;by_cases e:n=m
 ·subst e;by_cases h24:24<n
  ·have R:Hid (chkTr N T=2):=(by show _=_;unfold chkTr;rw[hN.1,hT.1,if_neg (by simp),if_pos h24]);have g0:((n:Int) != (n:Int))=false:=(by simp);have g1:(24:Int)<(n:Int):=(by omega);clear hN hT sN sT ap bc;go_enter func9,ntmps9;go_wp2_with fail;rw[<-hX];clear hX;go_wp2;go_ret;exact⟨by rw[Za R];rfl,Za HB⟩
  ·have R:Hid (chkTr N T=Wa (N.take 0) (T.take 0) (N.drop 0) (T.drop 0)):=(by show _=_;unfold chkTr;rw[hN.1,hT.1,if_neg (by simp),if_neg h24];rfl);have g0:((n:Int) != (n:Int))=false:=(by simp);have g1:¬(24:Int)<(n:Int):=(by omega);have eq:=@run_makeMap aB;clear hN hT sN sT ap bc;go_enter func9,ntmps9
   go_wp2_with (first|(refine Lq rfl _ _ _ rfl _ (w.heap.size+1) ?_ rfl rfl rfl rfl ?_;(· simp);intro w1 dq bb;rw[<-hX] at bb;have v0:=Zc bb x0;have v1:=Zc bb x1;have vl:=aI xl bb.size)|go_in)
   clear hX;have dw:Hid (HMap (w.heap.size+1) (N.take 0) (T.take 0) w1):=(by show HMap _ _ _ _;rw[List.take_zero,List.take_zero];exact dq);have dt:=Zb bb;clear dq bb v0 v1 vl
   go_loopw [28] (λi wr=>∃ j:Nat,j<=n/\i = .int .i64 j/\Hid (chkTr N T=Wa (N.take j) (T.take j) (N.drop j) (T.drop j))/\Hid (Wv (T.take j))/\Hid (ZD X wr)/\Hid (HMap (w.heap.size+1) (N.take j) (T.take j) wr)) (λi _=>n - (intOf i).toNat)
   case atStart=>exact⟨0,Nat.zero_le _,rfl,R,(λb hb=>(by simp at hb):Wv (T.take 0)),dt,dw⟩
   case round=>
    obtain⟨j,hj,rfl,A,HH,ai,co⟩:=hrel;by_cases dp:j<n
    ·have h1:j<N.length:=(by rw[Za de];exact dp);have h2:j<T.length:=(by rw[Za eb];exact dp);obtain⟨b1,et,rfl,dm,dh⟩:=HN.2 (by omega);obtain⟨b2,eu,rfl,dn,di⟩:=HT.2 (by omega);have f1:=Zc ai (dh j h1);have dl:=BlkAt.kept _ _ _ _ _ ai (di j h2);have AT:=Zb (Zcj N T j h1 h2);have dd:=Zb (N8 h2 HH);have TK:=Zb (And.intro (aM h1) (aM h2));obtain⟨s,hs⟩:=ZF (N[j]);obtain⟨t,ht⟩:=ZF (T[j]);rw[hs] at f1 AT TK;rw[ht] at dl AT dd TK;obtain⟨p,h,k,o,L⟩:=t;obtain⟨ay,az,g2,g3,ta,tn,tc,g4,hL,_⟩:=dl;simp only at ay az g2 g3 hL;have w0:=Zc ai x0;have w1:=Zc ai x1;have wl:=aI xl ai.size;have er:=aI dm ai.size;have es:=aI dn ai.size;have ce:Hid ((N.take j).length=(T.take j).length/\(N.take j).length<=100):=(by show _/\_;rw[bG,bG];omega);obtain⟨M,hM⟩:=ZF (N.take j);obtain⟨U,hU⟩:=ZF (T.take j);rw[hM] at A AT co TK ce;rw[hU] at A AT co TK HH ce;obtain⟨Y,hY⟩:=ZG (wr.alloc (dW #[.int .i64 p,.int .i64 h,.int .i64 k,.int .i64 o,F ta tn tc] 68));have cf:ZD wr Y:=(by rw[hY];exact Zg _ _);have an:Y.heap[wr.heap.size]? = some (dW [.int .i64 p,.int .i64 h,.int .i64 k,.int .i64 o,F ta tn tc].toArray 68 (0,0)):=(by rw[hY];exact Z8 _ _ _ _ _ _ _);have bj:=Zb an;have av:=Zb (Ze ai cf);have dc:=Zb (Ze HB av);have bi:=Zb (co.keep cf);have y0:=Zd an 0 _ rfl;have y1:=Zd an 1 _ rfl;have y2:=Zd an 2 _ rfl;have y3:=Zd an 3 _ rfl;have y4:=Zd an 4 _ rfl
     have yl:=aA an;obtain⟨x,hx⟩:=ZF (Xo (p,h,k,o,L));have CT:=Zb (Sm p h k o ta tn tc L x Y (hL.later cf) hx);have HX:=Zb hx;clear cf an hL hs ht hx dh di x0 x1 xl dm dn hM hU h1 h2;by_cases s1:s<1
     ·have R:Hid (chkTr N T=3):=(by show _=_;rw[Za A,Za AT,Nr (.inl s1),if_pos (by decide)]);clear A;go_wp2_with fail;rw[<-hY];clear hY;go_wp2;go_ret;exact⟨by rw[Za R];rfl,Za dc⟩
     by_cases s2:120<s
     ·have R:Hid (chkTr N T=3):=(by show _=_;rw[Za A,Za AT,Nr (.inr s2),if_pos (by decide)]);clear A;go_wp2_with fail;rw[<-hY];clear hY;go_wp2;go_ret;exact⟨by rw[Za R];rfl,Za dc⟩
     by_cases bs:x=0
     ·subst bs;have WS:Hid ((Lit.int .i64 s).wf=true):=Mg (by omega) (by omega);have hp:=Zck HX;have hq:=Sf HX;simp only at hp hq;have WP:Hid ((Lit.int .i64 p).wf=true):=Mg hp.1 (by omega);have WH:Hid ((Lit.int .i64 h).wf=true):=Mg (by omega) (by omega);have dv:=Zb (dd HX);by_cases i3:s∈M
      ·have R:Hid (chkTr N T=6):=(by show _=_;rw[Za A,Za AT,Zdo s1 s2 (Za HX) i3,if_pos (by decide)]);obtain⟨z3,bt⟩:∃ ez,(fnd s M U).2.1=ez:=⟨_,rfl⟩;have D3:Hid (decide (s=0\/s∈M)=true):=(by show _=_;simp[i3]);have Z3:=Zb bt;clear A hp hq i3 bt;go_wp2_with fail;rw[<-hY];clear hY;go_wp2_with fail;refine CT.mono ?_;rintro e w2 ⟨rfl,z⟩;have O:=ZE z bj;have ad:=Zb (Ze av z);have ab:=Zb (bi.keep z);have z0:=Zd O 0 _ rfl;have z1:=Zd O 1 _ rfl;have cm:=aA O;have af:=Zb (Ze HB ad);clear z O y0 y1 y2 y3 y4 yl ay az g2 g3 g4 f1 w0 w1
       go_wp2_with (first|(at_lookup;refine Xx rfl _ _ rfl (w.heap.size+1) M U rfl ab s rfl WS z3 true Z3 D3 ?_)|go_in)
       go_ret;exact⟨by rw[Za R];rfl,Za af⟩
      ·have I3:=Zb i3;obtain⟨z3,bt⟩:∃ ez,(fnd s M U).2.1=ez:=⟨_,rfl⟩;have D3:Hid (decide (s=0\/s∈M)=false):=(by show _=_;simp[i3];omega);have Z3:=Zb bt;obtain⟨ez,hz⟩:=ZF ((fnd p M U).2.1);have Z4:=Zb hz;have zb:=Jn HH p M;rw[hz] at zb;have zl:=zb.1;have zh:=zb.2.1;clear bt zb;by_cases i4:p=0\/p∈M
       ·have D4:Hid (decide (p=0\/p∈M)=true):=(by show _=_;simp[i4]);by_cases e5:h=ez+1
        ·have R:Hid (chkTr N T=Wa (N.take (j+1)) (T.take (j+1)) (N.drop (j+1)) (T.drop (j+1))):=(by show _=_;rw[Za A,Za AT,Ag s1 s2 (Za HX) i3 i4];simp only;rw[hz];simp[e5]);have g5:(ez+1 != h)=false:=(by simp[e5]);clear A hp hq i3 i4 hz e5;go_wp2_with fail;rw[<-hY];clear hY;go_wp2_with fail;refine CT.mono ?_;rintro e w2 ⟨rfl,z⟩;have O:=ZE z bj;have ad:=Zb (Ze av z);have ab:=Zb (bi.keep z);have z0:=Zd O 0 _ rfl;have z1:=Zd O 1 _ rfl;have cm:=aA O;have af:=Zb (Ze HB ad);clear z O y0 y1 y2 y3 y4 yl ay az g2 g3 g4 f1 w0 w1
         go_wp2_with (first|(at_lookup;refine Xx rfl _ _ rfl (w.heap.size+1) M U rfl ab s rfl WS z3 false Z3 D3 ?_)|(at_lookup;refine Xx rfl _ _ rfl (w.heap.size+1) M U rfl ab p rfl WP ez true Z4 D4 ?_)|(at_mapUpdate;refine Lp rfl _ _ _ rfl (w.heap.size+1) M U rfl ab ce.1 ce.2 s I3 (p,h,k,o,L) rfl rfl WS WH ?_;intro w3 cu dj;rw[<-(Za TK).1,<-(Za TK).2] at cu;have dx:=Zb cu;have du:=Zb (ad.grown dj ad.size (λq hq=>by cases hq;exact Nat.le_of_eq ea));clear cu dj)|go_in)
         go_roundw
         case rel=>exact⟨j+1,by omega,by go_num,R,dv,du,dx⟩
         case measure=>simp[intOf];omega
        ·have R:Hid (chkTr N T=4):=(by show _=_;rw[Za A,Za AT,Ag s1 s2 (Za HX) i3 i4];simp only;rw[hz];simp[e5]);have g5:(ez+1 != h)=true:=(by simp;omega);clear A hp hq i3 i4 hz e5;go_wp2_with fail;rw[<-hY];clear hY;go_wp2_with fail;refine CT.mono ?_;rintro e w2 ⟨rfl,z⟩;have O:=ZE z bj;have ad:=Zb (Ze av z);have ab:=Zb (bi.keep z);have z0:=Zd O 0 _ rfl;have z1:=Zd O 1 _ rfl;have cm:=aA O;have af:=Zb (Ze HB ad);clear z O y0 y1 y2 y3 y4 yl ay az g2 g3 g4 f1 w0 w1
         go_wp2_with (first|(at_lookup;refine Xx rfl _ _ rfl (w.heap.size+1) M U rfl ab s rfl WS z3 false Z3 D3 ?_)|(at_lookup;refine Xx rfl _ _ rfl (w.heap.size+1) M U rfl ab p rfl WP ez true Z4 D4 ?_)|go_in)
         go_ret;exact⟨by rw[Za R];rfl,Za af⟩
       ·have D4:Hid (decide (p=0\/p∈M)=false):=(by show _=_;simp[i4]);have R:Hid (chkTr N T=5):=(by show _=_;rw[Za A,Za AT,Zlq s1 s2 (Za HX) i3 i4,if_pos (by decide)]);clear A hp hq i3 i4 hz;go_wp2_with fail;rw[<-hY];clear hY;go_wp2_with fail;refine CT.mono ?_;rintro e w2 ⟨rfl,z⟩;have O:=ZE z bj;have ad:=Zb (Ze av z);have ab:=Zb (bi.keep z);have z0:=Zd O 0 _ rfl;have z1:=Zd O 1 _ rfl;have cm:=aA O;have af:=Zb (Ze HB ad);clear z O y0 y1 y2 y3 y4 yl ay az g2 g3 g4 f1 w0 w1
        go_wp2_with (first|(at_lookup;refine Xx rfl _ _ rfl (w.heap.size+1) M U rfl ab s rfl WS z3 false Z3 D3 ?_)|(at_lookup;refine Xx rfl _ _ rfl (w.heap.size+1) M U rfl ab p rfl WP ez false Z4 D4 ?_)|go_in)
        go_ret;exact⟨by rw[Za R];rfl,Za af⟩
     ·have R:Hid (chkTr N T=x):=(by show _=_;rw[Za A,Za AT,Zlr s1 s2 (by rw[Za HX];exact bs),Za HX,if_pos bs]);have gx:(x != 0)=true:=(by simp[bs]);clear A bs;go_wp2_with fail;rw[<-hY];clear hY;go_wp2_with fail;refine CT.mono ?_;rintro e w2 ⟨rfl,z⟩;have O:=ZE z bj;have ad:=Zb (Ze av z);have ab:=Zb (bi.keep z);have z0:=Zd O 0 _ rfl;have z1:=Zd O 1 _ rfl;have cm:=aA O;have af:=Zb (Ze HB ad);clear z O y0 y1 y2 y3 y4 yl ay az g2 g3 g4 f1 w0 w1;go_wp2;go_ret;exact⟨by rw[Za R];rfl,Za af⟩
    ·have R:Hid (chkTr N T=0):=(by show _=_;rw[Za A,A9 N T j (by rw[Za de];omega)]);have af:=Zb (Ze HB ai);clear A;go_wp2;go_ret;exact⟨by rw[Za R];rfl,Za af⟩
 ·have R:Hid (chkTr N T=4):=by show _=_;unfold chkTr;rw[hN.1,hT.1,if_pos e]
  have g0:((n:Int) != (m:Int))=true:=by simp;omega
  clear hN hT sN sT ap bc;go_enter func9,ntmps9;go_wp2_with fail;rw[<-hX];clear hX;go_wp2;go_ret;exact⟨by rw[Za R];rfl,Za HB⟩
end Tr
open Go.RowKit
theorem Zeg(a b n c m d N T)(s t:Int)(bj x:Int)(w:World)(hN:Tr.IntsAt w a n N)(hT:Tr.BlksAt w b m T)(sN:SlOk a n c)(sT:SlOk b m d)(z:Zeh N T s t=(bj,x)) :
  ZH 8 #[.agg #[F a n c,F b m d],E J s,E J t] w (dY #[E J bj,E J x]):=by
 obtain⟨X,hX⟩:=ZG (w.alloc (dW #[F a n c,F b m d] 28));have ac:ZD w X:=by rw[hX];exact Zg _ _
 have ab:X.heap[w.heap.size]? = some (dW [F a n c,F b m d].toArray 28 (0,0)):=by rw[hX];exact Tr.two_heap _ _ _ _
 obtain⟨⟨P,y⟩,hp⟩:=ZF (Tr.pathE N T t);obtain⟨i,hi⟩:=ZF (Tr.idxI s P 0);obtain⟨O,ae⟩:=ZF (P.length);unfold Zeh at z;rw[hp] at z;simp only at z;rw[hi,ae] at z;have hP:O<=24:=by rw[<-ae];exact Rk hp
 have az:i = -1\/(0<=i/\i<O):=by
  rcases Zma P s 0 with h|⟨j,h1,h2⟩
  ·left;rw[<-hi,h]
  ·right;have:=(List.getElem?_eq_some_iff.1 h2).1;rw[<-hi,h1];omega
 have C1:=Zb (Tr.path_is a b n c m d N T t P O y X (hN.later ac) (hT.later ac) sN sT hp ae);have HI:=Zb hi;have x0:=Zd ab 0 _ rfl;have x1:=Zd ab 1 _ rfl;have xl:=aA ab;have ax:=Zb ac;have HX:=Zb z;clear hN hT sN sT ac ab z hp ae hi;go_enter func8,ntmps8;go_wp2_with fail;rw[<-hX];clear hX;(try go_wp2_with fail);refine C1.mono ?_;rintro e w1 ⟨v,rfl,ho,an⟩;obtain⟨pa,pc,rfl,sP,al⟩:=Tr.ints_of_own ho;have C2:=Zb (Tr.indexInt_is pa O pc P s i w1 (by unfold cD;omega) al HI);have ag:=Zb (Ze ax an);clear ho al an x0 x1;by_cases hy:y=0
 ·subst hy;have z:=Za HX;rw[if_neg (λq=>q rfl)] at z;have aj:=Zb z;clear z;go_wp2_with fail;refine C2.mono ?_;rintro e w2 ⟨rfl,rfl⟩;have ah:=ag;by_cases ao:i<0
  ·have z:=Za aj;rw[if_pos ao] at z;injection z with h1 h2;subst h1 h2;go_wp2;go_ret2;exact⟨rfl,Za ah⟩
  ·have z:=Za aj;rw[if_neg ao] at z;injection z with h1 h2;subst h1 h2;have h0:0<=i/\i<O:=(by omega);clear az;go_wp2;go_ret2;exact⟨by first|rfl|(congr 1),Za ah⟩
 ·have z:=Za HX;rw[if_pos hy] at z;injection z with h1 h2;subst h1 h2;have gy:(y != 0)=true:=by simp[hy]
  go_wp2;go_ret2;exact⟨rfl,Za ag⟩
open Tr (Vz GrS)
def Zes:List ByteArray:=(Q7 [] (Vz 0 1 1 5)).1
def Zcm:List ByteArray:=(Q7 Zes (Vz 2 2 1 7)).1
def chC:List Zf:=(Q4 Zcm [2,4] [Vz 0 1 1 5,Vz 2 2 1 7] 4).2
theorem ch1:Q7 [] (Vz 0 1 1 5)=(Zes,2,[1],0):=by kernel_rfl
theorem ch2:Q7 Zes (Vz 2 2 1 7)=(Zcm,4,[3],0):=by kernel_rfl
theorem ch3:Tr.addE [] [] 2 (Vz 0 1 1 5)=([2],[Vz 0 1 1 5],0):=by kernel_rfl
theorem ch4:Tr.addE [2] [Vz 0 1 1 5] 4 (Vz 2 2 1 7)=([2,4],[Vz 0 1 1 5,Vz 2 2 1 7],0):=by kernel_rfl
theorem ch5:Q4 Zcm [2,4] [Vz 0 1 1 5,Vz 2 2 1 7] 4=(0,chC):=by kernel_rfl
theorem ch6:chC.length=2:=by kernel_rfl
theorem ch7:Zeh [2,4] [Vz 0 1 1 5,Vz 2 2 1 7] 2 4=(1,0):=by kernel_rfl
theorem En{W W':World}{t:Nat}{cs:List Value}{ty:TypeId}(hv:∀ v∈cs,∃ a n c,v = F a n c)(ht:W.heap[t]? = some (dW cs.toArray ty (0,0)))(hg:Gr W W' (λq=>q=t)){a n K}(h:Bk.TextsAt W a n K):Bk.TextsAt W' a n K:=by
 refine⟨h.1,λh0=>?_⟩;obtain⟨b,off,rfl,z⟩:=h.2 h0;refine⟨b,off,rfl,λi hi=>hg.cell (z i hi) ?_⟩;intro q;have q:b=t:=q;subst q;have:=z i hi;simp only[World.cell?,ht] at this;have e:cs[off+i]? = some (.string K[i]):=by simpa using this
 obtain⟨a',n',c',O⟩:=hv _ (List.mem_of_getElem? e);cases O
def BkS(w:World)(t:Nat)(K:List ByteArray)(W:World):Prop:=
 ∃ a n c,W.heap[t]? = some (dW [F a n c].toArray 24 (0,0))/\Bk.TextsAt W a n K/\ZD w W/\w.heap.size<=t
theorem Zja{w W w2:World}{t:Nat}{K O}(h:BkS w t K W)(z:ZD W w2){a n c}(hK:Bk.TextsAt w2 a n O):BkS w t O (w2.setCell ⟨t,0,none⟩ (F a n c)):=by
 obtain⟨a0,n0,c0,h1,h2,h3,h4⟩:=h;have h5:=ZE z h1;have hg:=(Gr.refl w2 (λq=>q=t)).one t 0 (.inl rfl) (F a n c);refine⟨a,n,c,Tr.set_cells h5 0 _,En (λv hv=>by simp at hv;exact⟨_,_,_,hv⟩) h5 hg hK,hg.below (Ze h3 z) (by have:=h3.size;have:=z.size;omega) (λq e=>by omega),h4⟩
theorem BkS.later{w W W':World}{t:Nat}{K}(h:BkS w t K W)(z:ZD W W'):BkS w t K W':=by
 obtain⟨O,n0,c0,h1,h2,h3,h4⟩:=h;exact⟨O,n0,c0,ZE z h1,h2.later z,Ze h3 z,h4⟩
theorem BkS.gr{w W W':World}{t u:Nat}{K}{cs:List Value}{ty:TypeId}(h:BkS w t K W)(hv:∀ v∈cs,∃ a n c,v = F a n c)(hu:W.heap[u]? = some (dW cs.toArray ty (0,0)))(aa:t≠u)(hw:w.heap.size<=u)(z:Gr W W' (λq=>q=u)):BkS w t K W':=by
 obtain⟨O,n0,c0,h1,h2,h3,h4⟩:=h;exact⟨O,n0,c0,z.heap h1 aa,En hv hu z h2,z.below h3 h3.size (λq e=>by omega),h4⟩
theorem Zcl(w:World)(hE:Env w):ZH 10 #[] w (eA true):=by
 have bz:SlOk none 0 0:=Wd;have HE:=Zb hE;have S1:=Zb (Tr.simple_is 0 1 1 5 w);have S2:=Zb (λW=>Tr.simple_is 2 2 1 7 W);have S3:=Zb (λW=>Tr.simple_is 0 1 1 5 W);have N1:=Zb (λW (hw:ZD w W) a c (h:TxsAt W a 1 [(1,[],[(5,[])])])=>Hl none 0 0 [] 0 1 1 0 a 1 c [(1,[],[(5,[])])] Zes 2 [1] 0 W (hE.later hw) ⟨rfl,λh=>absurd h (by omega)⟩ h ch1);have N2:=Zb (λW (hw:ZD w W) ka kn kc a c (hk:Bk.TextsAt W ka kn Zes) (h:TxsAt W a 1 [(2,[],[(7,[])])])=>Hl ka kn kc Zes 2 2 1 0 a 1 c [(2,[],[(7,[])])] Zcm 4 [3] 0 W (hE.later hw) hk h ch2);have A1:=Zb (λW a c (h:TxsAt W a 1 [(1,[],[(5,[])])]) (hs:SlOk a 1 c)=>Tr.add_is none none 0 0 0 0 [] [] 2 0 1 1 0 a 1 c [(1,[],[(5,[])])] [2] [Vz 0 1 1 5] 1 0 W (Tr.IntsAt.nil _ _) (RowsAt.nil _ _) bz bz h hs ch3 rfl);have A2:=Zb (λW z c1 O c2 a c (h1:Tr.IntsAt W z 1 [2]) (h2:Tr.BlksAt W O 1 [Vz 0 1 1 5]) (s1:SlOk z 1 c1) (s2:SlOk O 1 c2) (h:TxsAt W a 1 [(2,[],[(7,[])])]) (hs:SlOk a 1 c)=>Tr.add_is z O 1 c1 1 c2 [2] [Vz 0 1 1 5] 4 2 2 1 0 a 1 c [(2,[],[(7,[])])] [2,4] [Vz 0 1 1 5,Vz 2 2 1 7] 2 0 W h1 h2 s1 s2 h hs ch4 rfl);have B1:=Zb (λW (hw:ZD w W) ka kn kc z c1 O c2 (hk:Bk.TextsAt W ka kn Zcm) (h1:Tr.IntsAt W z 2 [2,4]) (h2:Tr.BlksAt W O 2 [Vz 0 1 1 5,Vz 2 2 1 7]) (s1:SlOk z 2 c1) (s2:SlOk O 2 c2)=>Zmv ka kn kc Zcm z O 2 c1 2 c2 _ _ 4 0 chC W (hE.later hw) hk h1 h2 s1 s2 ch5)
 have B2:=Zb (λW z c1 O c2 (h1:Tr.IntsAt W z 2 [2,4]) (h2:Tr.BlksAt W O 2 [Vz 0 1 1 5,Vz 2 2 1 7]) (s1:SlOk z 2 c1) (s2:SlOk O 2 c2)=>Zeg z O 2 c1 2 c2 _ _ 2 4 1 0 W h1 h2 s1 s2 ch7);clear bz hE;go_enter func10,ntmps10;go_wp2_with fail;refine S1.mono ?_;rintro e w1 ⟨a,c,rfl,co,el,br⟩;have CA:=Zb (N1 w1 br a c co);have ce:=Zb br;clear co el br;go_wp2_with fail;refine CA.mono ?_;rintro e w2 ⟨ka,kn,kc,na,nn,nc,rfl,cl,fc,eh,ej,bs⟩;have ah:=Zg w2 (dW #[F ka kn kc] 24);have SB:Hid (BkS w w2.heap.size Zes (w2.alloc (dW #[F ka kn kc] 24))):=⟨ka,kn,kc,heap_alloc_new _ _,cl.later ah,Ze (Ze ce bs) ah,aT ce.size bs.size⟩;obtain⟨t,ht⟩:=ZG (w2.heap.size);obtain⟨X,hX⟩:=ZG (w2.alloc (dW #[F ka kn kc] 24));rw[<-hX,<-ht] at SB;clear cl fc eh ej bs ah
 go_upto_region 2 with fail
 rw[<-hX,<-ht];clear hX ht
 go_cut [5,6,7] from 23 to 31 (λs5 s6 s7 wx=>s5 = E J 4/\(∃ qa qn qc,s6 = F qa qn qc)/\s7 = E J 0/\Hid (BkS w t Zcm wx))
 case first=>
  obtain⟨ka,kn,kc,hx,hK,ai,bd⟩:=Za SB;have x0:=Zd hx 0 _ rfl;have xl:=aA hx;have HX:=Zb hx;have HK:=Zb hK;have ao:=Zb ai;clear hx hK ai
  go_region_with (first
   | (go_at_call 38;refine (S2 _).mono ?_;rintro e w4 ⟨a4,c4,rfl,av,bc,aw⟩;have ax:=Ze (Zh _) aw;have h4:=ZE ax HX;have y0:=Zd h4 0 _ rfl;have yl:=aA h4;have CN:=Zb (N2 w4 (Ze ao ax) ka kn kc a4 c4 (HK.later ax) av);have H4:=Zb h4;have an:=Zb ax;clear av bc aw ax h4)
   | (go_at_call 37;refine CN.mono ?_;rintro e w5 ⟨fq,fu,er,fw,ga,fy,rfl,cm,fd,ei,ek,aj⟩;have h5:=ZE aj H4;have z0:=Zd h5 0 _ rfl;have fk:=Zi h5 0;have zl:=aA h5;have HN:=Zb (Zja (c:=er) SB (Ze an aj) cm);clear cm fd ei ek aj h5))
  all_goals
   go_wp2_with fail;go_meet
   case rel=>exact⟨rfl,⟨_,_,_,rfl⟩,rfl,HN⟩
 case rest=>
  obtain⟨rfl,⟨qa,qn,qc,rfl⟩,rfl,HS⟩:=hcut;have eo:=HS;obtain⟨fp,ft,fs,en,_,cu,fo⟩:=eo;have dt:=Zb cu;clear en cu;go_wp2_with fail;refine (S3 _).mono ?_;rintro e w4 ⟨a,c,rfl,av,bc,aw⟩;have CA:=Zb (A1 w4 a c av bc);have an:=Zb aw;clear av bc aw;go_wp2_with fail;refine CA.mono ?_;rintro e w5 ⟨z,c1,O,c2,rfl,bo,s1,s2,aj⟩;have ah:=Zg w5 (dW #[F z 1 c1,F O 1 c2] 28);have bx:=Ze dt (Ze an aj)
  have ST:Hid (GrS w w5.heap.size [2] [Vz 0 1 1 5] 1 (w5.alloc (dW #[F z 1 c1,F O 1 c2] 28))):=
   ⟨z,c1,O,c2,Tr.two_heap _ _ _ _,bo.now.1.later ah,bo.now.2.later ah,s1,s2,Ze bx ah,bx.size⟩
  have SK:=Zb (HS.later (Ze (Ze an aj) ah))
  have cw:t≠w5.heap.size:=by
   obtain⟨_,_,_,q,_⟩:=HS.later (Ze an aj);have:=aA q;omega
  obtain⟨u,hu⟩:=ZG (w5.heap.size);obtain⟨Y,hY⟩:=ZG (w5.alloc (dW #[F z 1 c1,F O 1 c2] 28));rw[<-hY,<-hu] at ST;rw[<-hY] at SK;rw[<-hu] at cw;clear bo s1 s2 aj ah bx
  go_upto_region 4 with fail
  rw[<-hY,<-hu];clear hY hu
  go_cut [10] from 39 to 46 (λew wx=>ew = E J 0/\Hid (GrS w u [2,4] [Vz 0 1 1 5,Vz 2 2 1 7] 2 wx)/\Hid (BkS w t Zcm wx))
  case first=>
   obtain⟨z,c1,O,c2,hx,hi,al,s1,s2,ai,bd⟩:=Za ST;have x0:=Zd hx 0 _ rfl;have x1:=Zd hx 1 _ rfl;have xl:=aA hx;have HX:=Zb hx;have HI:=Zb hi;have HK:=Zb al;have bi:=Zb s1;have bj:=Zb s2;have ao:=Zb ai;clear hx hi al s1 s2 ai ST
   go_region_with (first
    | (go_at_call 38;refine (S2 _).mono ?_;rintro e w6 ⟨a6,c6,rfl,cp,cx,cq⟩;have ak:=Ze (Zh _) cq;have h6:=ZE ak HX;have y0:=Zd h6 0 _ rfl;have y1:=Zd h6 1 _ rfl;have yl:=aA h6;have CA:=Zb (A2 w6 _ _ _ _ a6 c6 (HI.later ak) (HK.later ak) bi bj cp cx);have dq:=Zb (Ze ao ak);have ea:=Zb (SK.later ak);have H6:=Zb h6;clear cp cx cq ak h6)
    | (go_at_call 39;refine CA.mono ?_;rintro e w7 ⟨b1,d1,b2,d2,rfl,ci,t1,t2,bb⟩;have h7:=ZE bb H6;have z0:=Zd h7 0 _ rfl;have z1:=Zd h7 1 _ rfl;have fk:=Zi h7 0;have gg:=Zi h7 1;have zl:=aA h7;have HN:=Zb (Tr.grS_store dq bd yl h7 ci t1 t2 bb);have HM:=Zb (BkS.gr (ea.later bb) (λv hv=>by simp at hv;rcases hv with rfl|rfl <;> exact⟨_,_,_,rfl⟩) h7 cw bd (((Gr.refl w7 (λq=>q=u)).one u 0 (.inl rfl) (F b1 2 d1)).one u 1 (.inl rfl) (F b2 2 d2)));clear ci t1 t2 bb h7))
   all_goals
    go_wp2_with fail;go_meet
    case rel=>exact⟨rfl,HN,HM⟩
  case rest=>
   obtain⟨rfl,HG,HS⟩:=hcut;obtain⟨z,c1,O,c2,hx,hi,al,s1,s2,ai,bd⟩:=Za HG;obtain⟨eq,eu,es,bu,cn,_,_⟩:=Za HS;have x0:=Zd hx 0 _ rfl;have x1:=Zd hx 1 _ rfl;have xl:=aA hx;have k0:=Zd bu 0 _ rfl;have kl:=aA bu;have CB:=Zb (B1 _ ai eq eu es z c1 O c2 cn hi al s1 s2);have HX:=Zb hx;have HI:=Zb hi;have HK:=Zb al;have bi:=Zb s1;have bj:=Zb s2;have ao:=Zb ai;clear hx hi al s1 s2 ai bu cn;go_wp2_with fail;refine CB.mono ?_;rintro e w8 ⟨oa,ev,oc,rfl,cg,fb,ay⟩;have h8:=ZE ay HX;have CP:=Zb (B2 w8 z c1 O c2 (HI.later ay) (HK.later ay) bi bj);have y0:=Zd h8 0 _ rfl;have y1:=Zd h8 1 _ rfl;have yl:=aA h8;have dr:=Zb (Ze ao ay);obtain rfl:2=ev:=(by rw[<-cg.1];exact ch6.symm);clear ay h8 x0 x1 xl k0 kl cg fb;go_wp2_with fail;refine CP.mono ?_;rintro e w9 ⟨rfl,ct⟩;have ds:=Zb (Ze dr ct);clear ct;go_wp2;go_ret;exact⟨rfl,Za ds⟩
open Bk (Right nm Ks)
def doD(h:Int)(s:List ByteArray×List Zf)(t:TxD):Int×List ByteArray×List Zf:=
 if Zr t≠0 then (Zr t,s) else if t.2.1.length=0 then (4,s) else
 if (Ks s.1 (txT t)).2.2≠0 then ((Ks s.1 (txT t)).2.2,s) else
 if (apD s.2 t (Ks s.1 (txT t)).2.1 h).1≠0 then ((apD s.2 t (Ks s.1 (txT t)).2.1 h).1,s) else
 (0,(Ks s.1 (txT t)).1,(apD s.2 t (Ks s.1 (txT t)).2.1 h).2.1)
def Zju(h:Int):List TxD->List ByteArray×List Zf->List TxD×List ByteArray×List Zf
 | [],s=>([],s)
 | t :: l,s=>if (doD h s t).1=0 then (t :: (Zju h l (doD h s t).2).1,(Zju h l (doD h s t).2).2) else Zju h l s
open Go.RowKit Go.Shelf
def Zrh(w:World)(p:Nat)(K:List ByteArray)(C:List Zf)(h:Int):Prop:=
 ∃ z O kc la ln lc,w.heap[p]? = some (dW #[F z O kc,F la ln lc,E J h] 116 (0,0))/\Bk.TextsAt w z O K/\SlOk z O kc/\CoinsAt w la ln C/\SlOk la ln lc
def DoT(w':World)(B p:Nat)(K:List ByteArray)(C:List Zf)(h:Int):Prop:=
 ∃ z O kc la ln lc,w'.heap[p]? = some (dW [F z O kc,F la ln lc,E J h].toArray 116 (0,0))/\Fresh B w' (λw2=>Bk.TextsAt w2 z O K/\CoinsAt w2 la ln C)/\SlOk z O kc/\SlOk la ln lc
theorem DoT.till{w}{B p:Nat}{K C}{h:Int}(d:DoT w B p K C h):Zrh w p K C h:=by
 obtain⟨z,kn,O,la,ln,lc,h1,h2,h3,h4⟩:=d;have h5:=h2 w (Gr.refl _ _);exact⟨z,kn,O,la,ln,lc,h1,h5.1,h3,h5.2,h4⟩
theorem DoT.on{w w':World}{B p:Nat}{K C}{h:Int}(d:DoT w B p K C h)(g:Gr w w' (λq=>q<B))(z:w'.heap[p]? = w.heap[p]?):DoT w' B p K C h:=by
 obtain⟨O,kn,kc,la,ln,lc,h1,h2,h3,h4⟩:=d;exact⟨O,kn,kc,la,ln,lc,z.trans h1,λw2 g2=>h2 w2 (g.trans g2),h3,h4⟩
theorem DoT.later{w w':World}{B p:Nat}{K C}{h:Int}(d:DoT w B p K C h)(z:ZD w w'):DoT w' B p K C h:=by
 have O:p<w.heap.size:=by obtain⟨ka,kn,kc,la,ln,lc,h1,_⟩:=d;exact aA h1
 exact d.on (Gr.of z) (z.block p O)
theorem DoT.less{w}{B z p:Nat}{K C}{h:Int}(d:DoT w B p K C h)(O:z<=B):DoT w z p K C h:=by
 obtain⟨ka,kn,kc,la,ln,lc,h1,h2,h3,h4⟩:=d;exact⟨ka,kn,kc,la,ln,lc,h1,λw2 g2=>h2 w2 (g2.mono λ_ _ q=>aI q O),h3,h4⟩
open Bk (Right nm Ks)
def swT(h:Int):List TxD->List ByteArray×List Zf->List (TxD×List Zf)
 | [],_=>[]
 | t :: l,s=>if (doD h s t).1=0 then (t,(doD h s t).2.2) :: swT h l (doD h s t).2 else swT h l s
def Zfz(C:List Zf)(X:List (TxD×List Zf)):List Zf:=(X.getLast?.map (·.2)).getD C
def U6:Zj:=(0,0,0,0,[])
structure Keep(f:Nat)(caps:Array Value)(w0:World)(C0:List Zf)(D0:Nat->Prop)(I:Nat->(Nat->Prop)->World->List (TxD×List Zf)->Prop):Prop where
 enters:∀ args w,(callFunc f args).run aB w = .ok (.enter f args) w
 start:∀ p w,ZD w0 w->w0.heap.size<=p->p<w.heap.size->I p D0 w []
 dirty:∀ p D w X,I p D w X->∀ q,D q->q≠p/\q<w.heap.size/\(D0 q\/w0.heap.size<=q)
 on:∀ p D w w' X,I p D w X->Gr w w' (λq=>q=p)->I p D w' X
 call:∀ p D wA w X t C' u0 u1 u2,I p D wA X->ZD wA w->Fresh wA.heap.size w (λw2=>Tr.txR.C w2 [u0,u1,u2] t)->Zy (Zfz C0 X)->Zy C'->Yg C'<=Yg (Zfz C0 X)->X.length<8 ->
  Calls aB f (#[.agg #[u0,u1,u2],E J (Yg (Zfz C0 X) - Yg C')]++caps) w λe w'=>e = dX (dY #[])/\Gr w w' D/\∃ D',I p D' w' (X++[(t,C')])
structure SwS(w0 wr:World)(h:Int)(D0:Nat->Prop)(I:Nat->(Nat->Prop)->World->List (TxD×List Zf)->Prop)(s0:List ByteArray×List Zf)(L:List TxD)(p k:Nat):Prop where
 gr:Gr w0 wr D0
 all:∃ B D K C X,w0.heap.size<=B/\DoT wr B p K C h/\I p D wr X/\Bk.Right K/\Zy C/\Zfz s0.2 X=C/\X.length<=k/\swT h L s0=X++swT h (L.drop k) (K,C)/\(Zju h L s0).2=(Zju h (L.drop k) (K,C)).2
theorem Gr.far{w O w2:World}{S T:Nat->Prop}(h:Gr w O S)(k:Gr O w2 T)(hT:∀ q,T q->w.heap.size<=q\/S q):Gr w w2 S:=
 ⟨k.os.trans h.os,k.tape.trans h.tape,k.output.trans h.output,aT h.size k.size,λi hi z=>(k.block i (aI hi h.size) (λq=>by
  rcases hT i q with q|q
  ·omega
  ·exact z q)).trans (h.block i hi z)⟩
structure PSt(b p:Nat)(w:World)(v:Value)(K:List (List Value))(L:List TxD):Prop where
 box:w.heap[b]? = some (dW #[v] 48 (0,0))
 own:w.ownsRow (p+1) 52 3 v L.length K.flatten
 kept:∀ w2,Gr w w2 (λq=>q<=p\/v.ownBlock=some q)->Tr.AllC Tr.txR w2 K L
 bp:b<p
 pl:p<w.heap.size
theorem PSt.start{b p:Nat}{w:World}(h:w.heap[b]? = some (dW #[F none 0 0] 48 (0,0)))(bp:b<p)(pl:p<w.heap.size):PSt b p w (F none 0 0) [] []:=
 ⟨h,⟨rfl,.inl ⟨rfl,rfl⟩⟩,λ_ _=>⟨rfl,λi h1 _=>absurd h1 (by simp)⟩,bp,pl⟩
theorem PSt.on{b p:Nat}{w w' v K L}{S:Nat->Prop}(h:PSt b p w v K L)(g:Gr w w' S)(z:∀ q,S q->q<=p/\q≠b):PSt b p w' v K L:=
 ⟨g.heap h.box (λe=>(z b e).2 rfl),g.own h.own (λk O e=>by have:=(h.own.lt k O).1;have:=(z k e).1;omega),
  λw2 g2=>h.kept w2 ((g.mono (λq _ e=>.inl (z q e).1)).trans g2),h.bp,aI h.pl g.size⟩
