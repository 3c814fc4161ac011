import Derived.Test.YtmomfkikogbdeaaGreatDoorH
import Derived.Test.YtmomfkikogbdeaaGreatDoorG11
import Derived.Deep.CutRange
open Go.Ending renaming returned->dA
open Go.IntKind renaming i64->J
open Go.Obj renaming cells->cZ
open Go.Value renaming int->E,slice->F,pointer->dC,bool->dD
open Go.World renaming block_lt_of_cell?->aE
open List renaming drop_eq_getElem_cons->aI
set_option maxHeartbeats 12800000
set_option maxRecDepth 10000
namespace Go.Proofs.YtmomfkikogbdeaaGreatDoor
open Go.RowKit
theorem Gr.trans2{w Q w2:World}{S T:Nat->Prop}(h:Gr w Q S)(k:Gr Q w2 T)(hT:∀ k,k<w.heap.size->T k->S k):Gr w w2 S:=
 ⟨k.os.trans h.os,k.tape.trans h.tape,k.output.trans h.output,Nat.le_trans h.size k.size,λi hi z=>(k.block i (Nat.lt_of_lt_of_le hi h.size) (λq=>z (hT i hi q))).trans (h.block i hi z)⟩
theorem Ra(h:Int)(ai ao)(ni ci no co:Nat)(r:Bool)(w:World)(z:decide (ni=0)=r) :
  ZH 204 #[.agg #[E J h,F ai ni ci,F ao no co]] w (dD r):=by
 have Q:=Zd (Zh w (cZ #[E J h,F ai ni ci,F ao no co] 59));by_cases h0:ni=0
 ·have e:r=true:=by rw[<-z];exact decide_eq_true h0
  subst e;subst h0;clear z;go_enter Tryz.func204,Tryz.ntmps204;go_wp2;go_ret;exact⟨rfl,Za Q⟩
 ·have e:r=false:=by rw[<-z];exact decide_eq_false h0
  subst e;have g:((ni:Int) == 0)=false:=by simp[h0]
  clear z;go_enter Tryz.func204,Tryz.ntmps204;go_wp2;go_ret;exact⟨rfl,Za Q⟩
theorem Zhl{name h:Int}{r:Bool}{O:List Zy}{k:Nat}(Q:k<O.length)(L)(z:Y3 (name,(k:Int)) L=false):Z8 name h r k (O.drop k) L=Z8 name h r (k+1) (O.drop (k+1)) (Ps (Tu name k O[k] h r) L):=by
 rw[aI Q,Z8,if_neg (by rw[z];decide)]
theorem Zhk{name h:Int}{r:Bool}{O:List Zy}{k:Nat}(Q:k<O.length)(L)(z:Y3 (name,(k:Int)) L=true):Z8 name h r k (O.drop k) L=(6,[]):=by
 rw[aI Q,Z8,if_pos z]
theorem Zbw{name h:Int}{r:Bool}{O:List Zy}{k:Nat}(z:O.length<=k)(L):Z8 name h r k (O.drop k) L=(0,L):=by
 rw[List.drop_of_length_le z,Z8]
def Given(w0 w w':World)(p:Nat)(v:Value)(n:Nat)(M:List Zj):Prop:=
 ∃ (v':Value) (K':List CV),K'.map (·.1)=M/\Srt M/\K'.length<=n/\Pu w0 w' p v' K'/\Gr w w' (PuS p v)
theorem Zfl{w:World}{b:Nat}{t:TypeId}(h:w.heap[b]? = some (cZ zeroCs.toArray t (0,0)))(z Q a2 a3 a4 a5):((((((w.setCell ⟨b,0,none⟩ z).setCell ⟨b,1,none⟩ Q).setCell ⟨b,2,none⟩ a2).setCell ⟨b,3,none⟩ a3).setCell ⟨b,4,none⟩ a4).setCell ⟨b,5,none⟩ a5).heap[b]? = some (cZ [z,Q,a2,a3,a4,a5].toArray t (0,0)):=by
 have one:∀ {w:World} {X:Array Value} (i:Nat) (a:Value),w.heap[b]? = some (cZ X t (0,0))->(w.setCell ⟨b,i,none⟩ a).heap[b]? = some (cZ (X.setIfInBounds i a) t (0,0)):=fun {w X} i a hw=>by
  rw[setCell_eq_setRow w b i X t (0,0) a hw];exact setRow_heap w b _ _ t _ hw
 exact one 5 a5 (one 4 a4 (one 3 a3 (one 2 a2 (one 1 Q (one 0 z h)))))
def Zmw(wr:World)(name h y1:Int)(k:Nat)(z:Option Addr)(ln Q:Nat)(r:Bool)(aa ab:Value)(wx:World):Prop:=
 ∃ m:Nat,aa = dC (some ⟨m,0,none⟩)/\ab = E J k/\Hid (ZD wr wx)/\m<wx.heap.size/\wx.cell? ⟨m,0,none⟩=some (E J name)/\wx.cell? ⟨m,1,none⟩=some (E J k)/\wx.cell? ⟨m,2,none⟩=some (E J y1)/\wx.cell? ⟨m,3,none⟩=some (F z ln Q)/\wx.cell? ⟨m,4,none⟩=some (E J h)/\wx.cell? ⟨m,5,none⟩=some (dD r)
theorem cut_a{wr w3:World}{name h y1:Int}{k:Nat}{z}{ln Q:Nat}{r:Bool}(hb:ZD wr w3) :
  Zmw wr name h y1 k z ln Q r (dC (some ⟨w3.heap.size,0,none⟩)) (E J k) (w3.alloc (cZ #[E J name,E J k,E J y1,F z ln Q,E J h,dD r] 124)):=by
 obtain⟨c0,c1,c2,c3,c4,c5⟩:=Dz w3 (E J name) (E J k) (E J y1) (F z ln Q) (E J h) (dD r) 124;exact⟨w3.heap.size,rfl,rfl,Zf hb (Zh _ _),by simp,c0,c1,c2,c3,c4,c5⟩
theorem Zii{B:Nat}{a w:World}(h:Below B a w)(b:Nat)(z:B<=b)(Q a1 a2 a3 a4 a5):Below B a ((((((w.setCell ⟨b,0,none⟩ Q).setCell ⟨b,1,none⟩ a1).setCell ⟨b,2,none⟩ a2).setCell ⟨b,3,none⟩ a3).setCell ⟨b,4,none⟩ a4).setCell ⟨b,5,none⟩ a5):=
 (((((h.setCell (p:=⟨b,0,none⟩) z Q).setCell (p:=⟨b,1,none⟩) z a1).setCell (p:=⟨b,2,none⟩) z a2).setCell (p:=⟨b,3,none⟩) z a3).setCell (p:=⟨b,4,none⟩) z a4).setCell (p:=⟨b,5,none⟩) z a5
theorem cut_b{wr w3:World}{name h y1:Int}{k:Nat}{z}{ln Q:Nat}{r:Bool}{b:Nat}(hb:ZD wr w3)(hz:w3.heap[b]? = some (cZ zeroCs.toArray 124 (0,0)))(hl:wr.heap.size<=b) :
  Zmw wr name h y1 k z ln Q r (dC (some ⟨b,0,none⟩)) (E J k) ((((((w3.setCell ⟨b,0,none⟩ (E J name)).setCell ⟨b,1,none⟩ (E J k)).setCell ⟨b,2,none⟩ (E J y1)).setCell ⟨b,3,none⟩ (F z ln Q)).setCell ⟨b,4,none⟩ (E J h)).setCell ⟨b,5,none⟩ (dD r)):=by
 have hq:=Zfl hz (E J name) (E J k) (E J y1) (F z ln Q) (E J h) (dD r);exact⟨b,rfl,rfl,Zii hb b hl _ _ _ _ _ _,lt_of_block hq,Zb hq 0 _ rfl,Zb hq 1 _ rfl,Zb hq 2 _ rfl,Zb hq 3 _ rfl,Zb hq 4 _ rfl,Zb hq 5 _ rfl⟩
theorem Zow(w0 w:World)(p:Nat)(v)(K:List CV)(ht:Int)(ai ao)(ni ci no co:Nat)(O)(name h:Int)(r:Bool)(x:Int)(M)(hP:Pu w0 w p v K)(hs:Srt (K.map (·.1)))(hn:K.length+no<=4096)(hO:OutsAt w0 ao no O)(ew:no<=6)(hr:decide (ni=0)=r)(hx:Z8 name h r 0 O (K.map (·.1))=(x,M)) :
  Calls Tryz.prog 148 #[dC (some ⟨p,0,none⟩),.agg #[E J ht,F ai ni ci,F ao no co],E J name,E J h] w λe w'=>e = dA (E J x)/\ZD w0 w'/\(x=0->Given w0 w w' p v (K.length+no) M):=by
 have hB:w0.heap.size<=w.heap.size:=hP.bel.size;have ey:p<w.heap.size:=hP.lt;obtain⟨X0,cn,bf,be⟩:=ka00 w [E J ht,F ai ni ci,F ao no co] 59;have x2:=Zb be 2 _ rfl;have ST:Hid (Pu w0 X0 p v K):=hP.kept bf;have IR:=Zd (λw=>Ra ht ai ao ni ci no co r w hr);have dc:=Zd (λk hk=>(hP.own.lt k hk).2);obtain⟨HS,HO,HZ,HX,dd,cz⟩:=kh6 hs hO hO.1 hx be bf;clear hP hs hO hr hx be bf;go_enter Tryz.func148,Tryz.ntmps148;go_wp2;rw[<-cn];clear cn
 go_loopw [15] (λi wr=>∃ (k:Nat) (K':List CV) (v':Value),k<=no/\i = E J k/\Hid (Z8 name h r 0 O (K.map (·.1))=Z8 name h r k (O.drop k) (K'.map (·.1)))/\Hid (Srt (K'.map (·.1)))/\K'.length<=K.length+k/\Hid (Pu w0 wr p v' K')/\Hid (Gr w wr (PuS p v))/\Hid (v'.ownBlock=v.ownBlock\/∀ k,v'.ownBlock=some k->w.heap.size<=k) /\
  Hid (wr.heap[w.heap.size]? = some (cZ [E J ht,F ai ni ci,F ao no co].toArray 59 (0,0)))/\Hid (v'.ownBlock≠some w.heap.size)) (λi _=>no - (intOf i).toNat)
 case atStart=>exact⟨0,K,v,Nat.zero_le _,rfl,rfl,HS,Nat.le_refl _,ST,Gr.of cz,Or.inl rfl,dd,(λe=>by have:=dc _ e;omega:v.ownBlock≠some w.heap.size)⟩
 case round=>
  obtain⟨k,K',v',hk,rfl,A,ap,dk,af,HG,HV,HT,bx⟩:=hrel;clear ST HS x2;obtain⟨t0,t1,t2,-⟩:=kc3 HT;have dr:w.heap.size<wr.heap.size:=lt_of_block HT;by_cases dq:k<no
  ·have bi:k<O.length:=(by rw[Za HZ];exact dq);obtain⟨b,off,rfl,es,dn⟩:=HO.2 (by omega);have cp:=dn k bi;obtain⟨E1,E2⟩:=kh2 (Zhk (name:=name) (h:=h) (r:=r) bi (K'.map (·.1))) (Zhl (name:=name) (h:=h) (r:=r) bi (K'.map (·.1)));obtain⟨y,hy⟩:=ZF (O[k]);rw[hy] at cp E2;obtain⟨Q,lk⟩:=y;obtain⟨cf,la,ln,lc,cg,g4,g5⟩:=cp;have g1:=Ze af.bel cf;have g2:=Ze af.bel cg;simp only at g1 g2 g4
   have cd:Hid (∀ W,ZD wr W->(Y3 (name,(k:Int)) (K'.map (·.1))=true->Calls Tryz.prog 207 #[dC (some ⟨p,0,none⟩),.agg #[E J name,E J k,E J Q,F la ln lc,E J h,dD r]] W λe w'=>e = dA (dD false)/\ZD W w') /\
     (Y3 (name,(k:Int)) (K'.map (·.1))=false->Calls Tryz.prog 207 #[dC (some ⟨p,0,none⟩),.agg #[E J name,E J k,E J Q,F la ln lc,E J h,dD r]] W λe w'=>∃ (am:Value) (ac:List CV),e = dA (dD true)/\ac.map (·.1)=Ps (Tu name k (Q,lk) h r) (K'.map (·.1))/\ac.length=K'.length+1/\Pu w0 w' p am ac/\Gr W w' (PuS p v')/\(am.ownBlock=v'.ownBlock\/∀ k,am.ownBlock=some k->W.heap.size<=k))):=by
    intro W hW;have cm:=af.kept hW;constructor
    ·intro hf;exact Znv w0 W p v' K' ((name,(k:Int),Q,lk,h,r),la,ln,lc) cm ap (by omega) hf
    ·intro hf;refine (Zjs w0 W p v' K' ((name,(k:Int),Q,lk,h,r),la,ln,lc) cm ap (by omega) hf ⟨g4,g5⟩).mono ?_;rintro e w' ⟨am,ac,h1,h2,_,h3,h4,h5,h6⟩;exact⟨am,ac,h1,h2,h3,h4,h5,h6⟩
   obtain⟨X,hX⟩:=ZG (wr.alloc (cZ #[E J Q,F la ln lc] 122));have ak:ZD wr X:=(by rw[hX];exact Zh _ _);obtain⟨o0,o1⟩:=Yc wr (E J Q) (F la ln lc) 122;rw[<-hX] at o0 o1;have s0:=Ze ak t0;have s1:=Ze ak t1;have s2:=Ze ak t2;have dm:wr.heap.size<X.heap.size:=aE _ _ o0;have er:w.heap.size<X.heap.size:=(by omega);have bu:=Zd ak;clear ak cf cg g4 g5 hy
   go_upto_region 4 with fail
   rw[<-hX];clear hX t0 t1 t2 g1 g2
   go_cut [11,15] from 15 to 32 (λec ed wx=>Zmw wr name h Q k la ln lc r ec ed wx)
   case first=>
    go_region_with (go_at_call 204;refine (IR _).mono ?_;rintro e w3 ⟨rfl,aa⟩;first
     | (have z:w3.heap[X.heap.size]? = some (cZ zeroCs.toArray 124 (0,0)):=(aa.block X.heap.size (by simp)).trans (heap_alloc_new X _);have c0:=Zb z 0 _ rfl;have c1:=Zb z 1 _ rfl;have c2:=Zb z 2 _ rfl;have c3:=Zb z 3 _ rfl;have c4:=Zb z 4 _ rfl;have c5:=Zb z 5 _ rfl;have f0:=Zg z 0;have f1:=Zg z 1;have f2:=Zg z 2;have f3:=Zg z 3;have f4:=Zg z 4;have f5:=Zg z 5;have dp:=lt_of_block z;have o2:w3.cell? ⟨wr.heap.size,0,none⟩=some (E J Q):=Ze aa (Ze (Zi _) (Ze (Zh X _) o0));have o3:w3.cell? ⟨wr.heap.size,1,none⟩=some (F la ln lc):=Ze aa (Ze (Zi _) (Ze (Zh X _) o1));have aw:Hid (ZD wr w3):=Zf (Zf (Zf bu (Zh X _)) (Zi _)) aa;have bh:wr.heap.size<w3.heap.size:=aE _ _ o2;have de:=Zd z;clear z aa)
     | (have o2:w3.cell? ⟨wr.heap.size,0,none⟩=some (E J Q):=Ze aa (Ze (Zi _) o0);have o3:w3.cell? ⟨wr.heap.size,1,none⟩=some (F la ln lc):=Ze aa (Ze (Zi _) o1);have dp:X.heap.size<=w3.heap.size:=aa.size;have aw:Hid (ZD wr w3):=Zf (Zf bu (Zi _)) aa;have bh:wr.heap.size<w3.heap.size:=aE _ _ o2;clear aa))
    all_goals
     go_wp2_with fail;go_meet
     case rel=>
      first|exact cut_b (w3:=w3) (b:=X.heap.size) aw de (Nat.le_of_lt dm)|exact cut_a (w3:=w3) aw
   case rest=>
    obtain⟨m,rfl,rfl,aj,eu,m0,m1,m2,m3,m4,m5⟩:=hcut;have PW:=Zd (cd wc aj);have TC:Hid (wc.heap[w.heap.size]? = some (cZ [E J ht,F ai ni ci,F (some ⟨b,off,none⟩) no co].toArray 59 (0,0))):=(aj.block _ dr).trans HT;have GC:=Zd (HG.on aj);have ez:wr.heap.size<=wc.heap.size:=aj.size;have et:(k:Int)<(no:Int):=(by omega);clear cd o0 o1 s0 s1 s2;cases hf:Y3 (name,(k:Int)) (K'.map (·.1)) with
    | true=>
     have R:Hid (x=6):=by
      have e:=Za A;rw[(Za E1) hf,Za HX] at e;injection e
     have C:=Zd (PW.1 hf);have bt:=Zd (af.kept aj).bel;clear E1 E2 A PW hf;go_wp2_with fail;refine C.mono ?_;rintro e w4 ⟨rfl,bg⟩;have da:Hid (ZD w0 w4):=Zf bt (bg.mono bt.size |> λq=>⟨q.os,q.tape,q.output,q.size,bg.block⟩);clear bg;go_wp2;go_ret;exact⟨by rw[Za R];rfl,Za da,λe=>absurd e (by rw[Za R];decide)⟩
    | false=>
     have C:=Zd (PW.2 hf)
     have A2:Hid (∀ ac:List CV,ac.map (·.1)=Ps (Tu name k (Q,lk) h r) (K'.map (·.1))->Z8 name h r 0 O (K.map (·.1))=Z8 name h r (k+1) (O.drop (k+1)) (ac.map (·.1))):=λac hK=>by
      rw[Za A,(Za E2) hf,hK]
     clear E1 E2 A PW hf;go_wp2_with fail;refine C.mono ?_;rintro e w4 ⟨v4,K4,rfl,bb,bh,cl,az,bj⟩
     have ct:¬PuS p v' w.heap.size:=by
      rintro (e|e)
      ·omega
      ·exact bx e
     have R:Hid (Hid (Z8 name h r 0 O (K.map (·.1))=Z8 name h r (k+1) (O.drop (k+1)) (K4.map (·.1)))/\Hid (Srt (K4.map (·.1)))/\K4.length<=K.length+(k+1)/\Hid (Pu w0 w4 p v4 K4)/\Hid (Gr w w4 (PuS p v))/\Hid (v4.ownBlock=v.ownBlock\/∀ k,v4.ownBlock=some k->w.heap.size<=k) /\
       Hid (w4.heap[w.heap.size]? = some (cZ [E J ht,F ai ni ci,F (some ⟨b,off,none⟩) no co].toArray 59 (0,0)))/\Hid (v4.ownBlock≠some w.heap.size)):=by
      refine⟨A2 K4 bb,?_,by omega,cl,?_,?_,az.heap TC ct,?_⟩
      ·show Srt _;rw[bb];exact Sg ap
      ·refine GC.trans2 az (λq hq hT=>?_)
       rcases hT with e|e
       ·exact .inl e
       ·rcases Za HV with f|f
        ·exact .inr (by rw[<-f];exact e)
        ·have:=f q e;omega
      ·rcases bj with f|f
       ·rcases Za HV with g|g
        ·exact .inl (by rw[f,g])
        ·exact .inr (λq hq=>g q (by rw[<-f];exact hq))
       ·exact .inr (λq hq=>by have:=f q hq;omega)
      ·intro e
       rcases bj with f|f
       ·exact bx (by rw[<-f];exact e)
       ·have:=f _ e;omega
     clear bb bh cl az bj ct A2;go_wp2;go_roundw
     case rel=>
      obtain⟨r1,r2,r3,r4,r5,r6,r7,r8⟩:=Za R;exact⟨k+1,K4,v4,by omega,by go_num,r1,r2,r3,r4,r5,r6,r7,r8⟩
     case measure=>simp[intOf];omega
  ·have e:k=no:=(by omega);subst e;have R:=Za A;rw[Zbw (by rw[Za HZ];exact Nat.le_refl _),Za HX] at R;have R1:Hid (x=0):=(by show _=_;injection R);have R2:M=K'.map (·.1):=(by injection R);subst R2;clear R A t0 t1 t2;go_wp2;go_ret;exact⟨by rw[Za R1];rfl,af.bel,λ_=>⟨v',K',rfl,Za ap,dk,Za af,Za HG⟩⟩
