import Derived.Test.YtmomfkikogbdeaaGreatDoorH
import Derived.Test.YtmomfkikogbdeaaGreatDoorG12
import Derived.Deep.CutRange
open Go.Ending renaming returned->dF
open Go.IntKind renaming i64->J
open Go.Obj renaming cells->dE
open Go.Value renaming int->E,slice->F,pointer->dH,bool->dI
open Go.World renaming block_lt_of_cell?->aE
open List renaming drop_eq_getElem_cons->aJ
set_option maxHeartbeats 12800000
set_option maxRecDepth 10000
namespace Go.Proofs.YtmomfkikogbdeaaGreatDoor
open Go.RowKit
theorem Gr.trans2{w w1 w2:World}{S T:Nat->Prop}(h:Gr w w1 S)(k:Gr w1 w2 T)(hT:∀ k,k<w.heap.size->T k->S k):Gr w w2 S:=
 ⟨k.os.trans h.os,k.tape.trans h.tape,k.output.trans h.output,Nat.le_trans h.size k.size,λi hi hn=>(k.block i (Nat.lt_of_lt_of_le hi h.size) (λq=>hn (hT i hi q))).trans (h.block i hi hn)⟩
theorem Ju(h:Int)(ai ao)(ni ci no co:Nat)(r:Bool)(w:World)(hr:decide (ni=0)=r) :
  ZH 204 #[.agg #[E J h,F ai ni ci,F ao no co]] w (dI r):=by
 have HB:=Zd (Zh w (dE #[E J h,F ai ni ci,F ao no co] 59));by_cases h0:ni=0
 ·have e:r=true:=by rw[<-hr];exact decide_eq_true h0
  subst e;subst h0;clear hr;go_enter Tryz.func204,Tryz.ntmps204;go_wp2;go_ret;exact⟨rfl,Za HB⟩
 ·have e:r=false:=by rw[<-hr];exact decide_eq_false h0
  subst e;have g:((ni:Int) == 0)=false:=by simp[h0]
  clear hr;go_enter Tryz.func204,Tryz.ntmps204;go_wp2;go_ret;exact⟨rfl,Za HB⟩
theorem Zgs{name h:Int}{r:Bool}{O:List Z3}{k:Nat}(hk:k<O.length)(L)(hf:Wx (name,(k:Int)) L=false):Yc name h r k (O.drop k) L=Yc name h r (k+1) (O.drop (k+1)) (Pb (Pe name k O[k] h r) L):=by
 rw[aJ hk,Yc,if_neg (by rw[hf];decide)]
theorem Zgr{name h:Int}{r:Bool}{O:List Z3}{k:Nat}(hk:k<O.length)(L)(hf:Wx (name,(k:Int)) L=true):Yc name h r k (O.drop k) L=(6,[]):=by
 rw[aJ hk,Yc,if_pos hf]
theorem Zbz{name h:Int}{r:Bool}{O:List Z3}{k:Nat}(hk:O.length<=k)(L):Yc name h r k (O.drop k) L=(0,L):=by
 rw[List.drop_of_length_le hk,Yc]
def Given(w0 w w':World)(p:Nat)(v:Value)(n:Nat)(M:List Zj):Prop:=
 ∃ (v':Value) (K':List CV),K'.map (·.1)=M/\Srt M/\K'.length<=n/\Pu w0 w' p v' K'/\Gr w w' (PuS p v)
theorem Zfe{w:World}{b:Nat}{t:TypeId}(h:w.heap[b]? = some (dE zeroCs.toArray t (0,0)))(a0 a1 a2 a3 a4 a5):((((((w.setCell ⟨b,0,none⟩ a0).setCell ⟨b,1,none⟩ a1).setCell ⟨b,2,none⟩ a2).setCell ⟨b,3,none⟩ a3).setCell ⟨b,4,none⟩ a4).setCell ⟨b,5,none⟩ a5).heap[b]? = some (dE [a0,a1,a2,a3,a4,a5].toArray t (0,0)):=by
 have one:∀ {w:World} {X:Array Value} (i:Nat) (a:Value),w.heap[b]? = some (dE X t (0,0))->(w.setCell ⟨b,i,none⟩ a).heap[b]? = some (dE (X.setIfInBounds i a) t (0,0)):=fun {w X} i a hw=>by
  rw[setCell_eq_setRow w b i X t (0,0) a hw];exact setRow_heap w b _ _ t _ hw
 exact one 5 a5 (one 4 a4 (one 3 a3 (one 2 a2 (one 1 a1 (one 0 a0 h)))))
def Zmc(wr:World)(name h y1:Int)(k:Nat)(la:Option Addr)(ln lc:Nat)(r:Bool)(ac ad:Value)(wx:World):Prop:=
 ∃ m:Nat,ac = dH (some ⟨m,0,none⟩)/\ad = E J k/\Hid (ZD wr wx)/\m<wx.heap.size/\wx.cell? ⟨m,0,none⟩=some (E J name)/\wx.cell? ⟨m,1,none⟩=some (E J k)/\wx.cell? ⟨m,2,none⟩=some (E J y1)/\wx.cell? ⟨m,3,none⟩=some (F la ln lc)/\wx.cell? ⟨m,4,none⟩=some (E J h)/\wx.cell? ⟨m,5,none⟩=some (dI r)
theorem cut_a{wr w3:World}{name h y1:Int}{k:Nat}{la}{ln lc:Nat}{r:Bool}(hb:ZD wr w3) :
  Zmc wr name h y1 k la ln lc r (dH (some ⟨w3.heap.size,0,none⟩)) (E J k) (w3.alloc (dE #[E J name,E J k,E J y1,F la ln lc,E J h,dI r] 124)):=by
 obtain⟨c0,c1,c2,c3,c4,c5⟩:=D9 w3 (E J name) (E J k) (E J y1) (F la ln lc) (E J h) (dI r) 124;exact⟨w3.heap.size,rfl,rfl,Zf hb (Zh _ _),by simp,c0,c1,c2,c3,c4,c5⟩
theorem Zhr{B:Nat}{a w:World}(h:Below B a w)(b:Nat)(hb:B<=b)(a0 a1 a2 a3 a4 a5):Below B a ((((((w.setCell ⟨b,0,none⟩ a0).setCell ⟨b,1,none⟩ a1).setCell ⟨b,2,none⟩ a2).setCell ⟨b,3,none⟩ a3).setCell ⟨b,4,none⟩ a4).setCell ⟨b,5,none⟩ a5):=
 (((((h.setCell (p:=⟨b,0,none⟩) hb a0).setCell (p:=⟨b,1,none⟩) hb a1).setCell (p:=⟨b,2,none⟩) hb a2).setCell (p:=⟨b,3,none⟩) hb a3).setCell (p:=⟨b,4,none⟩) hb a4).setCell (p:=⟨b,5,none⟩) hb a5
theorem cut_b{wr w3:World}{name h y1:Int}{k:Nat}{la}{ln lc:Nat}{r:Bool}{b:Nat}(hb:ZD wr w3)(hz:w3.heap[b]? = some (dE zeroCs.toArray 124 (0,0)))(hl:wr.heap.size<=b) :
  Zmc wr name h y1 k la ln lc r (dH (some ⟨b,0,none⟩)) (E J k) ((((((w3.setCell ⟨b,0,none⟩ (E J name)).setCell ⟨b,1,none⟩ (E J k)).setCell ⟨b,2,none⟩ (E J y1)).setCell ⟨b,3,none⟩ (F la ln lc)).setCell ⟨b,4,none⟩ (E J h)).setCell ⟨b,5,none⟩ (dI r)):=by
 have hq:=Zfe hz (E J name) (E J k) (E J y1) (F la ln lc) (E J h) (dI r);exact⟨b,rfl,rfl,Zhr hb b hl _ _ _ _ _ _,lt_of_block hq,Zb hq 0 _ rfl,Zb hq 1 _ rfl,Zb hq 2 _ rfl,Zb hq 3 _ rfl,Zb hq 4 _ rfl,Zb hq 5 _ rfl⟩
theorem Zol(w0 w:World)(p:Nat)(v)(K:List CV)(ht:Int)(ai ao)(ni ci no co:Nat)(O)(name h:Int)(r:Bool)(x:Int)(M)(hP:Pu w0 w p v K)(hs:Srt (K.map (·.1)))(hn:K.length+no<=4096)(hO:OutsAt w0 ao no O)(fb:no<=6)(hr:decide (ni=0)=r)(hx:Yc name h r 0 O (K.map (·.1))=(x,M)) :
  Calls Tryz.prog 148 #[dH (some ⟨p,0,none⟩),.agg #[E J ht,F ai ni ci,F ao no co],E J name,E J h] w λe w'=>e = dF (E J x)/\ZD w0 w'/\(x=0->Given w0 w w' p v (K.length+no) M):=by
 have hB:w0.heap.size<=w.heap.size:=hP.bel.size;have fc:p<w.heap.size:=hP.lt;obtain⟨X0,ct,bi,bh⟩:=ka00 w [E J ht,F ai ni ci,F ao no co] 59;have x2:=Zb bh 2 _ rfl;have ST:Hid (Pu w0 X0 p v K):=hP.kept bi;have IR:=Zd (λw=>Ju ht ai ao ni ci no co r w hr);have df:=Zd (λk hk=>(hP.own.lt k hk).2);obtain⟨HS,HO,HZ,HX,dg,dc⟩:=kh6 hs hO hO.1 hx bh bi;clear hP hs hO hr hx bh bi;go_enter Tryz.func148,Tryz.ntmps148;go_wp2;rw[<-ct];clear ct
 go_loopw [15] (λi wr=>∃ (k:Nat) (K':List CV) (v':Value),k<=no/\i = E J k/\Hid (Yc name h r 0 O (K.map (·.1))=Yc name h r k (O.drop k) (K'.map (·.1)))/\Hid (Srt (K'.map (·.1)))/\K'.length<=K.length+k/\Hid (Pu w0 wr p v' K')/\Hid (Gr w wr (PuS p v))/\Hid (v'.ownBlock=v.ownBlock\/∀ k,v'.ownBlock=some k->w.heap.size<=k) /\
  Hid (wr.heap[w.heap.size]? = some (dE [E J ht,F ai ni ci,F ao no co].toArray 59 (0,0)))/\Hid (v'.ownBlock≠some w.heap.size)) (λi _=>no - (intOf i).toNat)
 case atStart=>exact⟨0,K,v,Nat.zero_le _,rfl,rfl,HS,Nat.le_refl _,ST,Gr.of dc,Or.inl rfl,dg,(λe=>by have:=df _ e;omega:v.ownBlock≠some w.heap.size)⟩
 case round=>
  obtain⟨k,K',v',hk,rfl,A,au,dn,ah,HG,HV,HT,cb⟩:=hrel;clear ST HS x2;obtain⟨t0,t1,t2,-⟩:=kc3 HT;have du:w.heap.size<wr.heap.size:=lt_of_block HT;by_cases dt:k<no
  ·have bo:k<O.length:=(by rw[Za HZ];exact dt);obtain⟨b,off,rfl,ew,dr⟩:=HO.2 (by omega);have cu:=dr k bo;obtain⟨E1,E2⟩:=kh2 (Zgr (name:=name) (h:=h) (r:=r) bo (K'.map (·.1))) (Zgs (name:=name) (h:=h) (r:=r) bo (K'.map (·.1)));obtain⟨y,hy⟩:=ZF (O[k]);rw[hy] at cu E2;obtain⟨y1,lk⟩:=y;obtain⟨cl,la,ln,lc,cm,g4,g5⟩:=cu;have g1:=Ze ah.bel cl;have g2:=Ze ah.bel cm;simp only at g1 g2 g4
   have cg:Hid (∀ W,ZD wr W->(Wx (name,(k:Int)) (K'.map (·.1))=true->Calls Tryz.prog 207 #[dH (some ⟨p,0,none⟩),.agg #[E J name,E J k,E J y1,F la ln lc,E J h,dI r]] W λe w'=>e = dF (dI false)/\ZD W w') /\
     (Wx (name,(k:Int)) (K'.map (·.1))=false->Calls Tryz.prog 207 #[dH (some ⟨p,0,none⟩),.agg #[E J name,E J k,E J y1,F la ln lc,E J h,dI r]] W λe w'=>∃ (aq:Value) (ae:List CV),e = dF (dI true)/\ae.map (·.1)=Pb (Pe name k (y1,lk) h r) (K'.map (·.1))/\ae.length=K'.length+1/\Pu w0 w' p aq ae/\Gr W w' (PuS p v')/\(aq.ownBlock=v'.ownBlock\/∀ k,aq.ownBlock=some k->W.heap.size<=k))):=by
    intro W hW;have cq:=ah.kept hW;constructor
    ·intro hf;exact Zng w0 W p v' K' ((name,(k:Int),y1,lk,h,r),la,ln,lc) cq au (by omega) hf
    ·intro hf;refine (Zjh w0 W p v' K' ((name,(k:Int),y1,lk,h,r),la,ln,lc) cq au (by omega) hf ⟨g4,g5⟩).mono ?_;rintro e w' ⟨aq,ae,h1,h2,_,h3,h4,h5,h6⟩;exact⟨aq,ae,h1,h2,h3,h4,h5,h6⟩
   obtain⟨X,hX⟩:=ZG (wr.alloc (dE #[E J y1,F la ln lc] 122));have an:ZD wr X:=(by rw[hX];exact Zh _ _);obtain⟨o0,o1⟩:=Z4 wr (E J y1) (F la ln lc) 122;rw[<-hX] at o0 o1;have s0:=Ze an t0;have s1:=Ze an t1;have s2:=Ze an t2;have dq:wr.heap.size<X.heap.size:=aE _ _ o0;have ev:w.heap.size<X.heap.size:=(by omega);have bz:=Zd an;clear an cl cm g4 g5 hy
   go_upto_region 4 with fail
   rw[<-hX];clear hX t0 t1 t2 g1 g2
   go_cut [11,15] from 15 to 32 (λef eg wx=>Zmc wr name h y1 k la ln lc r ef eg wx)
   case first=>
    go_region_with (go_at_call 204;refine (IR _).mono ?_;rintro e w3 ⟨rfl,ac⟩;first
     | (have aa:w3.heap[X.heap.size]? = some (dE zeroCs.toArray 124 (0,0)):=(ac.block X.heap.size (by simp)).trans (heap_alloc_new X _);have c0:=Zb aa 0 _ rfl;have c1:=Zb aa 1 _ rfl;have c2:=Zb aa 2 _ rfl;have c3:=Zb aa 3 _ rfl;have c4:=Zb aa 4 _ rfl;have c5:=Zb aa 5 _ rfl;have f0:=Zg aa 0;have f1:=Zg aa 1;have f2:=Zg aa 2;have f3:=Zg aa 3;have f4:=Zg aa 4;have f5:=Zg aa 5;have ds:=lt_of_block aa;have o2:w3.cell? ⟨wr.heap.size,0,none⟩=some (E J y1):=Ze ac (Ze (Zi _) (Ze (Zh X _) o0));have o3:w3.cell? ⟨wr.heap.size,1,none⟩=some (F la ln lc):=Ze ac (Ze (Zi _) (Ze (Zh X _) o1));have az:Hid (ZD wr w3):=Zf (Zf (Zf bz (Zh X _)) (Zi _)) ac;have bk:wr.heap.size<w3.heap.size:=aE _ _ o2;have dh:=Zd aa;clear aa ac)
     | (have o2:w3.cell? ⟨wr.heap.size,0,none⟩=some (E J y1):=Ze ac (Ze (Zi _) o0);have o3:w3.cell? ⟨wr.heap.size,1,none⟩=some (F la ln lc):=Ze ac (Ze (Zi _) o1);have ds:X.heap.size<=w3.heap.size:=ac.size;have az:Hid (ZD wr w3):=Zf (Zf bz (Zi _)) ac;have bk:wr.heap.size<w3.heap.size:=aE _ _ o2;clear ac))
    all_goals
     go_wp2_with fail;go_meet
     case rel=>
      first|exact cut_b (w3:=w3) (b:=X.heap.size) az dh (Nat.le_of_lt dq)|exact cut_a (w3:=w3) az
   case rest=>
    obtain⟨m,rfl,rfl,am,ez,m0,m1,m2,m3,m4,m5⟩:=hcut;have PW:=Zd (cg wc am);have TC:Hid (wc.heap[w.heap.size]? = some (dE [E J ht,F ai ni ci,F (some ⟨b,off,none⟩) no co].toArray 59 (0,0))):=(am.block _ du).trans HT;have GC:=Zd (HG.on am);have fd:wr.heap.size<=wc.heap.size:=am.size;have ey:(k:Int)<(no:Int):=(by omega);clear cg o0 o1 s0 s1 s2;cases hf:Wx (name,(k:Int)) (K'.map (·.1)) with
    | true=>
     have R:Hid (x=6):=by
      have e:=Za A;rw[(Za E1) hf,Za HX] at e;injection e
     have C:=Zd (PW.1 hf);have bx:=Zd (ah.kept am).bel;clear E1 E2 A PW hf;go_wp2_with fail;refine C.mono ?_;rintro e w4 ⟨rfl,bj⟩;have dd:Hid (ZD w0 w4):=Zf bx (bj.mono bx.size |> λq=>⟨q.os,q.tape,q.output,q.size,bj.block⟩);clear bj;go_wp2;go_ret;exact⟨by rw[Za R];rfl,Za dd,λe=>absurd e (by rw[Za R];decide)⟩
    | false=>
     have C:=Zd (PW.2 hf)
     have A2:Hid (∀ ae:List CV,ae.map (·.1)=Pb (Pe name k (y1,lk) h r) (K'.map (·.1))->Yc name h r 0 O (K.map (·.1))=Yc name h r (k+1) (O.drop (k+1)) (ae.map (·.1))):=λae hK=>by
      rw[Za A,(Za E2) hf,hK]
     clear E1 E2 A PW hf;go_wp2_with fail;refine C.mono ?_;rintro e w4 ⟨v4,K4,rfl,bf,bk,cp,be,bq⟩
     have cx:¬PuS p v' w.heap.size:=by
      rintro (e|e)
      ·omega
      ·exact cb e
     have R:Hid (Hid (Yc name h r 0 O (K.map (·.1))=Yc name h r (k+1) (O.drop (k+1)) (K4.map (·.1)))/\Hid (Srt (K4.map (·.1)))/\K4.length<=K.length+(k+1)/\Hid (Pu w0 w4 p v4 K4)/\Hid (Gr w w4 (PuS p v))/\Hid (v4.ownBlock=v.ownBlock\/∀ k,v4.ownBlock=some k->w.heap.size<=k) /\
       Hid (w4.heap[w.heap.size]? = some (dE [E J ht,F ai ni ci,F (some ⟨b,off,none⟩) no co].toArray 59 (0,0)))/\Hid (v4.ownBlock≠some w.heap.size)):=by
      refine⟨A2 K4 bf,?_,by omega,cp,?_,?_,be.heap TC cx,?_⟩
      ·show Srt _;rw[bf];exact T9 au
      ·refine GC.trans2 be (λq hq hT=>?_)
       rcases hT with e|e
       ·exact .inl e
       ·rcases Za HV with f|f
        ·exact .inr (by rw[<-f];exact e)
        ·have:=f q e;omega
      ·rcases bq with f|f
       ·rcases Za HV with g|g
        ·exact .inl (by rw[f,g])
        ·exact .inr (λq hq=>g q (by rw[<-f];exact hq))
       ·exact .inr (λq hq=>by have:=f q hq;omega)
      ·intro e
       rcases bq with f|f
       ·exact cb (by rw[<-f];exact e)
       ·have:=f _ e;omega
     clear bf bk cp be bq cx A2;go_wp2;go_roundw
     case rel=>
      obtain⟨r1,r2,r3,r4,r5,r6,r7,r8⟩:=Za R;exact⟨k+1,K4,v4,by omega,by go_num,r1,r2,r3,r4,r5,r6,r7,r8⟩
     case measure=>simp[intOf];omega
  ·have e:k=no:=(by omega);subst e;have R:=Za A;rw[Zbz (by rw[Za HZ];exact Nat.le_refl _),Za HX] at R;have R1:Hid (x=0):=(by show _=_;injection R);have R2:M=K'.map (·.1):=(by injection R);subst R2;clear R A t0 t1 t2;go_wp2;go_ret;exact⟨by rw[Za R1];rfl,ah.bel,λ_=>⟨v',K',rfl,Za au,dn,Za ah,Za HG⟩⟩
