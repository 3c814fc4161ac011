import Derived.Test.YtpikejjiignchaaGreatDoorH
import Derived.Test.YtpikejjiignchaaGreatDoorG12
open Go.Ending renaming returned->dX
open Go.IntKind renaming i64->J
open Go.Obj renaming cells->dW
open Go.Value renaming int->E,slice->F,pointer->dZ,bool->eA
open Go.World renaming block_lt_of_cell?->aC
open List renaming drop_eq_getElem_cons->aN
set_option maxHeartbeats 12800000
set_option maxRecDepth 10000
namespace Go.Proofs.YtpikejjiignchaaGreatDoor
open Go.RowKit
theorem Gr.trans2{w O w2:World}{S T:Nat->Prop}(h:Gr w O S)(k:Gr O w2 T)(hT:∀ k,k<w.heap.size->T k->S k):Gr w w2 S:=
 ⟨k.os.trans h.os,k.tape.trans h.tape,k.output.trans h.output,Nat.le_trans h.size k.size,λi hi z=>(k.block i (Nat.lt_of_lt_of_le hi h.size) (λq=>z (hT i hi q))).trans (h.block i hi z)⟩
theorem Tl(h:Int)(ai ao)(z ci no co:Nat)(r:Bool)(w:World)(O:decide (z=0)=r) :
  ZH 168 #[.agg #[E J h,F ai z ci,F ao no co]] w (eA r):=by
 have HB:=Zb (Zg w (dW #[E J h,F ai z ci,F ao no co] 52));by_cases h0:z=0
 ·have e:r=true:=by rw[<-O];exact decide_eq_true h0
  subst e;subst h0;clear O;go_enter Tryz.func168,Tryz.ntmps168;go_wp2;go_ret;exact⟨rfl,Za HB⟩
 ·have e:r=false:=by rw[<-O];exact decide_eq_false h0
  subst e;have g:((z:Int) == 0)=false:=by simp[h0]
  clear O;go_enter Tryz.func168,Tryz.ntmps168;go_wp2;go_ret;exact⟨rfl,Za HB⟩
theorem Hu{name h:Int}{r:Bool}{ab:List Ya}{k:Nat}(hk:k<ab.length)(L)(O:Xp (name,(k:Int)) L=false):Yh name h r k (ab.drop k) L=Yh name h r (k+1) (ab.drop (k+1)) (Uj (Rn name k ab[k] h r) L):=by
 rw[aN hk,Yh,if_neg (by rw[O];decide)]
theorem Ht{name h:Int}{r:Bool}{ab:List Ya}{k:Nat}(hk:k<ab.length)(L)(O:Xp (name,(k:Int)) L=true):Yh name h r k (ab.drop k) L=(6,[]):=by
 rw[aN hk,Yh,if_pos O]
theorem Pn{name h:Int}{r:Bool}{aa:List Ya}{k:Nat}(O:aa.length<=k)(L):Yh name h r k (aa.drop k) L=(0,L):=by
 rw[List.drop_of_length_le O,Yh]
def Znl(w0 w w':World)(p:Nat)(v:Value)(n:Nat)(M:List Zf):Prop:=
 ∃ (O:Value) (z:List CV),z.map (·.1)=M/\Srt M/\z.length<=n/\Pu w0 w' p O z/\Gr w w' (PuS p v)
theorem Zhc{w:World}{b:Nat}{t:TypeId}(h:w.heap[b]? = some (dW zeroCs.toArray t (0,0)))(z O a2 a3 a4 a5):((((((w.setCell ⟨b,0,none⟩ z).setCell ⟨b,1,none⟩ O).setCell ⟨b,2,none⟩ a2).setCell ⟨b,3,none⟩ a3).setCell ⟨b,4,none⟩ a4).setCell ⟨b,5,none⟩ a5).heap[b]? = some (dW [z,O,a2,a3,a4,a5].toArray t (0,0)):=by
 have one:∀ {w:World} {X:Array Value} (i:Nat) (a:Value),w.heap[b]? = some (dW X t (0,0))->(w.setCell ⟨b,i,none⟩ a).heap[b]? = some (dW (X.setIfInBounds i a) t (0,0)):=fun {w X} i a hw=>by
  rw[setCell_eq_setRow w b i X t (0,0) a hw];exact setRow_heap w b _ _ t _ hw
 exact one 5 a5 (one 4 a4 (one 3 a3 (one 2 a2 (one 1 O (one 0 z h)))))
def Znm(wr:World)(name h y1:Int)(k:Nat)(O:Option Addr)(ln lc:Nat)(r:Bool)(ab ac:Value)(z:World):Prop:=
 ∃ m:Nat,ab = dZ (some ⟨m,0,none⟩)/\ac = E J k/\Hid (ZD wr z)/\m<z.heap.size/\z.cell? ⟨m,0,none⟩=some (E J name)/\z.cell? ⟨m,1,none⟩=some (E J k)/\z.cell? ⟨m,2,none⟩=some (E J y1)/\z.cell? ⟨m,3,none⟩=some (F O ln lc)/\z.cell? ⟨m,4,none⟩=some (E J h)/\z.cell? ⟨m,5,none⟩=some (eA r)
theorem cut_a{wr w3:World}{name h y1:Int}{k:Nat}{z}{ln O:Nat}{r:Bool}(hb:ZD wr w3) :
  Znm wr name h y1 k z ln O r (dZ (some ⟨w3.heap.size,0,none⟩)) (E J k) (w3.alloc (dW #[E J name,E J k,E J y1,F z ln O,E J h,eA r] 103)):=by
 obtain⟨c0,c1,c2,c3,c4,c5⟩:=T8 w3 (E J name) (E J k) (E J y1) (F z ln O) (E J h) (eA r) 103;exact⟨w3.heap.size,rfl,rfl,Ze hb (Zg _ _),by simp,c0,c1,c2,c3,c4,c5⟩
theorem Zjb{B:Nat}{a w:World}(h:Below B a w)(b:Nat)(z:B<=b)(O a1 a2 a3 a4 a5):Below B a ((((((w.setCell ⟨b,0,none⟩ O).setCell ⟨b,1,none⟩ a1).setCell ⟨b,2,none⟩ a2).setCell ⟨b,3,none⟩ a3).setCell ⟨b,4,none⟩ a4).setCell ⟨b,5,none⟩ a5):=
 (((((h.setCell (p:=⟨b,0,none⟩) z O).setCell (p:=⟨b,1,none⟩) z a1).setCell (p:=⟨b,2,none⟩) z a2).setCell (p:=⟨b,3,none⟩) z a3).setCell (p:=⟨b,4,none⟩) z a4).setCell (p:=⟨b,5,none⟩) z a5
theorem cut_b{wr w3:World}{name h y1:Int}{k:Nat}{O}{ln lc:Nat}{r:Bool}{b:Nat}(hb:ZD wr w3)(hz:w3.heap[b]? = some (dW zeroCs.toArray 103 (0,0)))(hl:wr.heap.size<=b) :
  Znm wr name h y1 k O ln lc r (dZ (some ⟨b,0,none⟩)) (E J k) ((((((w3.setCell ⟨b,0,none⟩ (E J name)).setCell ⟨b,1,none⟩ (E J k)).setCell ⟨b,2,none⟩ (E J y1)).setCell ⟨b,3,none⟩ (F O ln lc)).setCell ⟨b,4,none⟩ (E J h)).setCell ⟨b,5,none⟩ (eA r)):=by
 have z:=Zhc hz (E J name) (E J k) (E J y1) (F O ln lc) (E J h) (eA r);exact⟨b,rfl,rfl,Zjb hb b hl _ _ _ _ _ _,lt_of_block z,Zd z 0 _ rfl,Zd z 1 _ rfl,Zd z 2 _ rfl,Zd z 3 _ rfl,Zd z 4 _ rfl,Zd z 5 _ rfl⟩
theorem Zox(w0 w:World)(p:Nat)(v)(K:List CV)(ht:Int)(ai ao)(ni fh no co:Nat)(fg)(name h:Int)(r:Bool)(x:Int)(M)(hP:Pu w0 w p v K)(hs:Srt (K.map (·.1)))(hn:K.length+no<=4096)(hO:OutsAt w0 ao no fg)(fd:no<=6)(hr:decide (ni=0)=r)(hx:Yh name h r 0 fg (K.map (·.1))=(x,M)) :
  Calls Tryz.prog 143 #[dZ (some ⟨p,0,none⟩),.agg #[E J ht,F ai ni fh,F ao no co],E J name,E J h] w λe w'=>e = dX (E J x)/\ZD w0 w'/\(x=0->Znl w0 w w' p v (K.length+no) M):=by
 have hB:w0.heap.size<=w.heap.size:=hP.bel.size;have fe:p<w.heap.size:=hP.lt;obtain⟨X0,bb⟩:=ZG (w.alloc (dW #[E J ht,F ai ni fh,F ao no co] 52));have bk:ZD w X0:=by rw[bb];exact Zg _ _
 have bj:X0.heap[w.heap.size]? = some (dW [E J ht,F ai ni fh,F ao no co].toArray 52 (0,0)):=by rw[bb];exact Zs _ _ _ _ _
 have x2:=Zd bj 2 _ rfl;have ST:Hid (Pu w0 X0 p v K):=hP.kept bk;have IR:=Zb (λw=>Tl ht ai ao ni fh no co r w hr);have dc:=Zb (λk hk=>(hP.own.lt k hk).2);have HS:=Zb hs;have HO:=Zb hO;have HZ:=Zb hO.1;have HX:=Zb hx;have de:=Zb bj;have cz:=Zb bk;clear hP hs hO hr hx bj bk;go_enter Tryz.func143,Tryz.ntmps143;go_wp2;rw[<-bb];clear bb
 go_loopw [15] (λi wr=>∃ (k:Nat) (z:List CV) (v':Value),k<=no/\i = E J k/\Hid (Yh name h r 0 fg (K.map (·.1))=Yh name h r k (fg.drop k) (z.map (·.1)))/\Hid (Srt (z.map (·.1)))/\z.length<=K.length+k/\Hid (Pu w0 wr p v' z)/\Hid (Gr w wr (PuS p v))/\Hid (v'.ownBlock=v.ownBlock\/∀ k,v'.ownBlock=some k->w.heap.size<=k) /\
  Hid (wr.heap[w.heap.size]? = some (dW [E J ht,F ai ni fh,F ao no co].toArray 52 (0,0)))/\Hid (v'.ownBlock≠some w.heap.size)) (λi _=>no - (intOf i).toNat)
 case atStart=>exact⟨0,K,v,Nat.zero_le _,rfl,rfl,HS,Nat.le_refl _,ST,Gr.of cz,Or.inl rfl,de,(λe=>by have:=dc _ e;omega:v.ownBlock≠some w.heap.size)⟩
 case round=>
  obtain⟨k,z,v',hk,rfl,A,az,dp,an,HG,HV,HT,cb⟩:=hrel;clear x2;have t0:=Zd HT 0 _ rfl;have t1:=Zd HT 1 _ rfl;have t2:=Zd HT 2 _ rfl;have dw:w.heap.size<wr.heap.size:=lt_of_block HT;by_cases dv:k<no
  ·have bq:k<fg.length:=(by rw[Za HZ];exact dv);obtain⟨b,off,rfl,ez,dt⟩:=HO.2 (by omega);have cn:=dt k bq;have E1:=Zb (Ht (name:=name) (h:=h) (r:=r) bq (z.map (·.1)));have E2:=Zb (Hu (name:=name) (h:=h) (r:=r) bq (z.map (·.1)));obtain⟨y,hy⟩:=ZF (fg[k]);rw[hy] at cn E2;obtain⟨y1,lk⟩:=y;obtain⟨cg,la,ln,lc,ci,g4,g5⟩:=cn;have g1:=Zc an.bel cg;have g2:=Zc an.bel ci;simp only at g1 g2 g4
   have dh:Hid (∀ W,ZD wr W->(Xp (name,(k:Int)) (z.map (·.1))=true->Calls Tryz.prog 171 #[dZ (some ⟨p,0,none⟩),.agg #[E J name,E J k,E J y1,F la ln lc,E J h,eA r]] W λe w'=>e = dX (eA false)/\ZD W w') /\
     (Xp (name,(k:Int)) (z.map (·.1))=false->Calls Tryz.prog 171 #[dZ (some ⟨p,0,none⟩),.agg #[E J name,E J k,E J y1,F la ln lc,E J h,eA r]] W λe w'=>∃ (ax:Value) (af:List CV),e = dX (eA true)/\af.map (·.1)=Uj (Rn name k (y1,lk) h r) (z.map (·.1))/\af.length=z.length+1/\Pu w0 w' p ax af/\Gr W w' (PuS p v')/\(ax.ownBlock=v'.ownBlock\/∀ k,ax.ownBlock=some k->W.heap.size<=k))):=by
    intro W hW;have cm:=an.kept hW;constructor
    ·intro hf;exact Zfo w0 W p v' z ((name,(k:Int),y1,lk,h,r),la,ln,lc) cm az (by omega) hf
    ·intro hf;refine (Zaw w0 W p v' z ((name,(k:Int),y1,lk,h,r),la,ln,lc) cm az (by omega) hf ⟨g4,g5⟩).mono ?_;rintro e w' ⟨ax,af,h1,h2,_,h3,h4,h5,h6⟩;exact⟨ax,af,h1,h2,h3,h4,h5,h6⟩
   obtain⟨X,hX⟩:=ZG (wr.alloc (dW #[E J y1,F la ln lc] 101));have av:ZD wr X:=(by rw[hX];exact Zg _ _);obtain⟨o0,o1⟩:=Yo wr (E J y1) (F la ln lc) 101;rw[<-hX] at o0 o1;have s0:=Zc av t0;have s1:=Zc av t1;have s2:=Zc av t2;have ds:wr.heap.size<X.heap.size:=aC _ _ o0;have ey:w.heap.size<X.heap.size:=(by omega);have bz:=Zb av;clear av cg ci g4 g5 hy
   go_upto_region 4 with fail
   rw[<-hX];clear hX t0 t1 t2 g1 g2
   go_cut [11,15] from 15 to 32 (λeh ei wx=>Znm wr name h y1 k la ln lc r eh ei wx)
   case first=>
    go_region_with (go_at_call 168;refine (IR _).mono ?_;rintro e w3 ⟨rfl,ad⟩;first
     | (have O:w3.heap[X.heap.size]? = some (dW zeroCs.toArray 103 (0,0)):=(ad.block X.heap.size (by simp)).trans (heap_alloc_new X _);have c0:=Zd O 0 _ rfl;have c1:=Zd O 1 _ rfl;have c2:=Zd O 2 _ rfl;have c3:=Zd O 3 _ rfl;have c4:=Zd O 4 _ rfl;have c5:=Zd O 5 _ rfl;have f0:=Zi O 0;have f1:=Zi O 1;have f2:=Zi O 2;have f3:=Zi O 3;have f4:=Zi O 4;have f5:=Zi O 5;have du:=lt_of_block O;have o2:w3.cell? ⟨wr.heap.size,0,none⟩=some (E J y1):=Zc ad (Zc (Zh _) (Zc (Zg X _) o0));have o3:w3.cell? ⟨wr.heap.size,1,none⟩=some (F la ln lc):=Zc ad (Zc (Zh _) (Zc (Zg X _) o1));have be:Hid (ZD wr w3):=Ze (Ze (Ze bz (Zg X _)) (Zh _)) ad;have bo:wr.heap.size<w3.heap.size:=aC _ _ o2;have df:=Zb O;clear O ad)
     | (have o2:w3.cell? ⟨wr.heap.size,0,none⟩=some (E J y1):=Zc ad (Zc (Zh _) o0);have o3:w3.cell? ⟨wr.heap.size,1,none⟩=some (F la ln lc):=Zc ad (Zc (Zh _) o1);have du:X.heap.size<=w3.heap.size:=ad.size;have be:Hid (ZD wr w3):=Ze (Ze bz (Zh _)) ad;have bo:wr.heap.size<w3.heap.size:=aC _ _ o2;clear ad))
    all_goals
     go_wp2_with fail;go_meet
     case rel=>
      first|exact cut_b (w3:=w3) (b:=X.heap.size) be df (Nat.le_of_lt ds)|exact cut_a (w3:=w3) be
   case rest=>
    obtain⟨m,rfl,rfl,aq,fb,m0,m1,m2,m3,m4,m5⟩:=hcut;have PW:=Zb (dh wc aq);have TC:Hid (wc.heap[w.heap.size]? = some (dW [E J ht,F ai ni fh,F (some ⟨b,off,none⟩) no co].toArray 52 (0,0))):=(aq.block _ dw).trans HT;have GC:=Zb (HG.on aq);have ff:wr.heap.size<=wc.heap.size:=aq.size;have fa:(k:Int)<(no:Int):=(by omega);clear o0 o1 s0 s1 s2;cases hf:Xp (name,(k:Int)) (z.map (·.1)) with
    | true=>
     have R:Hid (x=6):=by
      have e:=Za A;rw[(Za E1) hf,Za HX] at e;injection e
     have C:=Zb (PW.1 hf);have bx:=Zb (an.kept aq).bel;clear A hf;go_wp2_with fail;refine C.mono ?_;rintro e w4 ⟨rfl,bn⟩;have da:Hid (ZD w0 w4):=Ze bx (bn.mono bx.size |> λq=>⟨q.os,q.tape,q.output,q.size,bn.block⟩);clear bn;go_wp2;go_ret;exact⟨by rw[Za R];rfl,Za da,λe=>absurd e (by rw[Za R];decide)⟩
    | false=>
     have C:=Zb (PW.2 hf)
     have A2:Hid (∀ af:List CV,af.map (·.1)=Uj (Rn name k (y1,lk) h r) (z.map (·.1))->Yh name h r 0 fg (K.map (·.1))=Yh name h r (k+1) (fg.drop (k+1)) (af.map (·.1))):=λaf hK=>by
      rw[Za A,(Za E2) hf,hK]
     clear A hf;go_wp2_with fail;refine C.mono ?_;rintro e w4 ⟨v4,K4,rfl,bh,bo,cl,bg,br⟩
     have cp:¬PuS p v' w.heap.size:=by
      rintro (e|e)
      ·omega
      ·exact cb e
     have R:Hid (Hid (Yh name h r 0 fg (K.map (·.1))=Yh name h r (k+1) (fg.drop (k+1)) (K4.map (·.1)))/\Hid (Srt (K4.map (·.1)))/\K4.length<=K.length+(k+1)/\Hid (Pu w0 w4 p v4 K4)/\Hid (Gr w w4 (PuS p v))/\Hid (v4.ownBlock=v.ownBlock\/∀ k,v4.ownBlock=some k->w.heap.size<=k) /\
       Hid (w4.heap[w.heap.size]? = some (dW [E J ht,F ai ni fh,F (some ⟨b,off,none⟩) no co].toArray 52 (0,0)))/\Hid (v4.ownBlock≠some w.heap.size)):=by
      refine⟨A2 K4 bh,?_,by omega,cl,?_,?_,bg.heap TC cp,?_⟩
      ·show Srt _;rw[bh];exact Ux az
      ·refine GC.trans2 bg (λq hq hT=>?_)
       rcases hT with e|e
       ·exact .inl e
       ·rcases Za HV with f|f
        ·exact .inr (by rw[<-f];exact e)
        ·have:=f q e;omega
      ·rcases br with f|f
       ·rcases Za HV with g|g
        ·exact .inl (by rw[f,g])
        ·exact .inr (λq hq=>g q (by rw[<-f];exact hq))
       ·exact .inr (λq hq=>by have:=f q hq;omega)
      ·intro e
       rcases br with f|f
       ·exact cb (by rw[<-f];exact e)
       ·have:=f _ e;omega
     clear bh bo cl bg br cp;go_wp2;go_roundw
     case rel=>
      obtain⟨r1,r2,r3,r4,r5,r6,r7,r8⟩:=Za R;exact⟨k+1,K4,v4,by omega,by go_num,r1,r2,r3,r4,r5,r6,r7,r8⟩
     case measure=>simp[intOf];omega
  ·have e:k=no:=(by omega);subst e;have R:=Za A;rw[Pn (by rw[Za HZ];exact Nat.le_refl _),Za HX] at R;have R1:Hid (x=0):=(by show _=_;injection R);have R2:M=z.map (·.1):=(by injection R);subst R2;clear R A t0 t1 t2;go_wp2;go_ret;exact⟨by rw[Za R1];rfl,an.bel,λ_=>⟨v',z,rfl,Za az,dp,Za an,Za HG⟩⟩
