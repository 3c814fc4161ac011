import Derived.Test.YtpikejjiignchaaGreatDoorH
import Derived.Test.YtpikejjiignchaaGreatDoorG39
open Go.Proofs.Tryz
open Classical renaming not_not->cN
open Go renaming lt_of_block->aA,bodyPost_ret->aR,maxLen->cD,heap_alloc_new->aK
open Go.Ending renaming returned->dX
open Go.Exit renaming inBlock->aO
open Go.IntKind renaming i64->J
open Go.Obj renaming cells->dW
open Go.RowKit.Below renaming heap_alloc->bH
open Go.Value renaming int->bC,slice->bN,int->E,slice->F,tuple->dY
open Go.World renaming frozen?_of_block->bX
open List renaming getElem_mem->bK,mem_cons->bU,length_append->bB,cons_append->cG,mem_singleton->dN,mem_append->cI
open Nat renaming le_refl->aE,zero_le->aP,le_trans->aT,lt_of_lt_of_le->aI
set_option maxHeartbeats 12800000
set_option maxRecDepth 10000
namespace Go.Proofs.YtpikejjiignchaaGreatDoor.Tr
open Go.RowKit
def Me(t:TxD):Prop:=t.2.1.length<=3518437208883/\t.2.2.length<=4398046511104/\(∀ x∈t.2.1,x.2.2.length<=8796093022208)/\∀ x∈t.2.2,x.2.length<=8796093022208
theorem Znp{G B z:Nat}{w0 wr w5:World}{g cap n k:Nat}{K:List (List Value)}{T:List TxD}{x u0 u1 u2}(h:Cl txR 52 B G w0 wr (F (some ⟨g,0,none⟩) n cap) n K T k)(hk:k<T.length)(ad:k<K.length)(hx:T[k]=x)(hb:ZD wr w5)(hf:Fresh z w5 (λw2=>txR.C w2 [u0,u1,u2] x))(O:G<=z) :
  Cl txR 52 B G w0 (((w5.setCell ⟨g,k*3,none⟩ u0).setCell ⟨g,k*3+1,none⟩ u1).setCell ⟨g,k*3+2,none⟩ u2) (F (some ⟨g,0,none⟩) n cap) n (K.set k [u0,u1,u2]) T (k+1):=by
 have h5:=h.keep hb;refine h5.step hk ?_ ((((Gr.refl w5 (λq=>q=g)).one g (k*3) (.inl rfl) _).one g (k*3+1) (.inl rfl) _).one g (k*3+2) (.inl rfl) _) ?_
 ·rw[hx];exact hf.less O
 ·have h1:=(((h5.own.stored (k*3) u0).1.stored (k*3+1) u1).1.stored (k*3+2) u2).1;rw[put3 h5.wid k ad] at h1;exact h1
theorem Zmz(aj m c T)(w:World)(hT:TxsAt w aj m T)(sT:SlOk aj m c)(hm:m<=2513169434916)(hs:∀ t∈T,Me t) :
  Calls Tryz.prog 131 #[F aj m c] w λe w'=>∃ a' c',e = dX (F a' m c')/\Fresh w.heap.size w' (λw2=>TxsAt w2 a' m T/\SlOk a' m c')/\ZD w w':=by
 have cc:=Zb hs;have bi:=Zb hT.1;have C1:=Zb (Zcd aj m c T w w hm hT ⟨rfl,rfl,rfl,aE _,λ_ _=>rfl⟩ sT);clear hT sT hs;go_enter func131,ntmps131;go_wp2_with fail;refine C1.mono ?_;rintro e w3 ⟨v,K1,rfl,hA,ho,be⟩;obtain⟨a1,c1,rfl,_,_⟩:=Y8 ho;obtain⟨G,hG⟩:=ZF (w3.heap.size);have cm:w.heap.size<=G:=by rw[<-hG];exact be.size
 have ce:Hid (Cl txR 52 w.heap.size G w w3 (F a1 m c1) m K1 T 0):=Cl.start ho hA bi (Nat.le_of_eq hG);have HB:=Zb be;have bz:Hid (G<=w3.heap.size):=Nat.le_of_eq hG.symm;clear hA ho be hG;go_wp2
 go_loopw [9] (λi wr=>∃ (k:Nat) (K:List (List Value)),k<=m/\i = E J k/\Hid (Cl txR 52 w.heap.size G w wr (F a1 m c1) m K T k)/\Hid (ZD w wr)/\Hid (G<=wr.heap.size)) (λi _=>m - (intOf i).toNat)
 case atStart=>exact⟨0,K1,aP _,rfl,ce,HB,bz⟩
 case round=>
  obtain⟨k,K,hk,rfl,z,af,ca⟩:=hrel;by_cases cn:k<m
  ·have av:k<T.length:=(by rw[Za bi];exact cn);have ae:k<K.length:=(by rw[(Za z).len];exact av);obtain⟨g,cap,ev,da,db,au⟩:=z.form (by omega);cases ev;obtain⟨ai,ni,ci,ao,no,co,eK,hI,sI,hO,sO⟩:=z.old k av ae (aE _);have ab:=cc _ (bK av);obtain⟨x,hx⟩:=ZF (T[k]);rw[hx] at eK hI hO ab;have r0:=z.cell k ae 0 (by decide);have r1:=z.cell k ae 1 (by decide);have r2:=z.cell k ae 2 (by decide);rw[eK] at r0 r1 r2;have r0:wr.cell? ⟨g,k*3,none⟩=some (E J x.1):=r0;have r1:wr.cell? ⟨g,k*3+1,none⟩=some (F ai ni ci):=r1;have r2:wr.cell? ⟨g,k*3+2,none⟩=some (F ao no co):=r2;obtain⟨X1,ap⟩:=ZG (wr.alloc (dW #[E J x.1,F ai ni ci,F ao no co] 52));have aq:ZD wr X1:=(by rw[ap];exact Zg _ _);have ad:X1.heap[wr.heap.size]? = some (dW [E J x.1,F ai ni ci,F ao no co].toArray 52 (0,0)):=(by rw[ap];exact Zs _ _ _ _ _);have b0:=Zd ad 0 _ rfl;have b1:=Zd ad 1 _ rfl;have b2:=Zd ad 2 _ rfl;have bl:=aA ad;have bx:=Zb aq;have bf:=Ze af aq;have CO:=Zb (Zpk x.1 ai ao ni ci no co x.2.1 x.2.2 X1 (hI.later bf) (hO.later bf) sI sO (by rw[<-hI.1];exact ab.1) (by rw[<-hO.1];exact ab.2.1) ab.2.2.1 ab.2.2.2)
   have NX:Hid (∀ w5 u0 u1 u2,ZD wr w5->Fresh X1.heap.size w5 (λw2=>txR.C w2 [u0,u1,u2] x) ->
     Hid (Cl txR 52 w.heap.size G w (((w5.setCell ⟨g,k*3,none⟩ u0).setCell ⟨g,k*3+1,none⟩ u1).setCell ⟨g,k*3+2,none⟩ u2) (F (some ⟨g,0,none⟩) m c1) m (K.set k [u0,u1,u2]) T (k+1))/\Hid (ZD w (((w5.setCell ⟨g,k*3,none⟩ u0).setCell ⟨g,k*3+1,none⟩ u1).setCell ⟨g,k*3+2,none⟩ u2))/\Hid (G<=(((w5.setCell ⟨g,k*3,none⟩ u0).setCell ⟨g,k*3+1,none⟩ u1).setCell ⟨g,k*3+2,none⟩ u2).heap.size)):=by
    intro w5 u0 u1 u2 aa ar;have bn:=Za ca;have bo:=(((Gr.refl w5 (λq=>q=g)).one g (k*3) (.inl rfl) u0).one g (k*3+1) (.inl rfl) u1).one g (k*3+2) (.inl rfl) u2;have cp:=aa.size;refine⟨Znp z av ae hx aa ar (aT bn aq.size),?_,?_⟩
    ·exact bo.below (Ze af aa) (by have:=af.size;omega) (λq e=>by omega)
    ·exact aT bn (aT cp bo.size)
   have FR:=Zb (λj=>z.free j);have dd:(k:Int)<(m:Int):=(by omega);clear hI hO sI sO ab hx eK aq ad bf;go_wp2_with fail;rw[<-ap];clear ap;(try go_wp2_with fail);refine CO.mono ?_;rintro e w5 ⟨a5,c5,a6,c6,rfl,ar,aa⟩;have O:=Ze bx aa;have HN:=Zb (NX w5 _ _ _ O ar);have s0:=Zc O r0;have s1:=Zc O r1;have s2:=Zc O r2;have q3:w5.frozen? ⟨g,k*3,none⟩=false:=(bX (a:=⟨g,k*3,none⟩) (O.block g au)).trans (FR _);have df:w5.frozen? ⟨g,k*3+1,none⟩=false:=(bX (a:=⟨g,k*3+1,none⟩) (O.block g au)).trans (FR _);have dg:w5.frozen? ⟨g,k*3+2,none⟩=false:=(bX (a:=⟨g,k*3+2,none⟩) (O.block g au)).trans (FR _);have q4:=aI au O.size;clear ar aa O;go_wp2;go_roundw
   case rel=>
    obtain⟨f1,f5,f6⟩:=Za HN;exact⟨k+1,_,by omega,by go_num,f1,f5,f6⟩
   case measure=>simp[intOf];omega
  ·have e:k=m:=(by omega);subst e
   have R:Hid (Fresh w.heap.size wr (λw2=>TxsAt w2 a1 k T/\SlOk a1 k c1)):=by
    obtain⟨a',c',e1,h1⟩:=z.rows cm;cases e1;exact h1
   go_wp2;go_ret;exact⟨a1,c1,rfl,Za R,Za af⟩
theorem Pr(p h z o:Int)(O m c T)(w:World)(hT:TxsAt w O m T)(sT:SlOk O m c)(hm:m<=2513169434916)(hs:∀ t∈T,Me t) :
  Calls Tryz.prog 84 #[.agg #[E J p,E J h,E J z,E J o,F O m c]] w λe w'=>∃ a' c',e = dX (.agg #[E J p,E J h,E J z,E J o,F a' m c'])/\Fresh w.heap.size w' (λw2=>blkR.C w2 [E J p,E J h,E J z,E J o,F a' m c'] (p,h,z,o,T))/\ZD w w':=by
 obtain⟨X,hX⟩:=ZG ((w.alloc (dW #[E J p,E J h,E J z,E J o,F O m c] 68)).alloc (dW #[E J 0,E J 0,E J 0,E J 0,F none 0 0] 68));have ae:ZD w X:=by rw[hX];exact Ze (Zg _ _) (Zg _ _)
 have ac:X.heap[w.heap.size]? = some (dW [E J p,E J h,E J z,E J o,F O m c].toArray 68 (0,0)):=by
  rw[hX,bH _ _ _ (by simp)];exact Z8 _ _ _ _ _ _ _
 have ak:X.heap.size=w.heap.size+2:=by rw[hX];simp
 have aj:X.heap[w.heap.size+1]? = some (dW [E J 0,E J 0,E J 0,E J 0,F none 0 0].toArray 68 (0,0)):=by
  rw[hX];have:=Z8 (w.alloc (dW #[E J p,E J h,E J z,E J o,F O m c] 68)) (E J 0) (E J 0) (E J 0) (E J 0) (F none 0 0) 68;rw[show (w.alloc (dW #[E J p,E J h,E J z,E J o,F O m c] 68)).heap.size=w.heap.size+1 by simp] at this;exact this
 have aq:=Zb ae;have au:=Zb ac;have av:=Zb aj;have af:=Zb ak;have C1:=Zb (Zmz O m c T X (hT.later ae) sT hm hs);have x4:=Zd ac 4 _ rfl;have xl:=aA ac;clear ae ac aj hT sT hs ak;go_enter func84,ntmps84;go_wp2_with fail;rw[<-hX];clear hX;(try go_wp2_with fail);refine C1.mono ?_;rintro e w3 ⟨a1,c1,rfl,al,ad⟩;have h30:=ZE ad au;have h31:=ZE ad av;have d4:=Zd h30 4 _ rfl;have z9:=Zi h30 4;have dl:=aA h30;have s0:=Zd h30 0 _ rfl;have s1:=Zd h30 1 _ rfl;have s2:=Zd h30 2 _ rfl;have s3:=Zd h30 3 _ rfl;have y0:=Zd h31 0 _ rfl;have y1:=Zd h31 1 _ rfl;have y2:=Zd h31 2 _ rfl;have y3:=Zd h31 3 _ rfl;have y4:=Zd h31 4 _ rfl;have z0:=Zi h31 0;have z1:=Zi h31 1;have z2:=Zi h31 2;have z3:=Zi h31 3;have z4:=Zi h31 4;have yl:=aA h31;have ap:=Zb (Ze aq ad);have HF:=Zb al;clear al ad h30 h31 x4 xl;go_wp2;(try simp only[aO,Exit.then]);have hG:=((((((Gr.refl w3 (λq=>q=w.heap.size\/q=w.heap.size+1)).one w.heap.size 4 (.inl (.inl rfl)) (F a1 m c1)).one (w.heap.size+1) 0 (.inl (.inr rfl)) (E J p)).one (w.heap.size+1) 1 (.inl (.inr rfl)) (E J h)).one (w.heap.size+1) 2 (.inl (.inr rfl)) (E J z)).one (w.heap.size+1) 3 (.inl (.inr rfl)) (E J o)).one (w.heap.size+1) 4 (.inl (.inr rfl)) (F a1 m c1);refine aR (v:=.agg #[E J p,E J h,E J z,E J o,F a1 m c1]) ?_ rfl ⟨a1,c1,rfl,?_,?_⟩
 ·rw[Xb rfl];go_simp
 ·refine ((Fresh.imp HF λw2 h=>⟨_,_,_,rfl,h.1,h.2⟩).on (hG.mono λq _ e=>by have:=Za af;omega)).less (by have:=Za af;omega)
 ·exact hG.below ap (by omega) (λq e=>by omega)
theorem Znc{G B z:Nat}{w0 wr w5:World}{g cap n k:Nat}{K:List (List Value)}{T:List Zj}{x:Zj}{u0 u1 u2 u3 u4}(h:Cl blkR 68 B G w0 wr (F (some ⟨g,0,none⟩) n cap) n K T k)(hk:k<T.length)(ad:k<K.length)(hx:T[k]=x)(hb:ZD wr w5)(hf:Fresh z w5 (λw2=>blkR.C w2 [u0,u1,u2,u3,u4] x))(O:G<=z) :
  Cl blkR 68 B G w0 (((((w5.setCell ⟨g,k*5,none⟩ u0).setCell ⟨g,k*5+1,none⟩ u1).setCell ⟨g,k*5+2,none⟩ u2).setCell ⟨g,k*5+3,none⟩ u3).setCell ⟨g,k*5+4,none⟩ u4) (F (some ⟨g,0,none⟩) n cap) n (K.set k [u0,u1,u2,u3,u4]) T (k+1):=by
 have h5:=h.keep hb;refine h5.step hk ?_ ((((((Gr.refl w5 (λq=>q=g)).one g (k*5) (.inl rfl) _).one g (k*5+1) (.inl rfl) _).one g (k*5+2) (.inl rfl) _).one g (k*5+3) (.inl rfl) _).one g (k*5+4) (.inl rfl) _) ?_
 ·rw[hx];exact hf.less O
 ·have h1:=(((((h5.own.stored (k*5) u0).1.stored (k*5+1) u1).1.stored (k*5+2) u2).1.stored (k*5+3) u3).1.stored (k*5+4) u4).1;rw[put5 h5.wid k ad] at h1;exact h1
def Zgm(w:World)(N:List Int)(T:List Zj)(n:Nat)(v1 v2:Value)(z:World):Prop:=
 ∃ K,AllC blkR w K T/\z.ownsRow (w.heap.size+2) 3 1 v1 n (N.map (bC .i64))/\z.ownsRow (w.heap.size+2) 68 5 v2 n K.flatten /\
  z.heap[w.heap.size]? = some (dW [v1,v2].toArray 28 (0,0))/\z.heap[w.heap.size+1]? = some (dW [F none 0 0,F none 0 0].toArray 28 (0,0))/\ZD w z
theorem Dh{w W wx:World}{N:List Int}{T}{n:Nat}{v1 v2}{K:List (List Value)}(h1:AllC blkR w K T)(o1:W.ownsRow (w.heap.size+2) 3 1 v1 n (N.map (bC .i64)))(o2:W.ownsRow (w.heap.size+2) 68 5 v2 n K.flatten)(hb:ZD w W)
  (hz:W.heap[w.heap.size+1]? = some (dW [F none 0 0,F none 0 0].toArray 28 (0,0))) (z:Gr W wx (λq=>q=w.heap.size)) (hx:wx.heap[w.heap.size]? = some (dW [v1,v2].toArray 28 (0,0))):Zgm w N T n v1 v2 wx:=
 ⟨K,h1,z.own o1 (λk O=>by have:=(o1.lt k O).1;omega),z.own o2 (λk O=>by have:=(o2.lt k O).1;omega),hx,z.heap hz (by omega),z.below hb (by have:=aA hz;omega) (λk O=>by omega)⟩
def Zcr(b:Zj):Prop:=b.2.2.2.2.length<=2513169434916/\∀ t∈b.2.2.2.2,Me t
def TreeOwn(B:Nat)(w:World)(v1 v2:Value)(n:Nat)(N:List Int)(T:List Zj):Prop:=
 ∃ K G,w.ownsRow B 3 1 v1 n (N.map (bC .i64))/\w.ownsRow B 68 5 v2 n K.flatten/\(∀ q,v1.ownBlock=some q->q<G)/\(∀ q,v2.ownBlock=some q->q<G)/\B<=G/\T.length=n/\Fresh G w (λw2=>AllC blkR w2 K T)
theorem TreeOwn.gr{B:Nat}{w w' v1 v2}{n:Nat}{N T}(h:TreeOwn B w v1 v2 n N T)(g:Gr w w' (λq=>q<B)):TreeOwn B w' v1 v2 n N T:=by
 obtain⟨K,G,h1,h2,h3,h4,h5,h6,h7⟩:=h;exact⟨K,G,g.own h1 (λq z=>by have:=(h1.lt q z).1;omega),g.own h2 (λq z=>by have:=(h2.lt q z).1;omega),h3,h4,h5,h6,h7.on (g.mono λq _ z=>by omega)⟩
theorem TreeOwn.less{B z:Nat}{w v1 v2}{n:Nat}{N T}(h:TreeOwn z w v1 v2 n N T)(O:B<=z):TreeOwn B w v1 v2 n N T:=by
 obtain⟨K,G,h1,h2,h3,h4,h5,h6,h7⟩:=h;exact⟨K,G,Wh h1 O,Wh h2 O,h3,h4,by omega,h6,h7⟩
theorem TreeOwn.read{B:Nat}{w v1 v2}{n:Nat}{N T}(h:TreeOwn B w v1 v2 n N T):∃ z c1 O c2,v1 = F z n c1/\v2 = F O n c2/\IntsAt w z n N/\SlOk z n c1/\BlksAt w O n T/\SlOk O n c2:=by
 obtain⟨K,G,h1,h2,h3,h4,h5,h6,h7⟩:=h;obtain⟨z,c1,rfl,s1,i1⟩:=ints_of_own h1;obtain⟨O,c2,rfl,r2,s2⟩:=rows_of_own blkR h2 h7.now h6;exact⟨z,c1,O,c2,rfl,rfl,i1,s1,r2,s2⟩
theorem Ziv(a b n c d N T)(w:World)(hN:IntsAt w a n N)(hT:BlksAt w b n T)(sN:SlOk a n c)(sT:SlOk b n d)(hn:n<=4096)(hs:∀ t∈T,Zcr t) :
  Calls Tryz.prog 83 #[.agg #[F a n c,F b n d]] w λe w'=>∃ v1 v2,e = dX (.agg #[v1,v2])/\TreeOwn (w.heap.size+2) w' v1 v2 n N T/\ZD w w':=by
 obtain⟨X,hX⟩:=ZG ((w.alloc (dW #[F a n c,F b n d] 28)).alloc (dW #[F none 0 0,F none 0 0] 28));have ca:ZD w X:=by rw[hX];exact Ze (Zg _ _) (Zg _ _)
 have av:X.heap[w.heap.size]? = some (dW [F a n c,F b n d].toArray 28 (0,0)):=by
  rw[hX,bH _ _ _ (by simp)];exact two_heap _ _ _ _
 have cu:X.heap.size=w.heap.size+2:=by rw[hX];simp
 have ag:X.heap[w.heap.size+1]? = some (dW [F none 0 0,F none 0 0].toArray 28 (0,0)):=by
  rw[hX];have:=two_heap (w.alloc (dW #[F a n c,F b n d] 28)) (F none 0 0) (F none 0 0) 28;rw[show (w.alloc (dW #[F a n c,F b n d] 28)).heap.size=w.heap.size+1 by simp] at this;exact this
 have dj:=Zb ca;have co:=Zb av;have ds:=Zb ag;have cp:=Zb cu;have dr:=Zb hs;have er:=Zb hN.1;have bw:=Zb hT.1;have C1:=Zb (Cu a n c N X.drew hn (hN.later (Ze ca (Zh X))) sN);have C2:=Zb (λW (hb:ZD w W)=>Cw b n d T w W (aT hn (by decide)) hT hb sT);have x0:=Zd av 0 _ rfl;have x1:=Zd av 1 _ rfl;have xl:=aA av;clear ca av ag hN hT sN sT hs cu;go_enter func83,ntmps83
 go_upto_region 1 with fail
 rw[<-hX];clear hX
 go_cut [7,10] from 5 to 12 (λs7 ej wx=>Hid (Zgm w N T n s7 ej wx))
 case first=>
  go_region_with (first
   | (go_at_call 129;refine C1.mono ?_;rintro e w3 ⟨v1,rfl,aj,bd⟩;have h30:=ZE bd co;have d0:=Zd h30 0 _ rfl;have d1:=Zd h30 1 _ rfl;have gb:=aA h30;have cm:Hid (w3.ownsRow (w.heap.size+2) 3 1 v1 n (N.map (bC .i64))):=Wh aj (Nat.le_of_eq cp.symm);have ci:=Zb (Ze (Ze dj (Zh _)) bd);have cj:=Zb (Ze (Zh X) bd);clear aj bd h30)
   | (go_at_call 130;refine (C2 _ ci).mono ?_;rintro e w4 ⟨v2,K2,rfl,hA2,aq,be⟩;have cb:=Ze cj be;have h40:=ZE cb co;have h41:=ZE cb ds;have e0:=Zd h40 0 _ rfl;have e1:=Zd h40 1 _ rfl;have z0:=Zi h40 0;have z1:=Zi h40 1;have el:=aA h40;have cg:=Zb hA2;have bv:Hid (w4.ownsRow (w.heap.size+2) 68 5 v2 n K2.flatten):=Wh aq (by have:=cj.size;have:=Za cp;omega);have cn:=Zb ((Gr.of (S:=λ_=>False) be).own cm (λ_ _ q=>q));have cl:=Zb (Ze ci be);have ce:=Zb h40;have cf:=Zb h41;obtain⟨a2,c2,rfl,_,_⟩:=Y8 bv;obtain⟨a1,c1,rfl,_,_⟩:=Y8 cm;clear hA2 aq be cb h40 h41))
  all_goals
   go_wp2_with fail;go_meet
   case rel=>
    first
    | exact Dh (W:=w4) cg cn bv cl cf (((Gr.refl w4 (λq=>q=w.heap.size)).one w.heap.size 0 (.inl rfl) _).one w.heap.size 1 (.inl rfl) _) (set_cells (set_cells ce 0 _) 1 _)
    | exact Dh (W:=w4) cg cn bv cl cf (((Gr.refl w4 (λq=>q=w.heap.size)).one w.heap.size 1 (.inl rfl) _).one w.heap.size 0 (.inl rfl) _) (set_cells (set_cells ce 1 _) 0 _)
 case rest=>
  obtain⟨K1,hA1,aj,aq,h0,h1,hb⟩:=Za hcut;obtain⟨a1,c1,rfl,_,_⟩:=Y8 aj;obtain⟨a2,c2,rfl,_,_⟩:=Y8 aq;obtain⟨G,hG⟩:=ZF (wc.heap.size);have ef:w.heap.size+2<=G:=by rw[<-hG];exact aA h1
  have dv:Hid (wc.ownsRow (w.heap.size+2) 3 1 (F a1 n c1) n (N.map (bC .i64))):=aj;have dm:Hid (∀ q,(bN a1 n c1).ownBlock=some q->q<G):=λq hq=>by have:=(aj.lt q hq).2;omega
  have dw:Hid (Cl blkR 68 (w.heap.size+2) G w wc (F a2 n c2) n K1 T 0):=Cl.start aq hA1 bw (Nat.le_of_eq hG);have H0:=Zb h0;have H1:=Zb h1;have HB:=Zb hb;have dn:Hid (G<=wc.heap.size):=Nat.le_of_eq hG.symm;have dx:=Zd h0 1 _ rfl;have dy:=aA h0;clear hcut hA1 aj aq h0 h1 hb x0 x1 xl hG;go_wp2
  go_loopw [16] (λi wr=>∃ (k:Nat) (K:List (List Value)),k<=n/\i = E J k/\Hid (wr.ownsRow (w.heap.size+2) 3 1 (F a1 n c1) n (N.map (bC .i64)))/\Hid (Cl blkR 68 (w.heap.size+2) G w wr (F a2 n c2) n K T k)/\Hid (wr.heap[w.heap.size]? = some (dW [F a1 n c1,F a2 n c2].toArray 28 (0,0)))/\Hid (wr.heap[w.heap.size+1]? = some (dW [F none 0 0,F none 0 0].toArray 28 (0,0)))/\Hid (ZD w wr)/\Hid (G<=wr.heap.size)) (λi _=>n - (intOf i).toNat)
  case atStart=>exact⟨0,K1,aP _,rfl,dv,dw,H0,H1,HB,dn⟩
  case round=>
   obtain⟨k,K,hk,rfl,bu,z,ad,am,bt,dp⟩:=hrel;clear dx dy;by_cases eg:k<n
   ·have bg:k<T.length:=(by rw[Za bw];exact eg);have ai:k<K.length:=(by rw[(Za z).len];exact bg);obtain⟨g,cap,ev,ff,fg,ap⟩:=z.form (by omega);cases ev;obtain⟨ta,tn,tc,eK,hI,sI⟩:=z.old k bg ai (aE _);have bh:=dr _ (bK bg);obtain⟨x,hx⟩:=ZF (T[k]);rw[hx] at eK hI bh;obtain⟨x0,x1,x2,x3,x4⟩:=x;simp only at eK hI;have r0:=z.cell k ai 0 (by decide);have r1:=z.cell k ai 1 (by decide);have r2:=z.cell k ai 2 (by decide);have r3:=z.cell k ai 3 (by decide);have r4:=z.cell k ai 4 (by decide);rw[eK] at r0 r1 r2 r3 r4;have r0:wr.cell? ⟨g,k*5,none⟩=some (E J x0):=r0;have r1:wr.cell? ⟨g,k*5+1,none⟩=some (E J x1):=r1;have r2:wr.cell? ⟨g,k*5+2,none⟩=some (E J x2):=r2;have r3:wr.cell? ⟨g,k*5+3,none⟩=some (E J x3):=r3;have r4:wr.cell? ⟨g,k*5+4,none⟩=some (F ta tn tc):=r4;obtain⟨X1,ag⟩:=ZG (wr.alloc (dW #[E J x0,E J x1,E J x2,E J x3,F ta tn tc] 68));have ao:ZD wr X1:=(by rw[ag];exact Zg _ _);have ah:X1.heap[wr.heap.size]? = some (dW [E J x0,E J x1,E J x2,E J x3,F ta tn tc].toArray 68 (0,0)):=(by rw[ag];exact Z8 _ _ _ _ _ _ _);have b0:=Zd ah 0 _ rfl;have b1:=Zd ah 1 _ rfl;have b2:=Zd ah 2 _ rfl;have b3:=Zd ah 3 _ rfl;have b4:=Zd ah 4 _ rfl;have bl:=aA ah;have t1:=Zc ao (Zd ad 1 _ rfl);have tl:=aI (aA ad) ao.size;have dl:=Zb ao;have cw:=Ze (Ze bt ao) (Zh _)
    have CO:=Zb (Pr x0 x1 x2 x3 ta tn tc x4 X1.drew (hI.later cw) sI (by rw[<-hI.1];exact bh.1) bh.2)
    have NX:Hid (∀ w5 u0 u1 u2 u3 u4,ZD wr w5->Fresh X1.drew.heap.size w5 (λw2=>blkR.C w2 [u0,u1,u2,u3,u4] (x0,x1,x2,x3,x4)) ->
      Hid ((((((w5.setCell ⟨g,k*5,none⟩ u0).setCell ⟨g,k*5+1,none⟩ u1).setCell ⟨g,k*5+2,none⟩ u2).setCell ⟨g,k*5+3,none⟩ u3).setCell ⟨g,k*5+4,none⟩ u4).ownsRow (w.heap.size+2) 3 1 (F a1 n c1) n (N.map (bC .i64)))/\Hid (Cl blkR 68 (w.heap.size+2) G w (((((w5.setCell ⟨g,k*5,none⟩ u0).setCell ⟨g,k*5+1,none⟩ u1).setCell ⟨g,k*5+2,none⟩ u2).setCell ⟨g,k*5+3,none⟩ u3).setCell ⟨g,k*5+4,none⟩ u4) (F (some ⟨g,0,none⟩) n c2) n (K.set k [u0,u1,u2,u3,u4]) T (k+1))/\Hid ((((((w5.setCell ⟨g,k*5,none⟩ u0).setCell ⟨g,k*5+1,none⟩ u1).setCell ⟨g,k*5+2,none⟩ u2).setCell ⟨g,k*5+3,none⟩ u3).setCell ⟨g,k*5+4,none⟩ u4).heap[w.heap.size]? = some (dW [F a1 n c1,F (some ⟨g,0,none⟩) n c2].toArray 28 (0,0)))/\Hid ((((((w5.setCell ⟨g,k*5,none⟩ u0).setCell ⟨g,k*5+1,none⟩ u1).setCell ⟨g,k*5+2,none⟩ u2).setCell ⟨g,k*5+3,none⟩ u3).setCell ⟨g,k*5+4,none⟩ u4).heap[w.heap.size+1]? = some (dW [F none 0 0,F none 0 0].toArray 28 (0,0)))/\Hid (ZD w (((((w5.setCell ⟨g,k*5,none⟩ u0).setCell ⟨g,k*5+1,none⟩ u1).setCell ⟨g,k*5+2,none⟩ u2).setCell ⟨g,k*5+3,none⟩ u3).setCell ⟨g,k*5+4,none⟩ u4))/\Hid (G<=(((((w5.setCell ⟨g,k*5,none⟩ u0).setCell ⟨g,k*5+1,none⟩ u1).setCell ⟨g,k*5+2,none⟩ u2).setCell ⟨g,k*5+3,none⟩ u3).setCell ⟨g,k*5+4,none⟩ u4).heap.size)):=by
     intro w5 u0 u1 u2 u3 u4 ab bf;have ct:=Za dp;have aw:=(((((Gr.refl w5 (λq=>q=g)).one g (k*5) (.inl rfl) u0).one g (k*5+1) (.inl rfl) u1).one g (k*5+2) (.inl rfl) u2).one g (k*5+3) (.inl rfl) u3).one g (k*5+4) (.inl rfl) u4;have eh:=ab.size;refine⟨?_,Znc z bg ai hx ab bf (aT ct ao.size),?_,?_,?_,?_⟩
     ·exact aw.own ((Gr.of (S:=λ_=>False) ab).own bu (λ_ _ q=>q)) (λq hq e=>Xl z.own bu (by decide) q (by rw[e];rfl) hq)
     ·exact aw.heap (ZE ab ad) (by omega)
     ·exact aw.heap (ZE ab am) (by omega)
     ·exact aw.below (Ze bt ab) (by have:=aA ad;omega) (λq e=>by omega)
     ·exact aT ct (aT eh aw.size)
    have FR:=Zb (λj=>z.free j);have fi:(k:Int)<(n:Int):=(by omega);clear hI sI bh hx eK ao ah cw;go_wp2_with fail;rw[<-ag];clear ag
    go_region_with (go_at_call 84;refine CO.mono ?_;rintro e w5 ⟨a5,c5,rfl,bf,ab⟩;have O:=Ze (Ze dl (Zh _)) ab;have HN:=Zb (NX w5 _ _ _ _ _ O bf);have q1:=Zc ab (Zc (Zh _) t1);have s0:=Zc O r0;have s1:=Zc O r1;have s2:=Zc O r2;have s3:=Zc O r3;have s4:=Zc O r4;have q3:w5.frozen? ⟨g,k*5,none⟩=false:=(bX (a:=⟨g,k*5,none⟩) (O.block g ap)).trans (FR _);have fl:w5.frozen? ⟨g,k*5+1,none⟩=false:=(bX (a:=⟨g,k*5+1,none⟩) (O.block g ap)).trans (FR _);have fm:w5.frozen? ⟨g,k*5+2,none⟩=false:=(bX (a:=⟨g,k*5+2,none⟩) (O.block g ap)).trans (FR _);have fo:w5.frozen? ⟨g,k*5+3,none⟩=false:=(bX (a:=⟨g,k*5+3,none⟩) (O.block g ap)).trans (FR _);have fp:w5.frozen? ⟨g,k*5+4,none⟩=false:=(bX (a:=⟨g,k*5+4,none⟩) (O.block g ap)).trans (FR _);have q4:=aI ap O.size;have q5:=aI (aA ad) O.size;clear bf ab O)
    all_goals
     go_wp2;go_roundw
     case rel=>
      obtain⟨f1,f2,f3,f4,f5,f6⟩:=Za HN;exact⟨k+1,_,by omega,by go_num,f1,f2,f3,f4,f5,f6⟩
     case measure=>simp[intOf];omega
   ·have e:k=n:=(by omega);subst e;have s0:=Zd ad 0 _ rfl;have s1:=Zd ad 1 _ rfl;have sl:=aA ad;have y0:=Zd am 0 _ rfl;have y1:=Zd am 1 _ rfl;have z0:=Zi am 0;have z1:=Zi am 1;have yl:=aA am
    have R:Hid (TreeOwn (w.heap.size+2) wr (F a1 k c1) (F a2 k c2) k N T):=
     ⟨K,G,Za bu,z.own,Za dm,z.gt,ef,Za bw,z.done⟩
    go_wp2;(try simp only[aO,Exit.then]);have hG:=((Gr.refl wr (λq=>q=w.heap.size+1)).one (w.heap.size+1) 0 (.inl rfl) (F a1 k c1)).one (w.heap.size+1) 1 (.inl rfl) (F a2 k c2);refine aR (v:=.agg #[F a1 k c1,F a2 k c2]) ?_ rfl ⟨_,_,rfl,R.gr (hG.mono λq _ e=>by omega),?_⟩
    ·rw[Xb rfl];go_simp
    ·exact hG.below bt (by omega) (λq e=>by omega)
def addE(N:List Int)(T:List Zj)(x:Int)(b:Zj):List Int×List Zj×Int:=
 if chkTr N T≠0 then ([],[],chkTr N T) else if Xw N T x b≠0 then ([],[],Xw N T x b) else if N.length=24 then ([],[],12) else (N++[x],T++[b],0)
theorem Am:∀ (l pre:List InD),Yd pre l=0->∀ x∈l,x.2.2.length<=16
 | [],_,_,x,z=>by cases z
 | y :: r,pre,h,x,z=>by
  rw[Yd] at h;split at h
  ·next q=>
   rcases bU.1 z with rfl|z
   ·unfold Vd at q;split at q
    ·cases q
    ·split at q
     ·next q1=>exact absurd q q1
     ·next q1=>exact G3 (cN.1 q1)
   ·exact Am r _ h x z
  ·next q=>exact absurd h q
theorem Ng:∀ (l:List Ya),Yc l=0->∀ x∈l,x.2.length<=16
 | [],_,x,z=>by cases z
 | y :: r,h,x,z=>by
  rw[Yc] at h;split at h
  ·next q=>
   rcases bU.1 z with rfl|z
   ·unfold Xe at q;split at q
    ·cases q
    ·exact G3 q
   ·exact Ng r h x z
  ·next q=>exact absurd h q
theorem Zjo{t}(h:Zr t=0):Me t:=by
 unfold Zr at h;split at h
 ·cases h
 ·next q0=>
  split at h
  ·cases h
  ·split at h
   ·cases h
   ·split at h
    ·next q=>exact absurd h q
    ·next q=>
     have h1:=Am _ _ (cN.1 q);unfold Zw at h;split at h
     ·next q2=>
      have h2:=Ng _ q2;exact⟨by omega,by omega,λx z=>by have:=h1 x z;omega,λx z=>by have:=h2 x z;omega⟩
     ·next q2=>exact absurd h q2
theorem J8(h:Int):∀ (T:List TxD) (i:Nat),Xa h i T=0->∀ t∈T,Zr t=0
 | [],_,_,t,z=>by cases z
 | u :: r,i,q,t,z=>by
  rw[Xa] at q;split at q
  ·next q1=>exact absurd q q1
  ·next q1=>
   split at q
   ·cases q
   ·rcases bU.1 z with rfl|z
    ·exact cN.1 q1
    ·exact J8 h r _ q t z
theorem Sg{b:Zj}(h:Xo b=0):Zcr b:=by
 unfold Xo at h;split at h
 ·cases h
 ·split at h
  ·cases h
  ·next q=>
   split at h
   ·cases h
   ·exact⟨by omega,λt z=>Zjo (J8 _ _ _ h t z)⟩
theorem Pv:∀ (M:List Int) (U:List Zj) (N:List Int) (T:List Zj),M.length=U.length->Wa N T M U=0->∀ b∈U,Xo b=0
 | [],[],_,_,_,_=>λb O=>by cases O
 | [],_ :: _,_,_,h,_=>by cases h
 | _ :: _,[],_,_,h,_=>by cases h
 | x :: M,b :: U,N,T,h,hc=>by
  rw[Wa] at hc;split at hc
  ·next q=>exact absurd hc q
  ·next q=>
   have h1:=Ti (cN.1 q);have h2:=Pv M U _ _ (by simpa using h) hc;intro y z
   rcases bU.1 z with rfl|z
   ·exact h1
   ·exact h2 y z
def AddR(w w':World)(N:List Int)(T:List Zj)(n:Nat)(x:Int)(e:Ending):Prop:=
 ∃ z c1 O c2,e = dX (dY #[.agg #[F z n c1,F O n c2],E J x])/\Fresh w.heap.size w' (λw2=>IntsAt w2 z n N/\BlksAt w2 O n T)/\SlOk z n c1/\SlOk O n c2/\ZD w w'
theorem Fb{w w':World}{x:Int}(z:ZD w w'):AddR w w' [] [] 0 x (dX (dY #[.agg #[F none 0 0,F none 0 0],E J x])):=
 ⟨none,0,none,0,rfl,λ_ _=>⟨IntsAt.nil _ _,RowsAt.nil _ _⟩,⟨aE _,aP _,λ_=>⟨rfl,rfl⟩⟩,⟨aE _,aP _,λ_=>⟨rfl,rfl⟩⟩,z⟩
theorem Pw{w W:World}{t:Nat}(z:ZD w W)(ht:w.heap.size<=t)(O:w.heap.size<=W.heap.size)(u v):ZD w ((W.setCell ⟨t,0,none⟩ u).setCell ⟨t,1,none⟩ v):=
 (((Gr.refl W (λq=>q=t)).one t 0 (.inl rfl) u).one t 1 (.inl rfl) v).below z O (λk e=>by omega)
theorem Zpp{B B5 G bw t6 n:Nat}{w5 w9 an ao wF:World}{v1 v2:Value}{g cap g2 ai:Nat}{N}{T:List Zj}{s:Int}{b:Zj}{K:List (List Value)}{cs}
  (hB:B<=B5) (bu:t6<B5) (br:B5<=G) (ba:T.length=n) (hF:Fresh G w5 (λw2=>AllC blkR w2 K T)) (hf:Fresh w9.heap.size an (λw2=>blkR.C w2 cs b))
  (h1:∀ q,v1.ownBlock=some q->q<G) (h2:∀ q,v2.ownBlock=some q->q<G) (ax:∀ q,v2.ownBlock=some q->B5<=q/\q<w5.heap.size) (hO:bw=w5.heap.size) (bt:bw<w9.heap.size) (bq:B<=w9.heap.size) (bv:t6<w9.heap.size)
  (g9:Gr w5 w9 (λq=>v1.ownBlock=some q)) (gF:Gr w9 wF (λq=>v2.ownBlock=some q\/q=bw\/q=t6)) (au:Gr an wF (λq=>v2.ownBlock=some q\/q=bw\/q=t6)) (av:Gr ao wF (λq=>q=bw\/q=t6))
  (am:w9.ownsRow B5 3 1 (F (some ⟨g,0,none⟩) (n+1) cap) (n+1) ((N++[s]).map (bC .i64))) (hg:g≠bw) (bf:v2.ownBlock≠some g)
  (ak:ao.ownsRow B5 68 5 (F (some ⟨g2,0,none⟩) (n+1) ai) (n+1) (K.flatten++cs)) (bg:g2≠bw) :
  Fresh B wF (λw2=>IntsAt w2 (some ⟨g,0,none⟩) (n+1) (N++[s])/\BlksAt w2 (some ⟨g2,0,none⟩) (n+1) (T++[b]))/\SlOk (some ⟨g,0,none⟩) (n+1) cap/\SlOk (some ⟨g2,0,none⟩) (n+1) ai:=by
 have gb:=(am.lt g rfl).1;have bn:=(ak.lt g2 rfl).1
 have af:=gF.own am (λq O e=>by
  cases O
  rcases e with e|e|e
  ·exact bf e
  ·exact hg e
  ·simp only at e;omega)
 have ae:=av.own ak (λq O e=>by
  cases O
  rcases e with e|e
  ·exact bg e
  ·simp only at e;omega)
 have az:Fresh G wF (λw2=>AllC blkR w2 K T):=hF.on (((g9.mono (T:=λq=>v1.ownBlock=some q\/v2.ownBlock=some q\/q=bw\/q=t6) λq _ e=>.inl e).trans (gF.mono λq _ e=>.inr e)).mono λq O e=>by
  rcases e with e|e|e|e
  ·exact h1 q e
  ·exact h2 q e
  ·omega
  ·omega)
 have bc:Fresh w9.heap.size wF (λw2=>blkR.C w2 cs b):=hf.on (au.mono λq _ e=>by
  rcases e with e|e|e
  ·have:=(ax q e).2;omega
  ·omega
  ·omega)
 have s1:=Y8 af;have s2:=Y8 ae;obtain⟨a1,c1,e1,s1,_⟩:=s1;obtain⟨a2,c2,e2,s2,_⟩:=s2;cases e1;cases e2;refine⟨λw2 g2=>?_,s1,s2⟩;have bi:=g2.own af (λq O=>by have:=(af.lt q O).1;omega);have al:=g2.own ae (λq O=>by have:=(ae.lt q O).1;omega);obtain⟨a1,c1,e1,_,i1⟩:=ints_of_own bi;cases e1;have hA:=(az w2 (g2.mono λq _ e=>by omega)).snoc (bc w2 (g2.mono λq _ e=>by omega));have bd:K.flatten++cs=(K++[cs]).flatten:=by simp
 rw[bd] at al;obtain⟨a2,c2,e2,r2,_⟩:=rows_of_own blkR al hA (by rw[bB,ba];rfl);cases e2;exact⟨i1,r2⟩
theorem add_is(a b n c m d N T)(s p h k o:Int)(ta tn tc L)(N':List Int)(T')(n':Nat)(x:Int)(w)(hN:IntsAt w a n N)(hT:BlksAt w b m T)(sN:SlOk a n c)(sT:SlOk b m d)(hL:TxsAt w ta tn L)(sL:SlOk ta tn tc)(hx:addE N T s (p,h,k,o,L)=(N',T',x))(cy:N'.length=n') :
  Calls Tryz.prog 39 #[.agg #[F a n c,F b m d],E J s,.agg #[E J p,E J h,E J k,E J o,F ta tn tc]] w λe w'=>AddR w w' N' T' n' x e:=by
 obtain⟨i0,hi,gw,gx,gy⟩:=info_parts Tryz.infoInt;obtain⟨j0,ji,ic,id,ie⟩:=info_parts Tryz.infoBlkC;obtain⟨X,hX⟩:=ZG (((w.alloc (dW #[F a n c,F b m d] 28)).alloc (dW #[E J p,E J h,E J k,E J o,F ta tn tc] 68)).alloc (dW #[F none 0 0,F none 0 0] 28));have ag:ZD w X:=by rw[hX];exact Ze (Ze (Zg _ _) (Zg _ _)) (Zg _ _)
 have av:X.heap[w.heap.size]? = some (dW [F a n c,F b m d].toArray 28 (0,0)):=by
  rw[hX,bH _ _ _ (by simp;omega),bH _ _ _ (by simp)];exact two_heap _ _ _ _
 have co:X.heap[w.heap.size+1]? = some (dW [E J p,E J h,E J k,E J o,F ta tn tc].toArray 68 (0,0)):=by
  rw[hX,bH _ _ _ (by simp)];have:=Z8 (w.alloc (dW #[F a n c,F b m d] 28)) (E J p) (E J h) (E J k) (E J o) (F ta tn tc) 68;rw[show (w.alloc (dW #[F a n c,F b m d] 28)).heap.size=w.heap.size+1 by simp] at this;exact this
 have cp:X.heap[w.heap.size+2]? = some (dW [F none 0 0,F none 0 0].toArray 28 (0,0)):=by
  rw[hX];have:=two_heap ((w.alloc (dW #[F a n c,F b m d] 28)).alloc (dW #[E J p,E J h,E J k,E J o,F ta tn tc] 68)) (F none 0 0) (F none 0 0) 28;rw[show ((w.alloc (dW #[F a n c,F b m d] 28)).alloc (dW #[E J p,E J h,E J k,E J o,F ta tn tc] 68)).heap.size=w.heap.size+2 by simp] at this;exact this
 have hm:=sN.2.1;unfold cD at hm;have jc:=sN.1;have HB:=Zb ag;have dj:=Zb av;have dl:=Zb co;have dm:=Zb cp;obtain⟨y,hy⟩:=ZF (chkTr N T);obtain⟨jl,hz⟩:=ZF (Xw N T s (p,h,k,o,L));have C1:=Zb (Ta a b n c m d N T y X (hN.later ag) (hT.later ag) sN sT hy);have x0:=Zd av 0 _ rfl;have x1:=Zd av 1 _ rfl;have xl:=aA av;unfold addE at hx;rw[hy,hz] at hx;by_cases q:y=0
 ·subst q;rw[if_neg (by simp)] at hx;obtain⟨hl,h24,hH,ea⟩:=J9 hy;obtain rfl:n=m:=by rw[<-hN.1,<-hT.1,hl]
  have eb:n<=cD:=sN.len;have jb:n<=24:=by rw[<-hN.1];exact h24
  have HS:=Zb (λt ht=>Sg (Pv N T [] [] hl ea t ht));have C2:=Zb (λW (hb:ZD X W)=>Zfv a b n c d N T s p h k o ta tn tc L jl W eb (hN.later (Ze ag hb)) (hT.later (Ze ag hb)) (hL.later (Ze ag hb)) hH hz);rw[hN.1] at hx;have cg:=Zb hx;have cf:=Zb cy;have CT:=Zb (λW (hb:ZD X W)=>Ziv a b n c d N T W (hN.later (Ze ag hb)) (hT.later (Ze ag hb)) sN sT (by omega) HS);have CB:=Zb (λW (hb:ZD w W) (q:jl=0)=>Pr p h k o ta tn tc L W (hL.later hb) sL (by rw[<-hL.1];exact (Sg (Ti (hz.trans q))).1) (Sg (Ti (hz.trans q))).2);have fv:=Zb hN.1;clear ag av co cp hN hT sN sT hL sL hy hz hl h24 hH ea eb hx cy;go_enter func39,ntmps39;go_wp2_with fail;rw[<-hX];clear hX;refine C1.mono ?_;rintro e w1 ⟨rfl,al⟩;have bc:=Zb al;have h0:=ZE al dj;have h1:=ZE al dl;have a0:=Zd h0 0 _ rfl;have a1:=Zd h0 1 _ rfl;have jm:=aA h0;have b0:=Zd h1 0 _ rfl;have b1:=Zd h1 1 _ rfl;have b2:=Zd h1 2 _ rfl;have b3:=Zd h1 3 _ rfl;have b4:=Zd h1 4 _ rfl;have bl:=aA h1;clear al h0 h1 x0 x1 xl;go_wp2_with fail;refine (C2 _ bc).mono ?_;rintro e w2 ⟨rfl,dw⟩;have bd:=Zb (Ze bc dw);clear dw a0 a1 jm b0 b1 b2 b3 b4 bl;have h0:=ZE bd dj;have h1:=ZE bd dl;have h2:=ZE bd dm;have c0:=Zd h2 0 _ rfl;have c1:=Zd h2 1 _ rfl;have f0:=Zi h2 0;have f1:=Zi h2 1;have cl:=aA h2;have be:=Zb (Ze HB bd);by_cases q2:jl=0
  ·subst q2;have a0:=Zd h0 0 _ rfl;have a1:=Zd h0 1 _ rfl;have jm:=aA h0;by_cases q3:n=24
   ·subst q3
    obtain⟨rfl,rfl,rfl⟩:([]:List Int)=N'/\([]:List Zj)=T'/\12=x:=by
     have q:=Za cg;rw[if_neg (by simp),if_pos rfl] at q;exact⟨congrArg (·.1) q,congrArg (·.2.1) q,congrArg (·.2.2) q⟩
    obtain rfl:0=n':=Za cf;clear h0 h1 h2;go_wp2;(try simp only[aO,Exit.then]);refine aR (v:=dY #[.agg #[F none 0 0,F none 0 0],E J 12]) ?_ rfl (Fb ?_)
    ·rw[Yb rfl];go_simp
    ·exact Pw be (by omega) be.size _ _
   ·have R:Hid (N++[s]=N'/\T++[(p,h,k,o,L)]=T'/\0=x):=by
     have q:=Za cg;rw[if_neg (by simp),if_neg q3] at q;exact⟨congrArg (·.1) q,congrArg (·.2.1) q,congrArg (·.2.2) q⟩
    obtain rfl:0=x:=R.2.2;have g3:((n:Int) == 24)=false:=(by simp;omega);have H0:=Zb h0;have H1:=Zb h1;have H2:=Zb h2;obtain rfl:n+1=n':=(by rw[<-Za cf,<-(Za R).1,bB,Za fv];rfl);clear q3 h0 h1 h2 c0 c1 f0 f1;go_wp2_with fail;refine (CT _ bd).mono ?_;rintro e w5 ⟨v1,v2,rfl,gn,cq⟩;obtain⟨K,G,o1,o2,g1,g2,ds,du,hF⟩:=gn;obtain⟨ab,ad,rfl,s1,r1⟩:=Y8 o1;obtain⟨z,O,rfl,s2,r2⟩:=Y8 o2;obtain⟨t6,je⟩:=ZG (w.heap.size+2);have iy:w.heap.size+3<=w2.heap.size+2:=(by omega);have jd:w2.heap.size<=w5.heap.size:=cq.size;have dv:∀ q,(bN ab n ad).ownBlock=some q->w2.heap.size+2<=q/\q<w5.heap.size:=λq hq=>o1.lt q hq;have dx:∀ q,(bN z n O).ownBlock=some q->w2.heap.size+2<=q/\q<w5.heap.size:=λq hq=>o2.lt q hq;have ci:Hid (((w5.alloc (dW #[F ab n ad,F z n O] 28)).alloc (dW #[E J s] 3)).ownsRow (w2.heap.size+2) 3 1 (F ab n ad) n (N.map (bC .i64))):=(o1.alloc _).alloc _
    have fw:Hid (∀ j u,([E J s]:List Value)[j]? = some u->((w5.alloc (dW #[F ab n ad,F z n O] 28)).alloc (dW #[E J s] 3)).cell? ((⟨w5.heap.size+1,0,none⟩:Addr).add j)=some u):=by
     have:=aK (w5.alloc (dW #[F ab n ad,F z n O] 28)) (dW #[E J s] 3);rw[show (w5.alloc (dW #[F ab n ad,F z n O] 28)).heap.size=w5.heap.size+1 by simp] at this;exact World.news_of_block (cs:=#[E J s]) (t:=3) (fr:=(0,0)) this
    have BX:Hid (((w5.alloc (dW #[F ab n ad,F z n O] 28)).alloc (dW #[E J s] 3)).heap[w5.heap.size]? = some (dW [F ab n ad,F z n O].toArray 28 (0,0))):=by
     show _=_;rw[bH _ _ _ (by simp)];exact two_heap _ _ _ _
    have bs:=Zb o2;have HF:=Zb hF;have fg:=Zb g1;have fh:=Zb g2;have bf:=Zb dv;have bg:=Zb dx;have ce:=Zb cq;have fs:=Zb du;have ez:=Zb ds;have iw:=Zb s2;clear o1 o2 hF g1 g2 dv dx cq a0 a1 jm r1 r2 du ds s1 s2
    go_wp2_with (at_builtin;refine wpList_append_lies _ rfl _ _ 25 rfl (w2.heap.size+2) 3 i0 (E J 0) 1 8 underlying25 hi gw gx gy rfl (by decide) _ _ _ rfl ci ⟨w5.heap.size+1,0,none⟩ 1 1 [E J s] rfl rfl fw (λu hu=>by simp at hu;subst hu;rfl) (by decide) (by unfold cD;omega) (by omega) (by simp;omega) (w5.heap.size+2) (by simp) ?_;intro g cap w8 ef cw ed ja;have aq:=(cw.block w5.heap.size (by simp;omega) (λe=>by have:=(bf _ e.symm).2;omega)).trans BX;have d0:=Zd aq 0 _ rfl;have d1:=Zd aq 1 _ rfl;have df:=Zi aq 0;have jn:=aA aq;have di:=Zb ef;have fj:=Zb cw;have fp:=Zb ed;have fu:=Zb aq;clear ef cw ed aq)
    obtain⟨w9,bq⟩:=ZG (w8.setCell ⟨w5.heap.size,0,none⟩ (F (some ⟨g,0,none⟩) (n+1) cap));rw[<-bq];have cn:Gr w5 w8 (λq=>(bN ab n ad).ownBlock=some q):=(((Gr.refl w5 (λq=>(bN ab n ad).ownBlock=some q)).new _).new _).grown fj (λk hk=>.inl hk);have ar:Gr w5 w9 (λq=>(bN ab n ad).ownBlock=some q):=(by rw[bq];exact cn.one w5.heap.size 0 (.inr (aE _)) _);have bi:w9.heap[w5.heap.size]? = some (dW [F (some ⟨g,0,none⟩) (n+1) cap,F z n O].toArray 28 (0,0)):=(by rw[bq];exact set_cells fu 0 _);have ct:ZD w w9:=ar.below (Ze be ce) (by omega) (λq hq=>by have:=(bf q hq).1;omega);have h91:=ar.heap (ZE ce H1) (λhq=>by have:=(bf _ hq).1;have:=aA H1;omega);have h92:=ar.heap (ZE ce H2) (λhq=>by have:=(bf _ hq).1;omega)
    have dz:g≠w5.heap.size/\w2.heap.size+2<=g:=by
     rcases Za fp with e|e
     ·have:=bf g e;omega
     ·omega
    have gq:(bN z n O).ownBlock≠some g:=by
     have ip:w8.ownsRow (w2.heap.size+2) 68 5 (F z n O) n K.flatten:=cn.own bs (λq hq e=>Xl (((ci.kept (w':=(w5.alloc (dW #[F ab n ad,F z n O] 28)).alloc (dW #[E J s] 3)) (row:=none) (World.grownBy.refl _ _) (by cases ab <;> simp[Value.ownBlock])))) ((bs.alloc _).alloc _) (by decide) q e hq);exact Xl di ip (by decide) g rfl
    have ej:w9.ownsRow (w2.heap.size+2) 3 1 (F (some ⟨g,0,none⟩) (n+1) cap) (n+1) ((N++[s]).map (bC .i64)):=by
     rw[bq];have:=((Gr.refl w8 (λq=>q=w5.heap.size)).one w5.heap.size 0 (.inl rfl) (F (some ⟨g,0,none⟩) (n+1) cap)).own di (λq hq e=>by cases hq;exact dz.1 e);simpa using this
    have ei:w9.ownsRow (w2.heap.size+2) 68 5 (F z n O) n K.flatten:=ar.own bs (λq hq e=>Xl ci ((bs.alloc _).alloc _) (by decide) q e hq);have l9:w5.heap.size<w9.heap.size:=aA bi;have CC:=Zb (CB w9.drew (Ze ct (Zh _)) (by trivial));have e0:=Zd bi 0 _ rfl;have e1:=Zd bi 1 _ rfl;have k0:=Zd h91 0 _ rfl;have k1:=Zd h91 1 _ rfl;have k2:=Zd h91 2 _ rfl;have k3:=Zd h91 3 _ rfl;have k4:=Zd h91 4 _ rfl;have kl:=aA h91;have fc:=Zb bi;have fi:=Zb ar;have de:=Zb h92;have fm:=Zb ej;have fl:=Zb ei;have ew:=Zb ct;clear bq cn ar bi ct h91 h92 ej ei d0 d1 df jn
    go_region_law (first
     | (refine Bm (by rfl) 84 #[.agg #[E J p,E J h,E J k,E J o,F ta tn tc]] (by kernel_rfl) CC ?_;rintro e az ⟨a5,c5,rfl,dy,bw⟩;refine⟨_,rfl,?_⟩;have bh:=ZE bw fc;have m0:=Zd bh 0 _ rfl;have m1:=Zd bh 1 _ rfl;have ml:=aA bh;have fe:=Zb dy;have dg:=Zb bw;have fa:=Zb bh;have fk:=Zb ((Gr.of (S:=λ_=>False) bw).own fl.drew (λ_ _ q=>q));clear dy bw bh)
     | (refine step_append_lies _ (by rfl) _ _ _ (by rfl) (w2.heap.size+2) 68 j0 _ 5 56 underlying26 ji ic id ie rfl (by decide) (F z n O) n K.flatten (by rfl) (fk.alloc _) ⟨az.heap.size,0,none⟩ 1 1 [E J p,E J h,E J k,E J o,F a5 tn c5] (by rfl) (by rfl) (World.news_of_block (cs:=#[E J p,E J h,E J k,E J o,F a5 tn c5]) (t:=68) (fr:=(0,0)) (aK az _)) (by simp[Value.oneCell']) (by decide) (by unfold cD;omega) (by omega) (by simp;omega) (az.heap.size+1) (by simp) ?_;intro g2 bj ba ee cu ec iz;have ap:=(cu.block w5.heap.size (by simp;omega) (λe=>by have:=(bg _ e.symm).2;omega)).trans ((bH _ _ _ ml).trans fa);have n0:=Zd ap 0 _ rfl;have n1:=Zd ap 1 _ rfl;have nf:=Zi ap 1;have nl:=aA ap;have ft:=Zb ee;have dh:=Zb cu;have fo:=Zb ec;have fb:=Zb ap;clear ee cu ec ap))
    all_goals
     have bv:Gr w9 ba (λq=>(bN z n O).ownBlock=some q):=((Gr.of (Ze (Zh w9) dg)).new _).grown dh (λk hk=>.inl hk);have dr:Gr az ba (λq=>(bN z n O).ownBlock=some q):=((Gr.refl az _).new _).grown dh (λk hk=>.inl hk);have el:=bv.heap de (λe=>by have:=(bg _ e).1;omega);obtain⟨cc,bo⟩:=ZG (ba.setCell ⟨w5.heap.size,1,none⟩ (F (some ⟨g2,0,none⟩) (n+1) bj));have bt:cc.heap[w5.heap.size]? = some (dW [F (some ⟨g,0,none⟩) (n+1) cap,F (some ⟨g2,0,none⟩) (n+1) bj].toArray 28 (0,0)):=(by rw[bo];exact set_cells fb 1 _);have ay:cc.heap[w.heap.size+2]? = some (dW [F none 0 0,F none 0 0].toArray 28 (0,0)):=by rw[bo];exact ((Gr.refl ba (λq=>q=w5.heap.size)).one w5.heap.size 1 (.inl rfl) _).heap el (by omega)
     have gf:∀ {W:World} {S:Nat->Prop},Gr W ba S->Gr W ((cc.setCell ⟨w.heap.size+2,0,none⟩ (F (some ⟨g,0,none⟩) (n+1) cap)).setCell ⟨w.heap.size+2,1,none⟩ (F (some ⟨g2,0,none⟩) (n+1) bj)) (λq=>S q\/q=w5.heap.size\/q=w.heap.size+2):=by
      intro W S hW;rw[bo];exact (((hW.mono (λq _ e=>.inl e)).one w5.heap.size 1 (.inl (.inr (.inl rfl))) _).one (w.heap.size+2) 0 (.inl (.inr (.inr rfl))) _).one (w.heap.size+2) 1 (.inl (.inr (.inr rfl))) _
     have gu:=dg.size
     have dc:=Zpp (w9:=w9) (B:=w.heap.size) (t6:=w.heap.size+2) (by omega) (by omega) ez fs HF fe fg fh bg rfl l9 (by omega) (by have:=aA de;omega) fi (gf bv) (gf dr) ((gf (Gr.refl ba (λ_=>False))).mono λq _ e=>by rcases e with e|e;exact e.elim;exact e) fm dz.1 gq ft (by
      rcases Za fo with e|e
      ·have:=bg g2 e;omega
      ·have:w9.heap.size<=az.heap.size:=gu;omega)
     have ff:=Zb dc
     have ey:Hid (ZD w ((cc.setCell ⟨w.heap.size+2,0,none⟩ (F (some ⟨g,0,none⟩) (n+1) cap)).setCell ⟨w.heap.size+2,1,none⟩ (F (some ⟨g2,0,none⟩) (n+1) bj))):=(gf bv).below ew (by omega) (λq e=>by
      rcases e with e|e|e
      ·have:=(bg _ e).1;omega
      ·omega
      ·omega)
     have y0:=Zd bt 0 _ rfl;have y1:=Zd bt 1 _ rfl;have yl:=aA bt;have u0:=Zd ay 0 _ rfl;have u1:=Zd ay 1 _ rfl;have jf:=Zi ay 0;have jg:=Zi ay 1;have ul:=aA ay;rw[<-bo];clear bo gf dc bv dr el bt ay n0 n1 nf nl m0 m1 ml e0 e1 k0 k1 k2 k3 k4 kl;go_wp2;(try simp only[aO,Exit.then]);refine aR (v:=dY #[.agg #[F (some ⟨g,0,none⟩) (n+1) cap,F (some ⟨g2,0,none⟩) (n+1) bj],E J 0]) ?_ rfl ?_
     ·rw[Yb rfl];go_simp
     ·obtain⟨f1,f2,f3⟩:=Za ff;rw[<-(Za R).1,<-(Za R).2.1];exact⟨_,_,_,_,rfl,f1,f2,f3,Za ey⟩
  ·obtain⟨rfl,rfl,rfl⟩:([]:List Int)=N'/\([]:List Zj)=T'/\jl=x:=by
    have q:=Za cg;rw[if_pos q2] at q;exact⟨congrArg (·.1) q,congrArg (·.2.1) q,congrArg (·.2.2) q⟩
   obtain rfl:0=n':=Za cf;have g2:(jl != 0)=true:=(by simp[q2]);clear h0 h1 h2 q2;go_wp2;(try simp only[aO,Exit.then]);refine aR (v:=dY #[.agg #[F none 0 0,F none 0 0],E J jl]) ?_ rfl (Fb ?_)
   ·rw[Yb rfl];go_simp
   ·exact Pw be (by omega) be.size _ _
 ·rw[if_pos q] at hx;obtain⟨rfl,rfl,rfl⟩:([]:List Int)=N'/\([]:List Zj)=T'/\y=x:=⟨congrArg (·.1) hx,congrArg (·.2.1) hx,congrArg (·.2.2) hx⟩;obtain rfl:0=n':=cy;have g:(y != 0)=true:=by simp[q]
  clear ag av co cp hN hT sN sT hL sL hy hz hx q;go_enter func39,ntmps39;go_wp2_with fail;rw[<-hX];clear hX;refine C1.mono ?_;rintro e w1 ⟨rfl,al⟩;have h2:=ZE al dm;have c0:=Zd h2 0 _ rfl;have c1:=Zd h2 1 _ rfl;have f0:=Zi h2 0;have f1:=Zi h2 1;have cl:=aA h2;have bc:=Zb (Ze HB al);clear al h2 x0 x1 xl;go_wp2;(try simp only[aO,Exit.then]);refine aR (v:=dY #[.agg #[F none 0 0,F none 0 0],E J y]) ?_ rfl (Fb ?_)
  ·rw[Yb rfl];go_simp
  ·exact Pw bc (by omega) bc.size _ _
theorem Ns{N T}{x:Int}{b:Zj}(h:Xw N T x b=0):(1<=x/\x<=120)/\Xo b=0/\x∉N/\(b.1=0\/b.1∈N)/\b.2.1=(fnd b.1 N T).2.1+1:=by
 unfold Xw at h;split at h
 ·cases h
 ·next q1=>
  split at h
  ·next q2=>exact absurd h q2
  ·next q2=>
   split at h
   ·cases h
   ·next q3=>
    split at h
    ·cases h
    ·next q4=>
     split at h
     ·cases h
     ·next q5=>
      refine⟨by simpa using q1,cN.1 q2,by simpa using q3,?_,cN.1 q5⟩;by_cases e:b.1=0
      ·exact .inl e
      ·right
       by_cases z:b.1∈N
       ·exact z
       ·exact absurd ⟨e,by simp[z]⟩ q4
theorem Aq{N M:List Int}{T U:List Zj}{y:Int}:N.length=T.length->y∈N->fnd y (N++M) (T++U)=fnd y N T:=by
 induction N generalizing T with
 | nil=>intro _ h;cases h
 | cons a N ih=>
  intro z h;cases T with
  | nil=>cases z
  | cons b T=>
   simp only[cG,fnd];by_cases e:y=a
   ·simp[e]
   ·rw[if_neg e,if_neg e];refine ih (by simpa using z) ?_
    rcases bU.1 h with h|h
    ·exact absurd h e
    ·exact h
theorem J3{N M:List Int}{T U:List Zj}{y:Int}:N.length=T.length->y∉N->fnd y (N++M) (T++U)=fnd y M U:=by
 induction N generalizing T with
 | nil=>
  intro z _;cases T with
  | nil=>rfl
  | cons _ _=>cases z
 | cons a N ih=>
  intro z h;cases T with
  | nil=>cases z
  | cons b T=>
   simp only[cG,fnd];rw[if_neg (λe=>h (by simp[e]))];exact ih (by simpa using z) (λq=>h (by simp[q]))
theorem Zge(x:Int)(b:Zj):fnd x [x] [b]=b:=by simp[fnd]
structure TrOk(N:List Int)(T:List Zj):Prop where
 len:N.length=T.length
 nd:N.Nodup
 nm:∀ x∈N,1<=x/\x<=120
 par:∀ x∈N,(fnd x N T).1=0\/(fnd x N T).1∈N
 hgt:∀ x∈N,(fnd x N T).2.1=(fnd (fnd x N T).1 N T).2.1+1
 chk:∀ b∈T,Xo b=0
theorem TrOk.nil:TrOk [] []:=⟨rfl,List.nodup_nil,λ_ h=>(by cases h),λ_ h=>(by cases h),λ_ h=>(by cases h),λ_ h=>(by cases h)⟩
theorem TrOk.zero{N T}(h:TrOk N T):(0:Int)∉N:=λq=>by have:=(h.nm 0 q).1;omega
theorem TrOk.heads{N T}(h:TrOk N T):Wv T:=λb z=>Sf (h.chk b z)
theorem TrOk.same{N T}{x:Int}{b:Zj}(h:TrOk N T)(O:1<=x){y:Int}(z:y=0\/y∈N):fnd y (N++[x]) (T++[b])=fnd y N T:=by
 by_cases e:y∈N
 ·exact Aq h.len e
 ·have aa:y=0:=by rcases z with q|q;exact q;exact absurd q e
  rw[J3 h.len e,Jg h.len e];unfold fnd;rw[if_neg (by omega)];unfold fnd;rfl
theorem TrOk.new{N T}{x:Int}{b:Zj}(h:TrOk N T)(z:x∉N):fnd x (N++[x]) (T++[b])=b:=by
 rw[J3 h.len z,Zge]
theorem TrOk.add{N T}{x:Int}{b:Zj}(h:TrOk N T)(hn:Xw N T x b=0):TrOk (N++[x]) (T++[b]):=by
 obtain⟨h1,h2,h3,h4,h5⟩:=Ns hn;refine⟨by simp[h.len],?_,λy z=>?_,λy z=>?_,λy z=>?_,λc O=>?_⟩
 ·rw[List.nodup_append];exact⟨h.nd,by simp,λa ha c O=>by rw[dN.1 O];exact λe=>h3 (e ▸ ha)⟩
 ·rcases cI.1 z with q|q
  ·exact h.nm y q
  ·rw[dN.1 q];exact h1
 ·rcases cI.1 z with q|q
  ·rw[h.same h1.1 (.inr q)]
   rcases h.par y q with e|e
   ·exact .inl e
   ·exact .inr (by simp[e])
  ·rw[dN.1 q,h.new h3]
   rcases h4 with e|e
   ·exact .inl e
   ·exact .inr (by simp[e])
 ·rcases cI.1 z with q|q
  ·rw[h.same h1.1 (.inr q),h.same h1.1 (h.par y q)];exact h.hgt y q
  ·rw[dN.1 q,h.new h3,h.same h1.1 h4];exact h5
 ·rcases cI.1 O with q|q
  ·exact h.chk c q
  ·rw[dN.1 q];exact h2
theorem Ds:∀ (M:List Int) (U:List Zj) (N:List Int) (T:List Zj),M.length=U.length->TrOk N T->Wa N T M U=0->TrOk (N++M) (T++U)
 | [],[],N,T,_,h,_=>by simpa using h
 | [],_ :: _,_,_,h,_,_=>by cases h
 | _ :: _,[],_,_,h,_,_=>by cases h
 | x :: M,b :: U,N,T,hl,h,hc=>by
  rw[Wa] at hc;split at hc
  ·next q=>exact absurd hc q
  ·next q=>
   have:=Ds M U _ _ (by simpa using hl) (h.add (cN.1 q)) hc;simpa using this
theorem TrOk.of{N T}(h:chkTr N T=0):TrOk N T:=by
 obtain⟨h1,_,_,h4⟩:=J9 h;simpa using Ds N T [] [] h1 TrOk.nil h4
theorem Dt:∀ (M:List Int) (U:List Zj) (N:List Int) (T:List Zj) (x:Int) (b:Zj),M.length=U.length->Wa N T M U=0->Xw (N++M) (T++U) x b=0->Wa N T (M++[x]) (U++[b])=0
 | [],[],N,T,x,b,_,_,h=>by
  rw[List.append_nil,List.append_nil] at h;simp[Wa,h]
 | [],_ :: _,_,_,_,_,h,_,_=>by cases h
 | _ :: _,[],_,_,_,_,h,_,_=>by cases h
 | y :: M,c :: U,N,T,x,b,h,hc,hn=>by
  rw[Wa] at hc;split at hc
  ·next q=>exact absurd hc q
  ·next q=>
   rw[cG,cG,Wa,if_neg q];exact Dt M U _ _ x b (by simpa using h) hc (by simpa using hn)
theorem Zep{N:List Int}{T}{x:Int}{b:Zj}(h:chkTr N T=0)(z:Xw N T x b=0)(O:N.length≠24):chkTr (N++[x]) (T++[b])=0:=by
 obtain⟨h1,h2,_,h4⟩:=J9 h;unfold chkTr;rw[if_neg (by simp[h1]),if_neg (by simp;omega)];exact Dt N T [] [] x b h1 h4 (by simpa using z)
theorem TrOk.up{N T}(h:TrOk N T)(y:Int):(fnd y N T).1=0\/(fnd y N T).1∈N:=by
 by_cases e:y∈N
 ·exact h.par y e
 ·rw[Jg h.len e];exact .inl rfl
