import Derived.Test.YtpikejjiignchaaGreatDoorH
import Derived.Test.YtpikejjiignchaaGreatDoorG2
import Derived.Deep.RegionHeld3
open Go.Proofs.Tryz
open Go renaming wp_loop_rounds->aQ,rounds_succ->aL,maxLen->cD
open Go.Ending renaming returned->dX
open Go.IntKind renaming i64->J
open Go.Obj renaming cells->dW
open Go.Proofs renaming intOf->aV
open Go.Proofs.Tryz renaming prog->aB
open Go.Value renaming int->E,slice->F,tuple->dY,pointer->dZ,bool->eA
open Go.World renaming block_lt_of_cell?->aC,cell?_alloc_at->cH
open List renaming length_eq_zero_iff->aJ,take_succ_eq_append_getElem->aM,take_of_length_le->aY,mem_cons->bU,length_cons->dQ,getElem_mem->bK,length_take->bG
open Nat renaming zero_le->aP,lt_of_lt_of_le->aI,le_refl->aE
set_option maxHeartbeats 6400000
set_option maxRecDepth 10000
namespace Go.Proofs.YtpikejjiignchaaGreatDoor
open Go.RowKit
theorem Rq(x y:Int)(b:Bool)(w:World)(O:((decide (1<=x) && decide (x<=120)) && (decide (0<=y) && decide (y<=5)))=b) :
  ZH 184 #[.agg #[E J x,E J y]] w (eA b):=by
 have HB:=Zb (Zg w (dW #[E J x,E J y] 99));by_cases h1:1<=x/\x<=120
 ·have z:(decide (1<=x) && decide (x<=120))=true:=by simp[h1.1,h1.2]
  obtain⟨c,hc⟩:=ZF ((decide (0<=y) && decide (y<=5)));rw[z,hc,Bool.true_and] at O;subst O;have C1:Hid (∀ w,Calls aB 114 #[E J x,E J 1,E J 120] w λe w'=>e = dX (eA true)/\w=w'):=λw=>Xc x 1 120 true w z.symm;have C2:Hid (∀ w,Calls aB 114 #[E J y,E J 0,E J 5] w λe w'=>e = dX (eA c)/\w=w'):=λw=>Xc y 0 5 c w hc.symm;clear z hc h1;go_enter func184,ntmps184;go_wp2_with fail;refine (C1 _).mono ?_;rintro e w' ⟨rfl,rfl⟩;go_wp2_with fail;refine (C2 _).mono ?_;rintro e w' ⟨rfl,rfl⟩;go_wp2;go_ret;exact⟨rfl,Za HB⟩
 ·have z:(decide (1<=x) && decide (x<=120))=false:=by
   rw[Bool.and_eq_false_iff,decide_eq_false_iff_not,decide_eq_false_iff_not];omega
  rw[z,Bool.false_and] at O;subst O;have C1:Hid (∀ w,Calls aB 114 #[E J x,E J 1,E J 120] w λe w'=>e = dX (eA false)/\w=w'):=λw=>Xc x 1 120 false w z.symm;clear z h1;go_enter func184,ntmps184;go_wp2_with fail;refine (C1 _).mono ?_;rintro e w' ⟨rfl,rfl⟩;go_wp2;go_ret;exact⟨rfl,Za HB⟩
theorem Zkk(x y O y':Int)(a n c)(p:Nat)(b:Bool)(w:World)(h1:w.cell? ⟨p,0,none⟩=some (E J O))(h2:w.cell? ⟨p,1,none⟩=some (E J y'))(hp:p<w.heap.size)
  (hb:(decide (x=O) && decide (y=y'))=b) :
  ZH 187 #[.agg #[E J x,E J y,F a n c],dZ (some ⟨p,0,none⟩)] w (eA b):=by
 subst hb;have z:=Zb (Zg w (dW #[E J x,E J y,F a n c] 124));by_cases hx:x=O
 ·subst hx;by_cases hy:y=y'
  ·subst hy;rw[decide_eq_true rfl,decide_eq_true rfl];go_enter func187,ntmps187;go_wp2;go_ret;exact⟨rfl,Za z⟩
  ·rw[decide_eq_true rfl,decide_eq_false hy];go_enter func187,ntmps187;go_wp2;go_ret;exact⟨rfl,Za z⟩
 ·rw[decide_eq_false hx,Bool.false_and];go_enter func187,ntmps187;go_wp2;go_ret;exact⟨rfl,Za z⟩
def Pg(x:InD):List InD->Nat->Int
 | [],_=>-1
 | y :: r,k=>if Vk x y then k else Pg x r (k+1)
theorem Zfn(x):∀ (l:List InD) (k:Nat),decide (0<=Pg x l k)=l.any (Vk x)
 | [],_=>rfl
 | y :: r,k=>by
  unfold Pg;by_cases h:Vk x y=true
  ·rw[if_pos h];simp[h]
  ·rw[if_neg h,Zfn x r (k+1)];simp[h]
theorem Zhs(x)(l:List InD)(k:Nat)(h:k<l.length):Pg x (l.drop k) k=if Vk x l[k] then (k:Int) else Pg x (l.drop (k+1)) (k+1):=by
 rw[List.drop_eq_getElem_cons h];rfl
theorem Cg(b off n c:Nat)(l:List InD)(x:InD)(p:Nat)(w:World)(hz:l.length=n)(hn:n<=6)(hc:∀ i (h:i<l.length),InAt w b (off+i*3) l[i])
  (h1:w.cell? ⟨p,0,none⟩=some (E J x.1)) (h2:w.cell? ⟨p,1,none⟩=some (E J x.2.1)) :
  ZH 223 #[F (some ⟨b,off,none⟩) n c,.func (.func 187) #[] #[dZ (some ⟨p,0,none⟩)]] w (E J (Pg x l 0)):=by
 have HC:=Zb hc;have HZ:=Zb hz;have H1:=Zb h1;have H2:=Zb h2;clear hc hz h1 h2;go_enter func223,ntmps223;go_wp2
 go_loopw [5,8] (λ_ i wr=>∃ k:Nat,k<=n/\i = E J k/\Hid (Pg x l 0=Pg x (l.drop k) k)/\ZD w wr) (λ_ i _=>n - (aV i).toNat)
 case atStart=>exact⟨0,aP _,rfl,rfl,Below.refl _ _⟩
 case round=>
  obtain⟨k,hk,rfl,A,z⟩:=hrel;have HB:=Zb z;by_cases av:k<n
  ·have al:k<l.length:=(by rw[Za HZ];exact av);have ak:=InAt.kept _ _ _ _ _ z (HC k al);have S:=Zb (Zhs x l k al);obtain⟨y,hy⟩:=ZF (l[k]);rw[hy] at ak S;obtain⟨g1,g2,ka,kn,kc,g3,_,_⟩:=ak
   have C1:Hid (∀ q,Vk x y=q->Calls aB 187 #[.agg #[E J y.1,E J y.2.1,F ka kn kc],dZ (some ⟨p,0,none⟩)] wr λe w'=>e = dX (eA q)/\ZD wr w'):=
    λq hq=>Zkk y.1 y.2.1 x.1 x.2.1 ka kn kc p q wr (Zc z H1) (Zc z H2) (aC _ _ (Zc z H1)) hq
   by_cases O:Vk x y=true
   ·have S2:Hid (Pg x l 0=k):=(by show _=_;rw[Za A,Za S,if_pos O]);have C2:=Zb (C1 true O);clear A O z hy;go_wp2_with fail;refine C2.mono ?_;rintro e w' ⟨rfl,ab⟩;have ae:=Zb (Ze HB ab);clear ab;go_wp2;go_ret;exact⟨by rw[Za S2];rfl,Za ae⟩
   ·have am:Vk x y=false:=(by simpa using O);have S2:Hid (Pg x l 0=Pg x (l.drop (k+1)) (k+1)):=(by show _=_;rw[Za A,Za S,if_neg O]);have C2:=Zb (C1 false am);clear A O am z hy;go_wp2_with fail;refine C2.mono ?_;rintro e w' ⟨rfl,ab⟩;have ae:=Zb (Ze HB ab);clear ab;go_wp2;go_roundw
    case rel=>exact⟨k+1,by omega,by go_num,S2,Za ae⟩
    case measure=>simp[aV];omega
  ·have S2:Hid (Pg x l 0 = -1):=by
    show _=_;rw[Za A,List.drop_of_length_le (by rw[Za HZ];omega)];rfl
   clear A z;go_wp2;go_ret;exact⟨by rw[Za S2];rfl,Za HB⟩
theorem Ch(a c v)(w) :
  Calls aB 223 #[F a 0 c,v] w λe w'=>e = dX (E J (-1))/\w=w':=by
 go_enter func223,ntmps223;go_wp2;refine aQ 1 ?_;rw[aL];go_wp2;go_ret;exact⟨rfl,rfl⟩
theorem Zbm(a)(n c:Nat)(l)(x:InD)(p:Nat)(w:World)(hn:n<=6)(h:InsAt w a n l)
  (h1:w.cell? ⟨p,0,none⟩=some (E J x.1)) (h2:w.cell? ⟨p,1,none⟩=some (E J x.2.1)) :
  ZH 223 #[F a n c,.func (.func 187) #[] #[dZ (some ⟨p,0,none⟩)]] w (E J (Pg x l 0)):=by
 obtain⟨z,O⟩:=h;by_cases h0:n=0
 ·subst h0;have e:l=[]:=aJ.1 z;subst e;exact (Ch a c _ w).mono λe w' ⟨q1,q2⟩=>⟨q1,q2 ▸ Below.refl _ _⟩
 ·obtain⟨b,off,rfl,_,aa⟩:=O (by omega);exact Cg b off n c l x p w z hn aa h1 h2
theorem Sv(a)(n c:Nat)(l:List InD)(x:InD)(p:Nat)(o:Bool)(w:World)(hn:n<=6)(h:InsAt w a n l)
  (h1:w.cell? ⟨p,0,none⟩=some (E J x.1)) (h2:w.cell? ⟨p,1,none⟩=some (E J x.2.1)) (ho:l.any (Vk x)=o) :
  ZH 186 #[F a n c,.func (.func 187) #[] #[dZ (some ⟨p,0,none⟩)]] w (eA o):=by
 have O:Hid (decide (0<=Pg x l 0)=o):=by show _=_;rw[Zfn,ho]
 have C:=Zbm a n c l x p w hn h h1 h2;obtain⟨ag,hz⟩:=ZF (Pg x l 0);rw[hz] at C O;have CC:=Zb C;clear C hz h ho h1 h2;cases o with
 | true=>
  have h0:0<=ag:=of_decide_eq_true O;go_enter func186,ntmps186;go_wp2_with fail;refine CC.mono ?_;rintro e w' ⟨rfl,z⟩;have HB:=Zb z;clear z;go_wp2;go_ret;exact⟨rfl,Za HB⟩
 | false=>
  have h2:decide (0<=ag)=false:=Za O;have h1:ag<0:=by have:=of_decide_eq_false h2;omega
  go_enter func186,ntmps186;go_wp2_with fail;refine CC.mono ?_;rintro e w' ⟨rfl,z⟩;have HB:=Zb z;clear z;go_wp2;go_ret;exact⟨rfl,Za HB⟩
theorem Vp(w:World)(x y z)(t:TypeId):(w.alloc (dW #[x,y,z] t)).cell? ⟨w.heap.size,0,none⟩=some x/\(w.alloc (dW #[x,y,z] t)).cell? ⟨w.heap.size,1,none⟩=some y/\(w.alloc (dW #[x,y,z] t)).cell? ⟨w.heap.size,2,none⟩=some z:=
 ⟨by rw[cH _ _ _ _ rfl];rfl,by rw[cH _ _ _ _ rfl];rfl,by rw[cH _ _ _ _ rfl];rfl⟩
theorem Qf(w:World)(x y)(t:TypeId):(w.alloc (dW #[x,y] t)).cell? ⟨w.heap.size,0,none⟩=some x/\(w.alloc (dW #[x,y] t)).cell? ⟨w.heap.size,1,none⟩=some y:=
 ⟨by rw[cH _ _ _ _ rfl];rfl,by rw[cH _ _ _ _ rfl];rfl⟩
theorem Dn(a len cap l)(x:Int)(w:World)(z:chk l=x)(h:OpsAt w a len l) :
  ZH 185 #[F a len cap] w (E J x):=by
 subst z;exact Qj a len cap l w h
theorem Fp(b off n c:Nat)(L:List InD)(w:World)(hn:n<=6)(cb:n<=c)(hz:L.length=n)(bw:b<w.heap.size)(hc:∀ i (h:i<L.length),InAt w b (off+i*3) L[i]) :
  ZH 156 #[F (some ⟨b,off,none⟩) n c] w (E J (Yd [] L)):=by
 have HC:=Zb hc;have HZ:=Zb hz;clear hc hz;go_enter func156,ntmps156;go_wp2
 go_loopw [8] (λi wr=>∃ k:Nat,k<=n/\i = E J k/\Hid (Yd [] L=Yd (L.take k) (L.drop k))/\ZD w wr) (λi _=>n - (aV i).toNat)
 case atStart=>exact⟨0,aP _,rfl,rfl,Below.refl _ _⟩
 case round=>
  obtain⟨k,hk,rfl,A,hb⟩:=hrel;have HB:=Zb hb;by_cases bx:k<n
  ·have be:k<L.length:=(by rw[Za HZ];exact bx);have bo:=InAt.kept _ _ _ _ _ hb (HC k be)
   have IA:Hid (InsAt wr (some ⟨b,off,none⟩) k (L.take k)):=by
    have h0:InsAt wr (some ⟨b,off,none⟩) n L:=⟨Za HZ,λ_=>⟨b,off,rfl,aI bw hb.size,λi hi=>InAt.kept _ _ _ _ _ hb (HC i hi)⟩⟩;exact RowsAt.take h0 k hk
   have ST:=Zb (Lh L k be);have SS:=Zb (Li L k be);obtain⟨x,hx⟩:=ZF (L[k]);rw[hx] at bo ST SS;obtain⟨x1,x2,ae⟩:=x;obtain⟨g1,g2,ka,kn,kc,g3,g4,_⟩:=bo;simp only at g1 g2 g3 g4;have bd:=Zg wr (dW #[E J x1,E J x2,F ka kn kc] 124);obtain⟨n1,n2,n3⟩:=Vp wr (E J x1) (E J x2) (F ka kn kc) 124;have ar:=Zb bd;have KO:=Zb (g4.later bd);have N1:=Zb n1;have N2:=Zb n2;have N3:=Zb n3;clear hb hx g4 bd n1 n2 n3;cases hp:Hi (x1,x2,ae) with
   | false=>
    have C1:=Zb (Rq x1 x2 false _ hp:Calls aB 184 _ (wr.alloc (dW #[E J x1,E J x2,F ka kn kc] 124)) _)
    have R:Hid (Yd [] L=3):=by
     have e:=A7 (pre:=L.take k) hp;show _=_;rw[Za A,(Za ST) (by rw[e];decide),e]
    clear A hp;go_wp2_with fail;refine C1.mono ?_;rintro e w2 ⟨rfl,z⟩;have aa:=Zb (Ze (Ze HB ar) z);clear z;go_wp2;go_ret;exact⟨by rw[Za R];rfl,Za aa⟩
   | true=>
    have C1:=Zb (Rq x1 x2 true _ hp:Calls aB 184 _ (wr.alloc (dW #[E J x1,E J x2,F ka kn kc] 124)) _);have HP:=Zb hp;clear hp;by_cases ab:chk ae=0
    ·cases ht:(L.take k).any (Vk (x1,x2,ae)) with
     | true=>
      have R:Hid (Yd [] L=6):=by
       have e:=G4 (pre:=L.take k) HP ab ht;show _=_;rw[Za A,(Za ST) (by rw[e];decide),e]
      have HT:=Zb ht;have HK:=Zb ab;clear A ht ab;go_wp2_with fail;refine C1.mono ?_;rintro e w2 ⟨rfl,z⟩;have m3:=Zc z N3;have aa:=Zb z;have ao:=Zb (Ze ar z);have bq:wr.heap.size<w2.heap.size:=aC _ _ m3;clear z;go_wp2_with fail;refine (Dn ka kn kc ae 0 _ HK (KO.later aa)).mono ?_;rintro e w3 ⟨rfl,O⟩;have af:=Zb (Ze ao O);have CT:=Zb (Sv (some ⟨b,off,none⟩) k c (L.take k) (x1,x2,ae) wr.heap.size true w3 (by omega) (IA.later af) (Zc O (Zc aa N1)) (Zc O (Zc aa N2)) HT);clear O m3;go_wp2_with fail;refine CT.mono ?_;rintro e w4 ⟨rfl,aq⟩;have aw:=Zb (Ze (Ze HB af) aq);clear aq;go_wp2;go_ret;exact⟨by rw[Za R];rfl,Za aw⟩
     | false=>
      have R:Hid (Yd [] L=Yd (L.take (k+1)) (L.drop (k+1))):=by
       have e:=A8 (pre:=L.take k) HP ab ht;show _=_;rw[Za A,(Za SS) e]
      have HT:=Zb ht;have HK:=Zb ab;clear A ht ab;go_wp2_with fail;refine C1.mono ?_;rintro e w2 ⟨rfl,z⟩;have m3:=Zc z N3;have aa:=Zb z;have ao:=Zb (Ze ar z);have bq:wr.heap.size<w2.heap.size:=aC _ _ m3;clear z;go_wp2_with fail;refine (Dn ka kn kc ae 0 _ HK (KO.later aa)).mono ?_;rintro e w3 ⟨rfl,O⟩;have af:=Zb (Ze ao O);have CT:=Zb (Sv (some ⟨b,off,none⟩) k c (L.take k) (x1,x2,ae) wr.heap.size false w3 (by omega) (IA.later af) (Zc O (Zc aa N1)) (Zc O (Zc aa N2)) HT);clear O m3;go_wp2_with fail;refine CT.mono ?_;rintro e w4 ⟨rfl,aq⟩;have aw:=Zb (Ze (Ze HB af) aq);clear aq;go_wp2;go_roundw
      case rel=>exact⟨k+1,by omega,by go_num,R,Za aw⟩
      case measure=>simp[aV];omega
    ·obtain⟨cd,hz⟩:=ZF (chk ae)
     have R:Hid (Yd [] L=cd):=by
      have e:=Dr (pre:=L.take k) HP ab;show _=_;rw[Za A,(Za ST) (by rw[e];exact ab),e];exact hz
     have HK:=Zb hz;rw[hz] at ab;have gz:(cd != 0)=true:=(by simp[ab]);clear A hz ab;go_wp2_with fail;refine C1.mono ?_;rintro e w2 ⟨rfl,z⟩;have m3:=Zc z N3;have aa:=Zb z;have ao:=Zb (Ze ar z);have bq:wr.heap.size<w2.heap.size:=aC _ _ m3;clear z;go_wp2_with fail;refine (Dn ka kn kc ae cd _ HK (KO.later aa)).mono ?_;rintro e w3 ⟨rfl,O⟩;have af:=Zb (Ze (Ze HB ao) O);clear O m3;go_wp2;go_ret;exact⟨by rw[Za R];rfl,Za af⟩
  ·have R:Hid (Yd [] L=0):=(by show _=_;rw[Za A,Dp L k (by rw[Za HZ];omega)]);clear A hb;go_wp2;go_ret;exact⟨by rw[Za R];rfl,Za HB⟩
theorem Fq(a c)(w) :
  Calls aB 156 #[F a 0 c] w λe w'=>e = dX (E J 0)/\w=w':=by
 go_enter func156,ntmps156;go_wp2;refine aQ 1 ?_;rw[aL];go_wp2;go_ret;exact⟨rfl,rfl⟩
theorem Lk(a)(n c:Nat)(L)(x:Int)(w:World)(hn:n<=6)(hs:SlOk a n c)(h:InsAt w a n L)(hx:Yd [] L=x) :
  ZH 156 #[F a n c] w (E J x):=by
 subst hx;obtain⟨z,O⟩:=h;by_cases h0:n=0
 ·subst h0;have e:L=[]:=aJ.1 z;subst e;exact (Fq a c w).mono λe w' ⟨q1,q2⟩=>⟨q1,q2 ▸ Below.refl _ _⟩
 ·obtain⟨b,off,rfl,hl,aa⟩:=O (by omega);exact Fp b off n c L w hn hs.1 z hl aa
theorem Tryz.infoInt:(Tryz.prog.info? 3).map (λi=>(i.zero,i.size,i.bytes))=some (some (E J 0),1,8):=by kernel_rfl
def Zgj(L:List Ya)(j:Nat):Value:=E J ((L.map (·.1)).getD j 0)
theorem Ps{x:Ya}(h:x.1<1):Xe x=3:=by unfold Xe;rw[if_pos h]
theorem Um{x:Ya}(h:¬x.1<1):Xe x=chk x.2:=by unfold Xe;rw[if_neg h]
theorem Dw(b off n c:Nat)(L:List Ya)(w:World)(hn:n<=6)(bf:0<n)(O:L.length=n)(hc:∀ i (h:i<L.length),OutAt w b (off+i*2) L[i]) :
  ZH 157 #[F (some ⟨b,off,none⟩) n c] w (E J (Zw L)):=by
 obtain⟨i0,hi,ca,cb,cc⟩:=info_parts Tryz.infoInt;have HC:=Zb hc;have HZ:=Zb O;have HP:=Zb bf;clear hc O bf;go_enter func157,ntmps157
 go_wp2_with (at_make;refine wpList_make_full _ rfl _ _ 25 rfl w.heap.size 3 i0 (E J 0) 1 underlying25 hi ca cb .i64 .i64 _ _ n rfl rfl rfl rfl (by rw[cc];omega) (by unfold cD;omega) (aE _) ?_;intro w2 be bc)
 have bi:FillV w.heap.size 3 n (Zgj L) w w2 0:=⟨⟨_,be,λj hj=>absurd hj (by omega)⟩,(Below.refl _ _).grown bc (aE _) (λk h=>by cases h)⟩;have bu:=Zb bi;clear bi be bc
 go_loopw [14] (λi wr=>∃ k:Nat,k<=n/\i = E J k/\Hid (Yc L=Yc (L.drop k))/\FillV w.heap.size 3 n (Zgj L) w wr k) (λi _=>n - (aV i).toNat)
 case atStart=>exact⟨0,aP _,rfl,rfl,Za bu⟩
 case round=>
  obtain⟨k,hk,rfl,A,ad⟩:=hrel;have HF:=Zb ad;have hb:ZD w wr:=ad.bel;have HB:=Zb hb;by_cases ah:k<n
  ·have ag:k<L.length:=(by rw[Za HZ];exact ah);have bd:=OutAt.kept _ _ _ _ _ hb (HC k ag);have ST:=Zb (Ry L k ag);have SS:=Zb (Rz L k ag);have aw:Zgj L k = E J (L[k]).1:=(by unfold Zgj;simp[ag]);obtain⟨x,hx⟩:=ZF (L[k]);rw[hx] at bd ST SS aw;have br:=Zb aw;obtain⟨x1,aa⟩:=x;obtain⟨g1,ka,kn,kc,g3,g4,_⟩:=bd;simp only at g1 g3 g4;have av:=Zg wr (dW #[E J x1,F ka kn kc] 101);obtain⟨n1,n2⟩:=Qf wr (E J x1) (F ka kn kc) 101;have an:=Zb av;have KO:=Zb (g4.later av);have N1:=Zb n1;have N2:=Zb n2;clear hb hx g4 av n1 n2 ad aw;by_cases ax:x1<1
   ·have R:Hid (Zw L=3):=by
     have e:Xe (x1,aa)=3:=Ps ax;have e2:Yc L=3:=(by rw[Za A,(Za ST) (by rw[e];decide),e]);show _=_;unfold Zw;rw[e2];rfl
    have bn:=Zb (Ze HB an);clear A;go_wp2;go_ret;exact⟨by rw[Za R];rfl,Za bn⟩
   ·by_cases z:chk aa=0
    ·have R:Hid (Yc L=Yc (L.drop (k+1))):=by
      have e:Xe (x1,aa)=0:=(by rw[Um ax];exact z);show _=_;rw[Za A,(Za SS) e]
     have HK:=Zb z;clear A z;go_wp2_with fail;refine (Dn ka kn kc aa 0 _ HK KO).mono ?_;rintro e w3 ⟨rfl,ab⟩;have m1:=Zc ab N1;have af:=(HF.keep an).keep ab;obtain⟨v,cl⟩:=af.old ah;have ci:=af.free k;have bt:=Zb af;have cm:wr.heap.size<w3.heap.size:=aC _ _ m1;clear ab af;go_wp2;go_roundw
     case rel=>exact⟨k+1,by omega,by go_num,R,bt.step ah br.symm⟩
     case measure=>simp[aV];omega
    ·obtain⟨cp,O⟩:=ZF (chk aa)
     have R:Hid (Zw L=cp):=by
      have e:Xe (x1,aa)=chk aa:=Um ax;have e2:Yc L=cp:=(by rw[Za A,(Za ST) (by rw[e];exact z),e];exact O);show _=_;unfold Zw;rw[e2,if_neg (by rw[<-O];exact z)]
     have HK:=Zb O;rw[O] at z;have gz:(cp != 0)=true:=(by simp[z]);clear A O z;go_wp2_with fail;refine (Dn ka kn kc aa cp _ HK KO).mono ?_;rintro e w3 ⟨rfl,ab⟩;have bo:=Zb (Ze (Ze HB an) ab);clear ab;go_wp2;go_ret;exact⟨by rw[Za R];rfl,Za bo⟩
  ·have e:k=n:=(by omega);subst e
   have R:Hid (Zw L=(sm 0 (L.map (·.1))).2):=by
    show _=_;unfold Zw;rw[Za A,Tt L k (by rw[Za HZ];exact aE _)];rfl
   have bg:RowAt wr (some ⟨w.heap.size,0,none⟩) k (L.map (·.1)):=by
    refine⟨by rw[List.length_map];exact Za HZ,by unfold cD;omega,λ_=>⟨w.heap.size,0,rfl,λi hi=>?_⟩⟩;rw[Nat.zero_add,ad.cells (aE _) i hi];rfl
   have SM:=Zb (Znu (some ⟨w.heap.size,0,none⟩) k k (L.map (·.1)) wr bg);obtain⟨s,hs⟩:=ZF (sm 0 (L.map (·.1)));rw[hs] at SM R;obtain⟨s1,s2⟩:=s;clear A hb ad bg hs ah hk;go_wp2_with fail;refine SM.mono ?_;rintro e w' ⟨rfl,rfl⟩;go_wp2;go_ret;exact⟨by rw[Za R];rfl,Za HB⟩
theorem Cy(a)(n c:Nat)(L)(x:Int)(w:World)(hn:n<=6)(z:0<n)(h:OutsAt w a n L)(hx:Zw L=x) :
  ZH 157 #[F a n c] w (E J x):=by
 subst hx;obtain⟨hz,O⟩:=h;obtain⟨b,off,rfl,_,aa⟩:=O z;exact Dw b off n c L w hn z hz aa
theorem So(h:Int)(ai ao)(O ci no co:Nat)(o:Bool)(w:World)(z:(if O=0 then decide (1<=h) && decide (h<=1000) else decide (h=0))=o) :
  ZH 155 #[.agg #[E J h,F ai O ci,F ao no co]] w (eA o):=by
 have HB:=Zb (Zg w (dW #[E J h,F ai O ci,F ao no co] 52));by_cases h0:O=0
 ·subst h0;rw[if_pos rfl] at z;have C:Hid (∀ w,Calls aB 114 #[E J h,E J 1,E J 1000] w λe w'=>e = dX (eA o)/\w=w'):=λw=>Xc h 1 1000 o w z.symm;clear z;go_enter func155,ntmps155;go_wp2_with fail;refine (C _).mono ?_;rintro e w' ⟨rfl,rfl⟩;go_wp2;go_ret;exact⟨rfl,Za HB⟩
 ·rw[if_neg h0] at z;have g:((O:Int) == 0)=false:=by simp;omega
  by_cases hh:h=0
  ·rw[decide_eq_true hh] at z;subst z hh;go_enter func155,ntmps155;go_wp2;go_ret;exact⟨rfl,Za HB⟩
  ·rw[decide_eq_false hh] at z;subst z;have g2:(h == 0)=false:=(by simp[hh]);go_enter func155,ntmps155;go_wp2;go_ret;exact⟨rfl,Za HB⟩
theorem Mb(h:Int)(I:List InD)(O)(z:Nat)(hz:I.length=z):Da (h,I,O)=if z=0 then decide (1<=h) && decide (h<=1000) else decide (h=0):=by
 unfold Da;simp only[hz]
theorem R9(h:Int)(bv ao z ci no co I O)(w:World)(hI:InsAt w bv z I)(hO:OutsAt w ao no O)(sI:SlOk bv z ci) :
  ZH 116 #[.agg #[E J h,F bv z ci,F ao no co]] w (E J (Zr (h,I,O))):=by
 have hb:=Zg w (dW #[E J h,F bv z ci,F ao no co] 52);obtain⟨n0,n1,n2⟩:=Vp w (E J h) (F bv z ci) (F ao no co) 52;have HB:=Zb hb;have N0:=Zb n0;have N1:=Zb n1;have N2:=Zb n2;have HI:=Zb (hI.later hb);have HO:=Zb (hO.later hb);have HS:=Zb sI;have zi:=hI.1;have zo:=hO.1;clear hb n0 n1 n2 hI hO sI;by_cases h1:6<z
 ·have e:Zr (h,I,O)=2:=by unfold Zr;rw[if_pos (Or.inl (by show 6<I.length;omega))]
  rw[e];have g:(6:Int)<(z:Int):=by omega
  clear e h1 zi zo;go_enter func116,ntmps116;go_wp2;go_ret;exact⟨rfl,Za HB⟩
 ·by_cases h2:6<no
  ·have e:Zr (h,I,O)=2:=(by unfold Zr;rw[if_pos (Or.inr (by show 6<O.length;omega))]);rw[e];have g:¬(6:Int)<(z:Int):=(by omega);have g':(6:Int)<(no:Int):=(by omega);clear e h1 h2 zi zo;go_enter func116,ntmps116;go_wp2;go_ret;exact⟨rfl,Za HB⟩
  ·have g:¬(6:Int)<(z:Int):=(by omega);have g':¬(6:Int)<(no:Int):=(by omega);have e1:¬(6<I.length\/6<O.length):=(by omega);by_cases h3:no=0
   ·have e:Zr (h,I,O)=4:=(by unfold Zr;rw[if_neg e1,if_pos (by show O.length=0;omega)]);rw[e];subst h3;clear e e1 h1 h2 zi zo;go_enter func116,ntmps116;go_wp2;go_ret;exact⟨rfl,Za HB⟩
   ·have g3:((no:Int) == 0)=false:=(by simp;omega);have e3:¬O.length=0:=(by omega);cases hf:Da (h,I,O) with
    | false=>
     have e:Zr (h,I,O)=3:=(by unfold Zr;rw[if_neg e1,if_neg e3,if_pos hf]);rw[e];have C:=Zb (So h bv ao z ci no co false (w.alloc (dW #[E J h,F bv z ci,F ao no co] 52)) (by rw[<-Mb h I O z zi];exact hf));clear e e1 e3 h1 h2 h3 zi zo hf;go_enter func116,ntmps116;go_wp2_with fail;refine C.mono ?_;rintro e w2 ⟨rfl,aa⟩;have ak:=Zb (Ze HB aa);clear aa;go_wp2;go_ret;exact⟨rfl,Za ak⟩
    | true=>
     have C:=Zb (So h bv ao z ci no co true (w.alloc (dW #[E J h,F bv z ci,F ao no co] 52)) (by rw[<-Mb h I O z zi];exact hf));have e4:¬Da (h,I,O)=false:=(by rw[hf];decide);by_cases h5:Yd [] I=0
     ·obtain⟨bw,hz⟩:=ZF (Zw O)
      have e:Zr (h,I,O)=bw:=by
       unfold Zr;rw[if_neg e1,if_neg e3,if_neg e4,if_neg (by intro q;exact q h5)];exact hz
      rw[e];have H5:=Zb h5;have HZ:=Zb hz;have ar:Hid (z<=6):=(by show _<=_;omega);have ay:Hid (no<=6/\0<no):=⟨by omega,by omega⟩;clear e e1 e3 e4 h1 h2 h3 zi zo hf h5 hz;go_enter func116,ntmps116;go_wp2_with fail;refine C.mono ?_;rintro e w2 ⟨rfl,aa⟩;have m1:=Zc aa N1;have M2:=Zb (Zc aa N2);have bd:w.heap.size<w2.heap.size:=aC _ _ m1;have CI:=Zb (Lk bv z ci I 0 w2 ar HS (HI.later aa) H5);have ak:=Zb aa;clear aa;go_wp2_with fail;refine CI.mono ?_;rintro e w3 ⟨rfl,ai⟩;have m2:=Zc ai M2;have bt:w.heap.size<w3.heap.size:=aC _ _ m2;have CO:=Zb (Cy ao no co O bw w3 ay.1 ay.2 ((HO.later ak).later ai) HZ);have au:=Zb (Ze (Ze HB ak) ai);clear ai m1 bd;go_wp2_with fail;refine CO.mono ?_;rintro e w4 ⟨rfl,bc⟩;have bi:=Zb (Ze au bc);clear bc;go_wp2;go_ret;exact⟨rfl,Za bi⟩
     ·obtain⟨bw,hz⟩:=ZF (Yd [] I)
      have e:Zr (h,I,O)=bw:=by
       unfold Zr;rw[if_neg e1,if_neg e3,if_neg e4,if_pos h5];exact hz
      rw[e];have HZ:=Zb hz;rw[hz] at h5;have gz:(bw != 0)=true:=(by simp[h5]);have ar:Hid (z<=6):=(by show _<=_;omega);clear e e1 e3 e4 h1 h2 h3 zi zo hf h5 hz;go_enter func116,ntmps116;go_wp2_with fail;refine C.mono ?_;rintro e w2 ⟨rfl,aa⟩;have m1:=Zc aa N1;have bd:w.heap.size<w2.heap.size:=aC _ _ m1;have CI:=Zb (Lk bv z ci I bw w2 ar HS (HI.later aa) HZ);have ak:=Zb aa;clear aa;go_wp2_with fail;refine CI.mono ?_;rintro e w3 ⟨rfl,ai⟩;have au:=Zb (Ze (Ze HB ak) ai);clear ai;go_wp2;go_ret;exact⟨rfl,Za au⟩
theorem G6(w:World)(n:Nat):ZD w (w.drewN n):=⟨rfl,rfl,rfl,aE _,λ_ _=>rfl⟩
theorem Fy{α : Type}{l k:List α}{j:Nat}(h1:j<l.length)(h2:j<k.length)(h:l.take j=k.take j)(e:l[j]=k[j]):l.take (j+1)=k.take (j+1):=by
 rw[aM h1,aM h2,h,e]
theorem Kd{α : Type}{l k:List α}{j:Nat}(h1:j<l.length)(h2:j<k.length)(e:l[j]≠k[j]):l≠k:=λh=>by
 subst h;exact e rfl
theorem Zec(b1 o1 b2 o2 n c d:Nat)(l k:List (Int×Int))(o:Bool)(w:World)(hn:n<=cD)(z1:l.length=n)(z2:k.length=n)
  (h1:∀ i,i<n->w.cell? ⟨b1,o1+i*2,none⟩=some (E J (l.getD i (0,0)).1)/\w.cell? ⟨b1,o1+i*2+1,none⟩=some (E J (l.getD i (0,0)).2))
  (h2:∀ i,i<n->w.cell? ⟨b2,o2+i*2,none⟩=some (E J (k.getD i (0,0)).1)/\w.cell? ⟨b2,o2+i*2+1,none⟩=some (E J (k.getD i (0,0)).2)) (ho:decide (l=k)=o) :
  Calls aB 62 #[F (some ⟨b1,o1,none⟩) n c,F (some ⟨b2,o2,none⟩) n d] w λe w'=>e = dX (eA o)/\∃ m,w'=w.drewN m:=by
 subst ho;unfold cD at hn;have H1:=Zb h1;have H2:=Zb h2;have Z1:=Zb z1;have Z2:=Zb z2;clear h1 h2 z1 z2;go_enter func62,ntmps62;go_wp2
 go_loopw [13] (λi wr=>∃ j m:Nat,j<=n/\i = E J j/\wr=w.drewN m/\Hid (l.take j=k.take j)) (λi _=>n - (aV i).toNat)
 case atStart=>exact⟨0,0,aP _,rfl,rfl,rfl⟩
 case round=>
  obtain⟨j,m,hk,rfl,rfl,A⟩:=hrel;by_cases z:j<n
  ·have ae:j<l.length:=(by rw[Za Z1];exact z);have af:j<k.length:=(by rw[Za Z2];exact z);obtain⟨g1,g2⟩:=H1 j z;obtain⟨g3,g4⟩:=H2 j z;have e1:l.getD j (0,0)=l[j]:=(by simp[ae]);have e2:k.getD j (0,0)=k[j]:=(by simp[af]);rw[e1] at g1 g2;rw[e2] at g3 g4;have TS:=Zb (Fy ae af A);have O:=Zb (Kd ae af);obtain⟨q,hq⟩:=ZF (l[j]);obtain⟨r,hr⟩:=ZF (k[j]);rw[hq] at g1 g2;rw[hr] at g3 g4;rw[hq,hr] at TS O;obtain⟨q1,q2⟩:=q;obtain⟨r1,r2⟩:=r;simp only at g1 g2 g3 g4;clear hq hr e1 e2 A;by_cases he:q1=r1
   ·subst he;by_cases hf:q2=r2
    ·subst hf;have T:=Zb (TS rfl);go_wp2
     go_quiet (fail)
     go_wp2;go_roundw
     case rel=>exact⟨j+1,m+nq,by omega,by go_num,rfl,T⟩
     case measure=>simp[aV];omega
    ·have U:Hid (decide (l=k)=false):=decide_eq_false (O (λe=>hf (by injection e)));go_wp2
     go_quiet (fail)
     go_wp2;go_ret;exact⟨by rw[Za U];rfl,m+nq,by simp[World.drewN,Nat.add_assoc]⟩
   ·have U:Hid (decide (l=k)=false):=decide_eq_false (O (λe=>he (by injection e)));go_wp2
    go_quiet (fail)
    go_wp2;go_ret;exact⟨by rw[Za U];rfl,m+nq,by simp[World.drewN,Nat.add_assoc]⟩
  ·have U:Hid (decide (l=k)=true):=by
    have h:=Za A;rw[aY (by rw[Za Z1];omega),aY (by rw[Za Z2];omega)] at h;exact decide_eq_true h
   clear A;go_wp2;go_ret;exact⟨by rw[Za U];rfl,m,rfl⟩
theorem Zee(a b)(n m c d:Nat)(w)(h:n≠m) :
  Calls aB 62 #[F a n c,F b m d] w λe w'=>e = dX (eA false)/\w=w':=by
 have g:((n:Int) != (m:Int))=true:=by simp;omega
 clear h;go_enter func62,ntmps62;go_wp2;go_ret;exact⟨rfl,rfl⟩
theorem Zed(a b c d)(w) :
  Calls aB 62 #[F a 0 c,F b 0 d] w λe w'=>e = dX (eA true)/\w=w':=by
 go_enter func62,ntmps62;go_wp2;refine aQ 1 ?_;rw[aL];go_wp2;go_ret;exact⟨rfl,rfl⟩
theorem Zbs(a b)(n m c d:Nat)(l k)(o:Bool)(w:World)(hn:n<=cD)(O:OpsAt w a n l)(hB:OpsAt w b m k)(z:decide (l=k)=o) :
  ZH 62 #[F a n c,F b m d] w (eA o):=by
 by_cases h:n=m
 ·subst h;by_cases h0:n=0
  ·subst h0;have e1:l=[]:=aJ.1 O.1;have e2:k=[]:=aJ.1 hB.1;subst e1 e2;rw[decide_eq_true rfl] at z;subst z;exact (Zed a b c d w).mono λe w' ⟨h1,h2⟩=>⟨h1,h2 ▸ Below.refl _ _⟩
  ·obtain⟨b1,o1,rfl,h1⟩:=O.2 (by omega);obtain⟨b2,o2,rfl,h2⟩:=hB.2 (by omega);exact (Zec b1 o1 b2 o2 n c d l k o w hn O.1 hB.1 h1 h2 z).mono λe w' ⟨e1,q,e2⟩=>⟨e1,by rw[e2];exact G6 w q⟩
 ·have e:l≠k:=λe=>h (by rw[<-O.1,<-hB.1,e]);rw[decide_eq_false e] at z;subst z;exact (Zee a b n m c d w h).mono λe w' ⟨h1,h2⟩=>⟨h1,h2 ▸ Below.refl _ _⟩
theorem Zda(x y:Ya)(a b)(n c m d:Nat)(o:Bool)(w:World)(hn:n<=cD)(O:OpsAt w a n x.2)(hB:OpsAt w b m y.2)(ho:decide (x=y)=o) :
  ZH 95 #[.agg #[E J x.1,F a n c],.agg #[E J y.1,F b m d]] w (eA o):=by
 obtain⟨x1,k⟩:=x;obtain⟨y1,l⟩:=y;simp only at O hB ⊢;have z:=Ze (Zg w (dW #[E J x1,F a n c] 101)) (Zg _ (dW #[E J y1,F b m d] 101));have HB:=Zb z;by_cases h1:x1=y1
 ·subst h1;have C:=Zb (Zbs a b n m c d k l o _ hn (O.later z) (hB.later z) (by rw[<-ho];simp));clear O hB z ho;go_enter func95,ntmps95;go_wp2_with fail;refine C.mono ?_;rintro e w2 ⟨rfl,af⟩;have ag:=Zb (Ze HB af);clear af;go_wp2;go_ret;exact⟨rfl,Za ag⟩
 ·have e:o=false:=by rw[<-ho];exact decide_eq_false (λe=>h1 (by injection e))
  have g:(x1 == y1)=false:=by simp[h1]
  subst e;clear O hB z ho;go_enter func95,ntmps95;go_wp2;go_ret;exact⟨rfl,Za HB⟩
theorem Kh(x y:Ya)(a b)(n c m d:Nat)(o:Bool)(w:World)(hn:n<=cD)(O:OpsAt w a n x.2)(hB:OpsAt w b m y.2)(ho:decide (x=y)=o) :
  ZH 44 #[.agg #[E J x.1,F a n c],.agg #[E J y.1,F b m d]] w (eA o):=by
 obtain⟨x1,k⟩:=x;obtain⟨y1,l⟩:=y;simp only at O hB ⊢;have z:=Ze (Zg w (dW #[E J x1,F a n c] 101)) (Zg _ (dW #[E J y1,F b m d] 101));have HB:=Zb z;by_cases h1:x1=y1
 ·subst h1;have C:=Zb (Zbs a b n m c d k l o _ hn (O.later z) (hB.later z) (by rw[<-ho];simp));clear O hB z ho;go_enter func44,ntmps44;go_wp2_with fail;refine C.mono ?_;rintro e w2 ⟨rfl,af⟩;have ag:=Zb (Ze HB af);clear af;go_wp2;go_ret;exact⟨rfl,Za ag⟩
 ·have e:o=false:=by rw[<-ho];exact decide_eq_false (λe=>h1 (by injection e))
  have g:(x1 == y1)=false:=by simp[h1]
  subst e;clear O hB z ho;go_enter func44,ntmps44;go_wp2;go_ret;exact⟨rfl,Za HB⟩
theorem Bc(w:World):ZD w w.drew:=⟨rfl,rfl,rfl,aE _,λ_ _=>rfl⟩
theorem Dq:∀ (L pre:List InD),Yd pre L=0->∀ x∈L,Hi x=true/\chk x.2.2=0
 | [],_,_,x,z=>by cases z
 | y :: r,pre,h,x,z=>by
  unfold Yd at h;split at h
  ·rename_i h1
   rcases bU.1 z with rfl|z
   ·unfold Vd at h1;split at h1
    ·cases h1
    ·rename_i h2;split at h1
     ·rename_i h3;exact absurd h1 h3
     ·rename_i h3;exact⟨by simpa using h2,by simpa using h3⟩
   ·exact Dq r _ h x z
  ·contradiction
theorem Lg:∀ (L:List Ya),Yc L=0->∀ x∈L,1<=x.1/\chk x.2=0
 | [],_,x,z=>by cases z
 | y :: r,h,x,z=>by
  unfold Yc at h;split at h
  ·rename_i h1
   rcases bU.1 z with rfl|z
   ·unfold Xe at h1;split at h1
    ·cases h1
    ·rename_i h2;exact⟨by omega,h1⟩
   ·exact Lg r h x z
  ·contradiction
theorem Zkh:∀ (Z:List Int) (s:Int),(sm s Z).2=0->∀ aa∈Z,0<=aa/\aa<=1000000000
 | [],_,_,aa,z=>by cases z
 | y :: r,s,h,aa,z=>by
  unfold sm at h;split at h
  ·rename_i h1;split at h
   ·rcases bU.1 z with rfl|z
    ·exact h1
    ·exact Zkh r _ h aa z
   ·cases h
  ·cases h
structure TxOk(t:TxD):Prop where
 ins6:t.2.1.length<=6
 outs6:t.2.2.length<=6
 some:0<t.2.2.length
 hgt:0<=t.1/\t.1<=1000
 fit:Da t=true
 chkI:Yd [] t.2.1=0
 ins:∀ x∈t.2.1,Hi x=true/\chk x.2.2=0
 outs:∀ x∈t.2.2,(1<=x.1/\x.1<=1000000000)/\chk x.2=0
theorem TxOk.of{t}(h:Zr t=0):TxOk t:=by
 unfold Zr at h;split at h
 ·cases h
 ·rename_i h1;split at h
  ·cases h
  ·rename_i h2;split at h
   ·cases h
   ·rename_i h3;split at h
    ·rename_i h4;exact absurd h h4
    ·rename_i h4;have O:Yd [] t.2.1=0:=(by simpa using h4);have z:Da t=true:=(by simpa using h3);unfold Zw at h;split at h
     ·rename_i h5;refine⟨by omega,by omega,by omega,?_,z,O,Dq _ _ O,λx hx=>?_⟩
      ·unfold Da at z;split at z
       ·simp only[Bool.and_eq_true,decide_eq_true_eq] at z;omega
       ·have:t.1=0:=(by simpa using z);omega
      ·have a:=Lg _ h5 x hx;have b:=Zkh _ _ h x.1 (List.mem_map.2 ⟨x,hx,rfl⟩);exact⟨⟨a.1,b.2⟩,a.2⟩
     ·contradiction
theorem Tg(x:InD):Hi x=true↔(1<=x.1/\x.1<=120)/\(0<=x.2.1/\x.2.1<=5):=by
 unfold Hi;simp only[Bool.and_eq_true,decide_eq_true_eq]
def Vl(z:ByteArray)(Z:List Int):ByteArray:=Z.foldl (λt aa=>t++(⟨#[32]⟩++X4 aa)) z
theorem F6(z:ByteArray)(Z)(aa:Int):Vl z (Z++[aa])=Vl z Z++(⟨#[32]⟩++X4 aa):=by unfold Vl;rw[List.foldl_append];rfl
theorem Vi(n:Int)(h : -10000000000<=n/\n<=10000000000):(X4 n).size<=21:=by
 have:=Lib.itoa_length_le n (by omega) (by omega);simpa[X4,ByteArray.size] using this
theorem Nl(x:ByteArray)(c:UInt8):((⟨#[c]⟩:ByteArray)++x).size=x.size+1:=by rw[ByteArray.size_append];show 1+x.size=_;omega
theorem Qm(x:ByteArray)(c:UInt8):(x++(⟨#[c]⟩:ByteArray)).size=x.size+1:=by rw[ByteArray.size_append];rfl
theorem Rt{α : Type}(f : α->ByteArray)(m:Nat):∀ (Z:List α) (t:ByteArray),(∀ z∈Z,(f z).size<=m)->(Z.foldl (λt z=>t++f z) t).size<=t.size+m*Z.length
 | [],t,_=>by simp
 | z :: r,t,h=>by
  have h1:=Rt f m r (t++f z) (λy O=>h y (by simp[O]));have h2:=h z (by simp);rw[ByteArray.size_append] at h1;simp only[List.foldl_cons,dQ,Nat.mul_add,Nat.mul_one];omega
theorem Ui(O:ByteArray)(Z:List Int)(h:∀ z∈Z,-10000000000<=z/\z<=10000000000):(Vl O Z).size<=O.size+22*Z.length:=
 Rt (λz=>(⟨#[32]⟩:ByteArray)++X4 z) 22 Z O (λz hz=>by rw[Nl];have:=Vi z (h z hz);omega)
theorem Jk(z:ByteArray)(b off n c:Nat)(Z:List Int)(w:World)(hE:Env w)(hw:z.size<=10)(hn:n<=6)(hz:Z.length=n)(hl:b<w.heap.size)
  (hc:∀ i,i<n->w.cell? ⟨b,off+i,none⟩=some (E J (Z.getD i 0))) (hr:∀ bf∈Z,-10000000000<=bf/\bf<=10000000000) :
  ZH 126 #[.string z,F (some ⟨b,off,none⟩) n c] w (.string (Vl z Z)):=by
 have HE:=Zb hE;have HC:=Zb hc;have HZ:=Zb hz;have HR:=Zb hr;clear hE hc hz hr;go_enter func126,ntmps126;go_wp2
 go_loopw [5,11] (λs i wr=>∃ k:Nat,k<=n/\i = E J k/\s = .string (Vl z (Z.take k))/\ZD w wr) (λ_ i _=>n - (aV i).toNat)
 case atStart=>exact⟨0,aP _,rfl,rfl,Below.refl _ _⟩
 case round=>
  obtain⟨k,hk,rfl,rfl,hb⟩:=hrel;have HB:=Zb hb;by_cases an:k<n
  ·have ad:k<Z.length:=(by rw[Za HZ];exact an);have c1:=HC k an;rw[<-hb.cell (p:=⟨b,off+k,none⟩) hl] at c1;have e1:Z.getD k 0=Z[k]:=(by simp[ad]);rw[e1] at c1;have ae:=HR Z[k] (bK ad);have hS:=F6 z (Z.take k) Z[k];rw[<-aM ad] at hS
   have az:(Vl z (Z.take k)).size<=200:=by
    have:=Ui z (Z.take k) (λbf hz=>HR bf (List.mem_of_mem_take hz));rw[bG] at this;omega
   obtain⟨bf,hz⟩:=ZF (Z[k]);rw[hz] at c1 ae hS;obtain⟨T,hT⟩:=ZF (Vl z (Z.take k));rw[hT] at hS az ⊢;have HS:=Zb hS;have bb:=Vi bf ae;have bc:((⟨#[32]⟩:ByteArray)++X4 bf).size<=22:=by rw[Nl];omega
   have IT:Hid (∀ w,Env w->Calls aB 107 #[E J bf] w λe w'=>e = dX (.string (X4 bf))/\ZD w w'):=λw hw=>
    (Tryz.strconv_Itoa bf (by omega) (by omega) w hw.tab).mono λe w' ⟨h1,k,os,h2⟩=>⟨h1,by rw[h2];exact Lib.below_grow _ _ (aE _) k os⟩
   have EE:=Zb (HE.later hb);clear hb hz hT hS e1 ae;go_wp2_with fail;refine (IT _ EE).mono ?_;rintro e w3 ⟨rfl,al⟩;have ar:=Zb (Ze HB al);clear al;go_wp2;go_roundw
   case rel=>exact⟨k+1,by omega,by go_num,by rw[Za HS],Za ar⟩
   case measure=>simp[aV];omega
  ·have e:k=n:=(by omega);subst e;have HT:Hid (Vl z (Z.take k)=Vl z Z):=(by show _=_;rw[aY (by rw[Za HZ];exact aE _)]);clear hb;go_wp2;go_ret;exact⟨L7 HT,Za HB⟩
def Kt(z:ByteArray)(Z:List Int)(l:List (Int×Int)):ByteArray:=((Vl z Z++⟨#[58]⟩)++Yk l)++⟨#[10]⟩
theorem Uq(l)(h:chk l=0):(Yk l).size<=400:=by
 unfold chk at h;split at h
 ·cases h
 ·have:=Th l (by omega) h;simpa[Yk,ByteArray.size] using this
theorem Nw(z:ByteArray)(Z:List Int)(l)(hw:z.size<=10)(hz:Z.length<=2)(hr:∀ ae∈Z,-10000000000<=ae/\ae<=10000000000)(hl:chk l=0):(Kt z Z l).size<=460:=by
 unfold Kt;have h1:=Ui z Z hr;have h2:=Uq l hl;rw[Qm,ByteArray.size_append,Qm];have h3:22*Z.length<=44:=by omega
 omega
theorem Gf(a len cap l)(z:ByteArray)(b off n c:Nat)(Z:List Int)(t:ByteArray)(w:World)(hE:Env w)(hO:OpsAt w a len l)(aa:chk l=0)(hw:z.size<=10)(hn:n<=2)(hz:Z.length=n)(hl:b<w.heap.size)
  (hc:∀ i,i<n->w.cell? ⟨b,off+i,none⟩=some (E J (Z.getD i 0))) (hr:∀ ba∈Z,-10000000000<=ba/\ba<=10000000000) (O:Kt z Z l=t) :
  ZH 138 #[F a len cap,.string z,F (some ⟨b,off,none⟩) n c] w (.string t):=by
 have PR:=Zb (Zhu a len cap l w hE hO);have e:prT l=Yk l:=by unfold prT;rw[if_pos aa]
 rw[e,aa] at PR
 have R:Hid (∀ w',ZD w w'->Calls aB 126 #[.string z,F (some ⟨b,off,none⟩) n c] w' λe w2=>e = dX (.string (Vl z Z))/\ZD w' w2):=λw' hb=>
  Jk z b off n c Z w' (hE.later hb) hw (by omega) hz (aI hl hb.size) (λi hi=>by rw[hb.cell (p:=⟨b,off+i,none⟩) hl];exact hc i hi) hr
 have s1:(Vl z Z).size<=54:=by have:=Ui z Z hr;omega
 have s2:=Uq l aa;unfold Kt at O;obtain⟨A,hA⟩:=ZF (Vl z Z);obtain⟨B,hB⟩:=ZF (Yk l);rw[hA] at R s1 O;rw[hB] at PR s2 O;have s3:(A++(⟨#[58]⟩:ByteArray)).size<=55:=by rw[Qm];omega
 have s4:((A++(⟨#[58]⟩:ByteArray))++B).size<=455:=by rw[ByteArray.size_append];omega
 have HT:=Zb O;clear hE hO aa hz hc hr e hA hB O;go_enter func138,ntmps138;go_wp2_with fail;refine PR.mono ?_;rintro e w1 ⟨rfl,aj⟩;have af:=Zb aj;clear aj;go_wp2_with fail;refine (R w1 af).mono ?_;rintro e w2 ⟨rfl,ak⟩;have ap:=Zb (Ze af ak);clear ak;go_wp2;go_ret;exact⟨L7 HT,Za ap⟩
def txB:ByteArray:=⟨#[116,120]⟩
def inB:ByteArray:=⟨#[105,110]⟩
def Zod:ByteArray:=⟨#[111,117,116]⟩
def Uc(h:Int):ByteArray:=Vl txB [h]++⟨#[10]⟩
def Pm(x:InD):ByteArray:=Kt inB [x.1,x.2.1] x.2.2
def Rm(x:Ya):ByteArray:=Kt Zod [x.1] x.2
def Xj(h:Int)(I:List InD):ByteArray:=I.foldl (λt x=>t++Pm x) (Uc h)
def Wi(t:ByteArray)(O:List Ya):ByteArray:=O.foldl (λt x=>t++Rm x) t
def Ye(t:TxD):ByteArray:=Wi (Xj t.1 t.2.1) t.2.2
theorem Gm(h:Int)(I)(x):Xj h (I++[x])=Xj h I++Pm x:=by unfold Xj;rw[List.foldl_append];rfl
theorem Sn(t:ByteArray)(O)(x:Ya):Wi t (O++[x])=Wi t O++Rm x:=by unfold Wi;rw[List.foldl_append];rfl
theorem Sp(h:Int)(O:0<=h/\h<=1000):(Uc h).size<=30:=by
 unfold Uc;have:=Ui txB [h] (λab z=>by simp at z;omega);rw[Qm];have e:txB.size=2:=rfl;simp only[dQ,List.length_nil] at this;omega
theorem Kw(x:InD)(h:Hi x=true/\chk x.2.2=0):(Pm x).size<=460:=by
 have O:=(Tg x).1 h.1;exact Nw inB [x.1,x.2.1] x.2.2 (by decide) (by simp) (λab z=>by simp at z;omega) h.2
theorem Gg(x:Ya)(h:(1<=x.1/\x.1<=1000000000)/\chk x.2=0):(Rm x).size<=460:=
 Nw Zod [x.1] x.2 (by decide) (by simp) (λaa z=>by simp at z;omega) h.2
theorem Ub(h:Int)(I:List InD)(O:0<=h/\h<=1000)(z:∀ x∈I,Hi x=true/\chk x.2.2=0):(Xj h I).size<=30+460*I.length:=by
 have h1:=Rt Pm 460 I (Uc h) (λx hx=>Kw x (z x hx));have h2:=Sp h O;have h3:(Xj h I).size<=(Uc h).size+460*I.length:=h1;omega
theorem Jl(t:ByteArray)(ab:List Ya)(O:∀ x∈ab,(1<=x.1/\x.1<=1000000000)/\chk x.2=0):(Wi t ab).size<=t.size+460*ab.length:=
 Rt Rm 460 ab t (λx hx=>Gg x (O x hx))
theorem Sc(w:World)(x)(t:TypeId):(w.alloc (dW #[x] t)).cell? ⟨w.heap.size,0,none⟩=some x:=by rw[cH _ _ _ _ rfl];rfl
def txT(t:TxD):ByteArray:=if Zr t=0 then Ye t else ⟨#[]⟩
theorem Bj(h:Int)(ec ao ni ed no co I O)(w:World)(hE:Env w)(hI:InsAt w ec ni I)(hO:OutsAt w ao no O)(sI:SlOk ec ni ed)(hx:Zr (h,I,O)=0) :
  ZH 96 #[.agg #[E J h,F ec ni ed,F ao no co]] w (dY #[.string (Ye (h,I,O)),E J 0]):=by
 have ok:=TxOk.of hx;have hb:=Zg w (dW #[E J h,F ec ni ed,F ao no co] 52);obtain⟨n0,n1,n2⟩:=Vp w (E J h) (F ec ni ed) (F ao no co) 52;have HB:=Zb hb;have C:=Zb (R9 h ec ao ni ed no co I O _ (hI.later hb) (hO.later hb) sI);rw[hx] at C;have N0:=Zb n0;have N1:=Zb n1;have N2:=Zb n2;have dp:ni<=6:=by have:=ok.ins6;have:=hI.1;simp only at *;omega
 have dx:no<=6:=by have:=ok.outs6;have:=hO.1;simp only at *;omega
 have dy:0<no:=by have:=ok.some;have:=hO.1;simp only at *;omega
 have HI:=Zb hI;have HO:=Zb hO;have HE:=Zb hE;have HG:=Zb ok.hgt;have bw:=Zb ok.ins;have cj:=Zb ok.outs;clear hb hI hO sI hx n0 n1 n2 hE ok;go_enter func96,ntmps96;go_wp2_with fail;refine C.mono ?_;rintro e w2 ⟨rfl,aq⟩;have m0:=Zc aq N0;have M1:=Zb (Zc aq N1);have M2:=Zb (Zc aq N2);have s2:w.heap.size<w2.heap.size:=aC _ _ m0;have cf:=Ze HB aq;have ee:=Zg w2 (dW #[E J h] 3)
 have R:=Zb (Jk txB w2.heap.size 0 1 1 [h] (w2.alloc (dW #[E J h] 3)) (HE.later (Ze cf ee)) (by decide) (by decide) rfl (by simp) (λi hi=>by
  have e:i=0:=by omega
  subst e;exact Sc w2 (E J h) 3) (λef hz=>by have:=Za HG;simp at hz;omega))
 have cw:=Zb ee;have du:=Zb aq;have cz:=Zb cf;have hs:=Sp h HG
 have dr:(Vl txB [h]).size<=29:=by
  have e:Uc h=Vl txB [h]++⟨#[10]⟩:=rfl;rw[e,Qm] at hs;omega
 obtain⟨T0,cc⟩:=ZF (Vl txB [h]);have dc:Hid (T0++⟨#[10]⟩=Uc h):=by show _=_;rw[<-cc];rfl
 rw[cc] at R dr;clear aq cf ee hs cc;go_wp2_with fail;refine R.mono ?_;rintro e w3 ⟨rfl,cn⟩;have bo:=Ze cw cn;have m1:=Zc bo M1;have dg:=Zb (Zc bo M2);have s3:w.heap.size<w3.heap.size:=aC _ _ m1;have da:=Zb (Ze cz bo);clear cn bo;go_wp2
 go_loopw [5,23] (λs i wr=>∃ k:Nat,k<=ni/\i = E J k/\s = .string (Xj h (I.take k))/\ZD w3 wr) (λ_ i _=>ni - (aV i).toNat)
 case atStart=>exact⟨0,aP _,rfl,by rw[Za dc];rfl,Below.refl _ _⟩
 case round=>
  obtain⟨k,hk,rfl,rfl,bb⟩:=hrel;have cg:=Zb bb;have bq:=Ze da bb;have cy:=Zb bq;by_cases bs:k<ni
  ·have an:k<I.length:=(by rw[(Za HI).1];exact bs);obtain⟨b,off,rfl,dn,bd⟩:=(HI.later bq).2 (by omega);obtain⟨g1,g2,ka,kn,kc,g3,g4,_⟩:=bd k an;have af:=bw I[k] (bK an);have hS:=Gm h (I.take k) I[k];rw[<-aM an] at hS
   have ce:(Xj h (I.take k)).size<=3000:=by
    have:=Ub h (I.take k) HG (λx hx=>bw x (List.mem_of_mem_take hx));rw[bG] at this;omega
   have az:=Kw I[k] af;obtain⟨x,hx⟩:=ZF (I[k]);rw[hx] at g1 g2 g4 af hS az;obtain⟨z,x2,bg⟩:=x;simp only at g1 g2 g3 g4;have hp:=(Tg _).1 af.1;simp only at hp;obtain⟨T,hT⟩:=ZF (Xj h (I.take k));obtain⟨X,hX⟩:=ZF (Pm (z,x2,bg));rw[hT,hX] at hS;rw[hT] at ce ⊢;rw[hX] at az;have HS:=Zb hS;have b1:=Zg wr (dW #[E J z,E J x2,F ka kn kc] 124);have b2:=Zg (wr.alloc (dW #[E J z,E J x2,F ka kn kc] 124)) (dW #[E J z,E J x2] 3);have ai:=Ze b1 b2;have t2:=Qf (wr.alloc (dW #[E J z,E J x2,F ka kn kc] 124)) (E J z) (E J x2) 3;have ax:(wr.alloc (dW #[E J z,E J x2,F ka kn kc] 124)).heap.size=wr.heap.size+1:=(by simp);rw[ax] at t2
   have PL:=Zb (Gf ka kn kc bg inB (wr.heap.size+1) 0 2 2 [z,x2] X ((wr.alloc (dW #[E J z,E J x2,F ka kn kc] 124)).alloc (dW #[E J z,E J x2] 3)) ((HE.later bq).later ai) (g4.later ai) af.2 (by decide) (by decide) rfl (by simp) (λi hi=>by
    have e:i=0\/i=1:=by omega
    rcases e with rfl|rfl
    ·exact t2.1
    ·exact t2.2) (λef hz=>by simp at hz;omega) hX)
   have bt:=Zb ai;clear bb bq bd g4 af hx hT hX hS b1 b2 ai t2 ax hp;go_wp2_with fail;refine PL.mono ?_;rintro e w4 ⟨rfl,ba⟩;have bu:=Zb (cg.trans ((Ze bt ba).mono cg.size));clear ba;go_wp2;go_roundw
   case rel=>exact⟨k+1,by omega,by go_num,by rw[Za HS],Za bu⟩
   case measure=>simp[aV];omega
  ·have e:k=ni:=(by omega);subst e;have HT:Hid (Xj h (I.take k)=Xj h I):=(by show _=_;rw[aY (by rw[(Za HI).1];exact aE _)]);have ce:=Ub h I HG bw;have dv:I.length<=6:=(by rw[(Za HI).1];exact dp);obtain⟨T1,cd⟩:=ZF (Xj h I);rw[cd] at HT ce;have dd:=Zb cd;have m2:=Zc bb dg;have s4:w.heap.size<wr.heap.size:=aC _ _ m2;rw[Za HT];clear bb cd hk bs;go_wp2
   go_loopw [5,43] (λs i wz=>∃ j:Nat,j<=no/\i = E J j/\s = .string (Wi T1 (O.take j))/\ZD wr wz) (λ_ i _=>no - (aV i).toNat)
   case atStart=>exact⟨0,aP _,rfl,rfl,Below.refl _ _⟩
   case round=>
    obtain⟨j,hj,rfl,rfl,br⟩:=hrel;have ci:=Zb br;have bc:=Ze cy br;have cx:=Zb bc;by_cases bs:j<no
    ·have an:j<O.length:=(by rw[(Za HO).1];exact bs);obtain⟨b,off,rfl,dn,bd⟩:=(HO.later bc).2 (by omega);obtain⟨g1,ka,kn,kc,g3,g4,_⟩:=bd j an;have af:=cj O[j] (bK an);have hS:=Sn T1 (O.take j) O[j];rw[<-aM an] at hS
     have dm:(Wi T1 (O.take j)).size<=6000:=by
      have:=Jl T1 (O.take j) (λx hx=>cj x (List.mem_of_mem_take hx));rw[bG] at this;omega
     have az:=Gg O[j] af;obtain⟨x,hx⟩:=ZF (O[j]);rw[hx] at g1 g4 af hS az;obtain⟨z,bg⟩:=x;simp only at g1 g3 g4;have hp:=af.1;simp only at hp;obtain⟨T,hT⟩:=ZF (Wi T1 (O.take j));obtain⟨X,hX⟩:=ZF (Rm (z,bg));rw[hT,hX] at hS;rw[hT] at dm ⊢;rw[hX] at az;have HS:=Zb hS;have b1:=Zg wr (dW #[E J z,F ka kn kc] 101);have b2:=Zg (wr.alloc (dW #[E J z,F ka kn kc] 101)) (dW #[E J z] 3);have ai:=Ze b1 b2;have t2:=Sc (wr.alloc (dW #[E J z,F ka kn kc] 101)) (E J z) 3;have ax:(wr.alloc (dW #[E J z,F ka kn kc] 101)).heap.size=wr.heap.size+1:=(by simp);rw[ax] at t2
     have PL:=Zb (Gf ka kn kc bg Zod (wr.heap.size+1) 0 1 1 [z] X ((wr.alloc (dW #[E J z,F ka kn kc] 101)).alloc (dW #[E J z] 3)) ((HE.later bc).later ai) (g4.later ai) af.2 (by decide) (by decide) rfl (by simp) (λi hi=>by
      have e:i=0:=(by omega);subst e;exact t2) (λef hz=>by simp at hz;omega) hX)
     have bt:=Zb ai;clear br bc bd g4 af hx hT hX hS b1 b2 ai t2 ax hp;go_wp2_with fail;refine PL.mono ?_;rintro e w4 ⟨rfl,ba⟩;have bu:=Zb (ci.trans ((Ze bt ba).mono ci.size));clear ba;go_wp2;go_roundw
     case rel=>exact⟨j+1,by omega,by go_num,by rw[Za HS],Za bu⟩
     case measure=>simp[aV];omega
    ·have HF:Hid (Wi T1 (O.take j)=Ye (h,I,O)):=by
      show _=_;rw[aY (by rw[(Za HO).1];omega),<-Za dd];rfl
     clear br bc;go_wp2;go_ret2;exact⟨Zag HF,Za cx⟩
