import Derived.Test.YtmomfkikogbdeaaGreatDoorH
import Derived.Test.YtmomfkikogbdeaaGreatDoorG4
open Go.Proofs.Tryz
open Go renaming bodyPost_ret->aW,lt_of_block->aA,rounds_succ->bD
open Go.Ending renaming returned->dA
open Go.IntKind renaming i64->J
open Go.Obj renaming cells->cZ
open Go.Proofs.Tryz renaming prog->aB
open Go.RowKit.Below renaming heap_alloc->bK
open Go.Value renaming slice->aX,int->cH,int->E,slice->F,tuple->dB,pointer->dC,bool->dD
open Nat renaming lt_of_lt_of_le->aD,le_trans->aT,zero_le->aL
set_option maxHeartbeats 6400000
namespace Go.Proofs.YtmomfkikogbdeaaGreatDoor
open Go.RowKit
set_option maxRecDepth 10000 in
theorem Dc(p h k n:Int)(a m c)(w:World) :
  ZH 104 #[.agg #[E J p,E J h,E J k,E J n,F a m c]] w (.agg #[E J p,E J h,E J k,E J n]):=by
 have z:=Zd (Zf (Zh w (cZ #[E J p,E J h,E J k,E J n,F a m c] 39)) (Zh _ (cZ #[E J p,E J h,E J k,E J n] 187)));go_enter func104,ntmps104;go_wp2;(try simp only[Exit.inBlock,Exit.then]);refine aW (v:=.agg #[E J p,E J h,E J k,E J n]) ?_ rfl ⟨rfl,?_⟩
 ·rw[Yn rfl];go_simp
 ·exact Za z
theorem Zfh(h:Int)(ai ao)(ni ci no co:Nat)(I:List InD)(O)(i:Nat)(ht:Int)(o:Bool)(w:World)(hI:I.length=ni)(z:Vr (h,I,O) i ht=o) :
  ZH 153 #[.agg #[E J h,F ai ni ci,F ao no co],E J i,E J ht] w (dD o):=by
 have Q:=Zd (Zh w (cZ #[E J h,F ai ni ci,F ao no co] 59));unfold Vr at z;simp only at z;rw[hI] at z;clear hI;by_cases h1:i=0
 ·subst h1;rw[if_neg (by decide)] at z;by_cases h2:ni=0
  ·subst h2;by_cases h3:h=ht
   ·subst h3;obtain rfl:true=o:=(by rw[<-z];simp);clear z;go_enter func153,ntmps153;go_wp2;go_ret;exact⟨rfl,Za Q⟩
   ·obtain rfl:false=o:=(by rw[<-z];simp[h3]);have g:(h == ht)=false:=(by simp[h3]);clear z h3;go_enter func153,ntmps153;go_wp2;go_ret;exact⟨by rw[<-g];rfl,Za Q⟩
  ·obtain rfl:false=o:=(by rw[<-z];simp[h2]);have g:((ni:Int) == 0)=false:=(by simp[h2]);clear z;go_enter func153,ntmps153;go_wp2;go_ret;exact⟨rfl,Za Q⟩
 ·have hi:0<(i:Int):=by omega
  rw[if_pos hi] at z;by_cases h2:ni=0
  ·subst h2;obtain rfl:false=o:=(by rw[<-z];simp);clear z;go_enter func153,ntmps153;go_wp2;go_ret;exact⟨rfl,Za Q⟩
  ·obtain rfl:true=o:=(by rw[<-z];simp[h2]);have g:((ni:Int) == 0)=false:=(by simp[h2]);clear z;go_enter func153,ntmps153;go_wp2;go_ret;exact⟨rfl,Za Q⟩
theorem Jg(a b c d w) :
  (Instr.index 187 (.agg #[a,b,c,d]) (E J 0)).run aB w = .ok a w/\(Instr.index 187 (.agg #[a,b,c,d]) (E J 1)).run aB w = .ok b w /\
  (Instr.index 187 (.agg #[a,b,c,d]) (E J 2)).run aB w = .ok c w/\(Instr.index 187 (.agg #[a,b,c,d]) (E J 3)).run aB w = .ok d w:=by
 refine⟨?_,?_,?_,?_⟩ <;> kernel_rfl
theorem Yj(n lo hi:Int)(b:Bool)(w:World)(z:(decide (lo<=n) && decide (n<=hi))=b) :
  ZH 103 #[E J n,E J lo,E J hi] w (dD b):=
 (Y1 n lo hi b w z.symm).mono λ_ _ ⟨h1,h2⟩=>⟨h1,h2 ▸ Below.refl _ _⟩
theorem Gf(w:World)(a b c d)(t:TypeId):(w.alloc (cZ #[a,b,c,d] t)).heap[w.heap.size]? = some (cZ [a,b,c,d].toArray t (0,0)):=heap_alloc_new w _
set_option maxRecDepth 100000 in
theorem Gv(p h k n:Int)(a m c)(o:Bool)(w:World)(Q:W9 p h k n=o) :
  ZH 151 #[.agg #[E J p,E J h,E J k,E J n,F a m c]] w (dD o):=by
 obtain⟨X,hX⟩:=ZG (((w.alloc (cZ #[E J p,E J h,E J k,E J n,F a m c] 39)).alloc (cZ #[E J 0,E J 1,E J 1,E J 0] 187)).alloc (cZ #[E J 120,E J 1000,E J 1000,E J 1000000000] 187));have bi:ZD w X:=by rw[hX];exact Zf (Zf (Zh _ _) (Zh _ _)) (Zh _ _)
 have hL:X.heap[w.heap.size+1]? = some (cZ [E J 0,E J 1,E J 1,E J 0].toArray 187 (0,0)):=by
  rw[hX,bK _ _ _ (by simp)];have:=Gf (w.alloc (cZ #[E J p,E J h,E J k,E J n,F a m c] 39)) (E J 0) (E J 1) (E J 1) (E J 0) 187;rw[show (w.alloc (cZ #[E J p,E J h,E J k,E J n,F a m c] 39)).heap.size=w.heap.size+1 by simp] at this;exact this
 have hH:X.heap[w.heap.size+2]? = some (cZ [E J 120,E J 1000,E J 1000,E J 1000000000].toArray 187 (0,0)):=by
  rw[hX];have:=Gf ((w.alloc (cZ #[E J p,E J h,E J k,E J n,F a m c] 39)).alloc (cZ #[E J 0,E J 1,E J 1,E J 0] 187)) (E J 120) (E J 1000) (E J 1000) (E J 1000000000) 187;rw[show ((w.alloc (cZ #[E J p,E J h,E J k,E J n,F a m c] 39)).alloc (cZ #[E J 0,E J 1,E J 1,E J 0] 187)).heap.size=w.heap.size+2 by simp] at this;exact this
 obtain⟨C,ax,HL,HH⟩:=kh4 (Dc p h k n a m c X) bi hL hH;have bk:=λw=>(Jg (E J p) (E J h) (E J k) (E J n) w).1;have bo:=λw=>(Jg (E J p) (E J h) (E J k) (E J n) w).2.1;have bq:=λw=>(Jg (E J p) (E J h) (E J k) (E J n) w).2.2.1;have br:=λw=>(Jg (E J p) (E J h) (E J k) (E J n) w).2.2.2;unfold W9 at Q;clear bi hL hH;go_enter func151,ntmps151;go_wp2_with fail;rw[<-hX];clear hX;go_wp2_with fail;refine C.mono ?_;rintro e w1 ⟨rfl,ar⟩;have ap:=Zd (Zf ax ar);have an:=ZE ar HL;have am:=ZE ar HH;have ab:=Zb an 0 _ rfl;have af:=Zb am 0 _ rfl;have ac:=Zb an 1 _ rfl;have ag:=Zb am 1 _ rfl;have ad:=Zb an 2 _ rfl;have ah:=Zb am 2 _ rfl;have ae:=Zb an 3 _ rfl;have aj:=Zb am 3 _ rfl;have av:=aA an;have au:=aA am;clear ar an am C HL HH ax;go_wp2;have bb:ZD w1 w1:=Below.refl _ _;refine wp_loop_rounds 5 ?_;cases q0:(decide ((0:Int)<=p) && decide (p<=120)) with
 | false=>
  rw[q0] at Q;have CC:=Zd (λW=>Yj p 0 120 false W q0);clear q0;obtain rfl:false=o:=by rw[<-Q];rfl
  clear Q;rw[bD];go_wp2_with fail
  go_region_held3 (λW'=>ZD w1 W'/\W'.cell? ⟨w.heap.size+1,0,none⟩=some (E J 0)/\W'.cell? ⟨w.heap.size+2,0,none⟩=some (E J 120)/\W'.cell? ⟨w.heap.size+1,1,none⟩=some (E J 1)/\W'.cell? ⟨w.heap.size+2,1,none⟩=some (E J 1000)/\W'.cell? ⟨w.heap.size+1,2,none⟩=some (E J 1)/\W'.cell? ⟨w.heap.size+2,2,none⟩=some (E J 1000)/\W'.cell? ⟨w.heap.size+1,3,none⟩=some (E J 0)/\W'.cell? ⟨w.heap.size+2,3,none⟩=some (E J 1000000000))
   (first
   | exact⟨Zf bb (Zi _),ab,af,ac,ag,ad,ah,ae,aj⟩
   | (go_split_ands;refine⟨Zf (by assumption) z,Ze z (by assumption),Ze z (by assumption),Ze z (by assumption),Ze z (by assumption),Ze z (by assumption),Ze z (by assumption),Ze z (by assumption),Ze z (by assumption)⟩))
   (first|(go_at_call 103;refine (CC _).mono ?_;rintro e w' ⟨rfl,z⟩))
  rename_i hq;have al:=Zd (Zf ap hq.1);clear hq;go_wp2;go_ret;exact⟨rfl,Za al⟩
 | true=>
  rw[q0] at Q;have CC:=Zd (λW=>Yj p 0 120 true W q0);clear q0;rw[bD];go_wp2_with fail
  go_region_held3 (λW'=>ZD w1 W'/\W'.cell? ⟨w.heap.size+1,0,none⟩=some (E J 0)/\W'.cell? ⟨w.heap.size+2,0,none⟩=some (E J 120)/\W'.cell? ⟨w.heap.size+1,1,none⟩=some (E J 1)/\W'.cell? ⟨w.heap.size+2,1,none⟩=some (E J 1000)/\W'.cell? ⟨w.heap.size+1,2,none⟩=some (E J 1)/\W'.cell? ⟨w.heap.size+2,2,none⟩=some (E J 1000)/\W'.cell? ⟨w.heap.size+1,3,none⟩=some (E J 0)/\W'.cell? ⟨w.heap.size+2,3,none⟩=some (E J 1000000000))
   (first
   | exact⟨Zf bb (Zi _),ab,af,ac,ag,ad,ah,ae,aj⟩
   | (go_split_ands;refine⟨Zf (by assumption) z,Ze z (by assumption),Ze z (by assumption),Ze z (by assumption),Ze z (by assumption),Ze z (by assumption),Ze z (by assumption),Ze z (by assumption),Ze z (by assumption)⟩))
   (first|(go_at_call 103;refine (CC _).mono ?_;rintro e w' ⟨rfl,z⟩))
  rename_i hq;have ll:=aD av hq.1.size;have lh:=aD au hq.1.size;obtain⟨bd,ab,af,ac,ag,ad,ah,ae,aj⟩:=hq;rw[Bool.true_and] at Q;go_wp2;cases q1:(decide ((1:Int)<=h) && decide (h<=1000)) with
  | false=>
   rw[q1] at Q;have CC:=Zd (λW=>Yj h 1 1000 false W q1);clear q1;obtain rfl:false=o:=(by rw[<-Q];rfl);clear Q;rw[bD];go_wp2_with fail
   go_region_held3 (λW'=>ZD w1 W'/\W'.cell? ⟨w.heap.size+1,0,none⟩=some (E J 0)/\W'.cell? ⟨w.heap.size+2,0,none⟩=some (E J 120)/\W'.cell? ⟨w.heap.size+1,1,none⟩=some (E J 1)/\W'.cell? ⟨w.heap.size+2,1,none⟩=some (E J 1000)/\W'.cell? ⟨w.heap.size+1,2,none⟩=some (E J 1)/\W'.cell? ⟨w.heap.size+2,2,none⟩=some (E J 1000)/\W'.cell? ⟨w.heap.size+1,3,none⟩=some (E J 0)/\W'.cell? ⟨w.heap.size+2,3,none⟩=some (E J 1000000000))
    (first
    | exact⟨Zf bd (Zi _),ab,af,ac,ag,ad,ah,ae,aj⟩
    | (go_split_ands;refine⟨Zf (by assumption) z,Ze z (by assumption),Ze z (by assumption),Ze z (by assumption),Ze z (by assumption),Ze z (by assumption),Ze z (by assumption),Ze z (by assumption),Ze z (by assumption)⟩))
    (first|(go_at_call 103;refine (CC _).mono ?_;rintro e w' ⟨rfl,z⟩))
   rename_i hq;have al:=Zd (Zf ap hq.1);clear hq;go_wp2;go_ret;exact⟨rfl,Za al⟩
  | true=>
   rw[q1] at Q;have CC:=Zd (λW=>Yj h 1 1000 true W q1);clear q1;rw[bD];go_wp2_with fail
   go_region_held3 (λW'=>ZD w1 W'/\W'.cell? ⟨w.heap.size+1,0,none⟩=some (E J 0)/\W'.cell? ⟨w.heap.size+2,0,none⟩=some (E J 120)/\W'.cell? ⟨w.heap.size+1,1,none⟩=some (E J 1)/\W'.cell? ⟨w.heap.size+2,1,none⟩=some (E J 1000)/\W'.cell? ⟨w.heap.size+1,2,none⟩=some (E J 1)/\W'.cell? ⟨w.heap.size+2,2,none⟩=some (E J 1000)/\W'.cell? ⟨w.heap.size+1,3,none⟩=some (E J 0)/\W'.cell? ⟨w.heap.size+2,3,none⟩=some (E J 1000000000))
    (first
    | exact⟨Zf bd (Zi _),ab,af,ac,ag,ad,ah,ae,aj⟩
    | (go_split_ands;refine⟨Zf (by assumption) z,Ze z (by assumption),Ze z (by assumption),Ze z (by assumption),Ze z (by assumption),Ze z (by assumption),Ze z (by assumption),Ze z (by assumption),Ze z (by assumption)⟩))
    (first|(go_at_call 103;refine (CC _).mono ?_;rintro e w' ⟨rfl,z⟩))
   rename_i hq;have ll:=aD av hq.1.size;have lh:=aD au hq.1.size;obtain⟨be,ab,af,ac,ag,ad,ah,ae,aj⟩:=hq;rw[Bool.true_and] at Q;go_wp2;cases q2:(decide ((1:Int)<=k) && decide (k<=1000)) with
   | false=>
    rw[q2] at Q;have CC:=Zd (λW=>Yj k 1 1000 false W q2);clear q2;obtain rfl:false=o:=(by rw[<-Q];rfl);clear Q;rw[bD];go_wp2_with fail
    go_region_held3 (λW'=>ZD w1 W'/\W'.cell? ⟨w.heap.size+1,0,none⟩=some (E J 0)/\W'.cell? ⟨w.heap.size+2,0,none⟩=some (E J 120)/\W'.cell? ⟨w.heap.size+1,1,none⟩=some (E J 1)/\W'.cell? ⟨w.heap.size+2,1,none⟩=some (E J 1000)/\W'.cell? ⟨w.heap.size+1,2,none⟩=some (E J 1)/\W'.cell? ⟨w.heap.size+2,2,none⟩=some (E J 1000)/\W'.cell? ⟨w.heap.size+1,3,none⟩=some (E J 0)/\W'.cell? ⟨w.heap.size+2,3,none⟩=some (E J 1000000000))
     (first
     | exact⟨Zf be (Zi _),ab,af,ac,ag,ad,ah,ae,aj⟩
     | (go_split_ands;refine⟨Zf (by assumption) z,Ze z (by assumption),Ze z (by assumption),Ze z (by assumption),Ze z (by assumption),Ze z (by assumption),Ze z (by assumption),Ze z (by assumption),Ze z (by assumption)⟩))
     (first|(go_at_call 103;refine (CC _).mono ?_;rintro e w' ⟨rfl,z⟩))
    rename_i hq;have al:=Zd (Zf ap hq.1);clear hq;go_wp2;go_ret;exact⟨rfl,Za al⟩
   | true=>
    rw[q2] at Q;have CC:=Zd (λW=>Yj k 1 1000 true W q2);clear q2;rw[bD];go_wp2_with fail
    go_region_held3 (λW'=>ZD w1 W'/\W'.cell? ⟨w.heap.size+1,0,none⟩=some (E J 0)/\W'.cell? ⟨w.heap.size+2,0,none⟩=some (E J 120)/\W'.cell? ⟨w.heap.size+1,1,none⟩=some (E J 1)/\W'.cell? ⟨w.heap.size+2,1,none⟩=some (E J 1000)/\W'.cell? ⟨w.heap.size+1,2,none⟩=some (E J 1)/\W'.cell? ⟨w.heap.size+2,2,none⟩=some (E J 1000)/\W'.cell? ⟨w.heap.size+1,3,none⟩=some (E J 0)/\W'.cell? ⟨w.heap.size+2,3,none⟩=some (E J 1000000000))
     (first
     | exact⟨Zf be (Zi _),ab,af,ac,ag,ad,ah,ae,aj⟩
     | (go_split_ands;refine⟨Zf (by assumption) z,Ze z (by assumption),Ze z (by assumption),Ze z (by assumption),Ze z (by assumption),Ze z (by assumption),Ze z (by assumption),Ze z (by assumption),Ze z (by assumption)⟩))
     (first|(go_at_call 103;refine (CC _).mono ?_;rintro e w' ⟨rfl,z⟩))
    rename_i hq;have ll:=aD av hq.1.size;have lh:=aD au hq.1.size;obtain⟨bf,ab,af,ac,ag,ad,ah,ae,aj⟩:=hq;rw[Bool.true_and] at Q;go_wp2;cases q3:(decide ((0:Int)<=n) && decide (n<=1000000000)) with
    | false=>
     rw[q3] at Q;have CC:=Zd (λW=>Yj n 0 1000000000 false W q3);clear q3;obtain rfl:false=o:=(by rw[<-Q]);clear Q;rw[bD];go_wp2_with fail
     go_region_held3 (λW'=>ZD w1 W'/\W'.cell? ⟨w.heap.size+1,0,none⟩=some (E J 0)/\W'.cell? ⟨w.heap.size+2,0,none⟩=some (E J 120)/\W'.cell? ⟨w.heap.size+1,1,none⟩=some (E J 1)/\W'.cell? ⟨w.heap.size+2,1,none⟩=some (E J 1000)/\W'.cell? ⟨w.heap.size+1,2,none⟩=some (E J 1)/\W'.cell? ⟨w.heap.size+2,2,none⟩=some (E J 1000)/\W'.cell? ⟨w.heap.size+1,3,none⟩=some (E J 0)/\W'.cell? ⟨w.heap.size+2,3,none⟩=some (E J 1000000000))
      (first
      | exact⟨Zf bf (Zi _),ab,af,ac,ag,ad,ah,ae,aj⟩
      | (go_split_ands;refine⟨Zf (by assumption) z,Ze z (by assumption),Ze z (by assumption),Ze z (by assumption),Ze z (by assumption),Ze z (by assumption),Ze z (by assumption),Ze z (by assumption),Ze z (by assumption)⟩))
      (first|(go_at_call 103;refine (CC _).mono ?_;rintro e w' ⟨rfl,z⟩))
     rename_i hq;have al:=Zd (Zf ap hq.1);clear hq;go_wp2;go_ret;exact⟨rfl,Za al⟩
    | true=>
     rw[q3] at Q;have CC:=Zd (λW=>Yj n 0 1000000000 true W q3);clear q3;obtain rfl:true=o:=(by rw[<-Q]);clear Q;rw[bD];go_wp2_with fail
     go_region_held3 (λW'=>ZD w1 W'/\W'.cell? ⟨w.heap.size+1,0,none⟩=some (E J 0)/\W'.cell? ⟨w.heap.size+2,0,none⟩=some (E J 120)/\W'.cell? ⟨w.heap.size+1,1,none⟩=some (E J 1)/\W'.cell? ⟨w.heap.size+2,1,none⟩=some (E J 1000)/\W'.cell? ⟨w.heap.size+1,2,none⟩=some (E J 1)/\W'.cell? ⟨w.heap.size+2,2,none⟩=some (E J 1000)/\W'.cell? ⟨w.heap.size+1,3,none⟩=some (E J 0)/\W'.cell? ⟨w.heap.size+2,3,none⟩=some (E J 1000000000))
      (first
      | exact⟨Zf bf (Zi _),ab,af,ac,ag,ad,ah,ae,aj⟩
      | (go_split_ands;refine⟨Zf (by assumption) z,Ze z (by assumption),Ze z (by assumption),Ze z (by assumption),Ze z (by assumption),Ze z (by assumption),Ze z (by assumption),Ze z (by assumption),Ze z (by assumption)⟩))
      (first|(go_at_call 103;refine (CC _).mono ?_;rintro e w' ⟨rfl,z⟩))
     rename_i hq;have ll:=aD av hq.1.size;have lh:=aD au hq.1.size;obtain⟨bj,ab,af,ac,ag,ad,ah,ae,aj⟩:=hq;go_wp2;rw[bD];go_wp2;go_ret;exact⟨rfl,Zf ap bj⟩
theorem Z7{w:World}{base:Nat}{e:TypeId}{size:Nat}{v}{n:Nat}{xs}(h:w.ownsRow base e size v n xs):∃ a c,v = F a n c:=by
 rcases h.2 with ⟨rfl,rfl⟩|⟨g,cap,z,rfl,_⟩
 ·exact⟨none,0,rfl⟩
 ·exact⟨_,_,rfl⟩
def A0(y:CV):List Value:=[E J y.1.1,E J y.1.2.1,E J (cv y.1),.slice y.2.1 y.2.2.1 y.2.2.2,E J (ch y.1),dD (cr y.1)]
theorem Zll(y:CV):Zm [y]=A0 y:=rfl
set_option maxRecDepth 10000 in
theorem Znv(w0 w:World)(p:Nat)(v)(K:List CV)(y:CV)(h:Pu w0 w p v K)(hs:Srt (K.map (·.1)))(hn:K.length<=4096)(hf:Y3 (pt y.1) (K.map (·.1))=true) :
  ZH 207 #[dC (some ⟨p,0,none⟩),cnV y.1 y.2.1 y.2.2.1 y.2.2.2] w (dD false):=by
 obtain⟨a,c,rfl,hC,hS⟩:=h.coins;obtain⟨n,ah⟩:=ZF (K.length);obtain⟨k,hk⟩:=ZF (pos (pt y.1) (K.map (·.1)));have ac:=h.box;rw[ah] at hC ac hn;unfold cnV;obtain⟨X,z⟩:=ZG (w.alloc (cZ #[E J y.1.1,E J y.1.2.1,E J (cv y.1),.slice y.2.1 y.2.2.1 y.2.2.2,E J (ch y.1),dD (cr y.1)] 124));have Q:ZD w X:=by rw[z];exact Zh _ _
 have ae:X.heap[w.heap.size]? = some (cZ (A0 y).toArray 124 (0,0)):=by rw[z];exact W7 _ _ _ _ _ _ _ _
 obtain⟨x0,x1,-⟩:=kc2 ae;have xp:X.cell? ⟨p,0,none⟩=some (F a n c):=Ze Q (Zb (X:=[F a n c]) ac 0 _ rfl);have PL:=Zd (λw' (hb:ZD X w')=>Rn a n c (K.map (·.1)) (pt y.1) k true w' hs (by omega) ((hC.later Q).later hb) hk hf);unfold pt at PL;have al:=Zd Q;clear hk hf hC hS hs ac Q ae h ah;go_enter func207,ntmps207;go_wp2_with fail;rw[<-z];clear z
 go_region_held3 (λw'=>ZD X w'/\w'.cell? ⟨w.heap.size,0,none⟩=some (E J y.1.1)/\w'.cell? ⟨w.heap.size,1,none⟩=some (E J y.1.2.1)/\w'.cell? ⟨p,0,none⟩=some (F a n c))
  (first
  | exact⟨Zi _,x0,x1,xp⟩
  | (go_split_ands;refine⟨Zf (by assumption) aa,Ze aa (by assumption),Ze aa (by assumption),Ze aa (by assumption)⟩))
  (first|(go_at_call 250;go_split_ands;refine (PL _ (by assumption)).mono ?_;rintro e w' ⟨rfl,aa⟩))
 rename_i hH;have HB:=Zd (Zf al hH.1);clear hH;go_wp2;go_ret;exact⟨rfl,Za HB⟩
set_option maxRecDepth 10000 in
theorem Zjs(w0 w:World)(p:Nat)(v:Value)(K:List CV)(y:CV)(h:Pu w0 w p v K)(hs:Srt (K.map (·.1)))(hn:K.length<=4096)(hf:Y3 (pt y.1) (K.map (·.1))=false)(hy:LkAt w0 y) :
  Calls aB 207 #[dC (some ⟨p,0,none⟩),cnV y.1 y.2.1 y.2.2.1 y.2.2.2] w λe w'=>∃ (v':Value) (K':List CV),e = dA (dD true)/\K'.map (·.1)=Ps y.1 (K.map (·.1))/\(∀ dh∈K',dh=y\/dh∈K)/\K'.length=K.length+1 /\
   Pu w0 w' p v' K'/\Gr w w' (PuS p v)/\(v'.ownBlock=v.ownBlock\/∀ k,v'.ownBlock=some k->w.heap.size<=k):=by
 obtain⟨a,c,rfl,hC,hS⟩:=h.coins;obtain⟨n,am⟩:=ZF (K.length);obtain⟨k,z⟩:=ZF (pos (pt y.1) (K.map (·.1)));have ak:=h.box;have hO:=h.own;have bd:=h.ne;have cu:k<=n:=by rw[<-z,<-am];have:=Zjt (pt y.1) (K.map (·.1));simpa using this
 have av:=Zdv hs hf;rw[z,<-List.map_take,<-List.map_drop,show y.1 :: (K.drop k).map (·.1)=(y :: K.drop k).map (·.1) from rfl,<-List.map_append] at av;rw[am] at hC ak hn hO bd;unfold cnV;obtain⟨X,hX⟩:=ZG (w.alloc (cZ #[E J y.1.1,E J y.1.2.1,E J (cv y.1),.slice y.2.1 y.2.2.1 y.2.2.2,E J (ch y.1),dD (cr y.1)] 124));have aj:ZD w X:=by rw[hX];exact Zh _ _
 have ax:X.heap[w.heap.size]? = some (cZ (A0 y).toArray 124 (0,0)):=by rw[hX];exact W7 _ _ _ _ _ _ _ _
 obtain⟨x0,x1,-⟩:=kc2 ax;have xp:X.cell? ⟨p,0,none⟩=some (F a n c):=Ze aj (Zb (X:=[F a n c]) ak 0 _ rfl);have PL:=Zd (λw' (hb:ZD X w')=>Rn a n c (K.map (·.1)) (pt y.1) k false w' hs (by omega) ((hC.later aj).later hb) z hf);unfold pt at PL;obtain⟨cd,bo,HO,bj,ce,HP,HY,bi⟩:=kh8 aj ax hO bd av h hy ak;have ad:=Zd am;have be:p<w.heap.size:=h.lt;clear z hf hC hS hs ak aj ax h am hO bd av hy;go_enter func207,ntmps207;go_wp2_with fail;rw[<-hX];clear hX
 go_region_held3 (λw'=>ZD X w'/\w'.cell? ⟨w.heap.size,0,none⟩=some (E J y.1.1)/\w'.cell? ⟨w.heap.size,1,none⟩=some (E J y.1.2.1)/\w'.cell? ⟨p,0,none⟩=some (F a n c))
  (first
  | exact⟨Zi _,x0,x1,xp⟩
  | (go_split_ands;refine⟨Zf (by assumption) af,Ze af (by assumption),Ze af (by assumption),Ze af (by assumption)⟩))
  (first|(go_at_call 250;go_split_ands;refine (PL _ (by assumption)).mono ?_;rintro e w' ⟨rfl,af⟩))
 rename_i hH;have ae:=Zf cd hH.1;have bb:=(hH.1.block _ (aA bo)).trans bo;obtain⟨c0,c1,c2,c3,c4,c5,-⟩:=kc6 bb;have cx:=hH.2.2.2;have dd:=World.block_lt_of_cell? _ _ cx;have ct:=(ae.block p be).trans bi;have cy:=Zd ae
 have cg:Hid (∀ W,W.heap=(w'.alloc (cZ #[E J y.1.1,E J y.1.2.1,E J (cv y.1),.slice y.2.1 y.2.2.1 y.2.2.2,E J (ch y.1),dD (cr y.1)] 124)).heap->W.os=w'.os->W.tape=w'.tape->W.output=w'.output ->
   Calls aB 254 #[F a n c,E J k,F (some ⟨w'.heap.size,0,none⟩) 1 1] W λe w4=>∃ Q c',e = dA (F Q (n+1) c')/\w4.cell? ⟨p,0,none⟩=some (F a n c)/\w4.frozen? ⟨p,0,none⟩=false/\p<w4.heap.size/\Hid (w4.ownsRow w0.heap.size 124 6 (F Q (n+1) c') (n+1) (Zm (K.take k++y :: K.drop k))/\Gr w w4 (PuS p (F a n c))/\((aX Q (n+1) c').ownBlock=(aX a n c).ownBlock\/∀ k,(aX Q (n+1) c').ownBlock=some k->w.heap.size<=k)/\w4.heap[p]? = some (cZ #[F a n c] 235 (0,0)))):=by
  intro W aw cm cn cp;have bq:ZD w' W:=⟨cm,cn,cp,by rw[aw];simp,λi hi=>by rw[aw];exact bK w' _ i hi⟩;have ay:=Zf ae bq;have cj:W.ownsRow w0.heap.size 124 6 (F a n c) n (Zm K):=(Gr.of (S:=λ_=>False) ay).own HO (λ_ _ q=>q);have cw:W.heap[w'.heap.size]? = some (cZ (Zm [y]).toArray 124 (0,0)):=by rw[aw];exact W7 _ _ _ _ _ _ _ _
  have bg:w.heap.size<W.heap.size:=aD (aA bb) bq.size;refine (Lq w0.heap.size a n c k w'.heap.size K y W cu hn ad (aT HP.bel.size (Nat.le_of_lt bg)) cj cw ?_).mono ?_
  ·intro e;have:=HO.lt _ e;have h3:=ae.size;omega
  ·rintro e w4 ⟨v',rfl,ap,al,an⟩;obtain⟨Q,c',rfl⟩:=Z7 ap
   have ac:w4.heap[p]? = some (cZ #[F a n c] 235 (0,0)):=by
    rw[al.block p (Nat.lt_trans be bg) (λe=>bj e.symm),ay.block p be];exact Za bi
   refine⟨Q,c',rfl,Zb (X:=[F a n c]) ac 0 _ rfl,Zg ac 0,aA ac,ap,(Gr.of ay).grown al (λk z=>.inl (.inr z)),?_,ac⟩
   ·rcases an with q|q
    ·exact .inl q
    ·exact .inr λk z=>aT (Nat.le_of_lt bg) (q k z)
 clear hH af ae bb xp x0 x1 ct;go_wp2_with fail
 go_region_with (go_at_call 254;refine (cg _ ?_ ?_ ?_ ?_).mono ?_;rfl;rfl;rfl;rfl;rintro e w4 ⟨Q,c',rfl,p4,df,dg,H4⟩)
 all_goals
  go_wp2;go_ret;obtain⟨ap,al,an,ac⟩:=Za H4;have hp:=Za HP
  have hl:(K.take k++y :: K.drop k).length=n+1:=by
   have:=Za ad;simp only[List.length_append,List.length_take,List.length_cons,List.length_drop];omega
  have bu:(aX Q (n+1) c').ownBlock≠some p:=λe=>by
   rcases an with q|q
   ·rw[q] at e;exact bj e
   ·have:=q p e;omega
  have bv:∀ dh∈K.take k++y :: K.drop k,dh=y\/dh∈K:=λdh hz=>by
   rcases List.mem_append.1 hz with q|q
   ·exact .inr (List.mem_of_mem_take q)
   ·rcases List.mem_cons.1 q with q|q
    ·exact .inl q
    ·exact .inr (List.mem_of_mem_drop q)
  have br:=al.one p 0 (.inl (.inl rfl)) (F Q (n+1) c');refine⟨F Q (n+1) c',K.take k++y :: K.drop k,rfl,ce.symm,bv,by rw[hl,Za ad],⟨?_,hp.ge,Vt ac,?_,bu,?_⟩,?_,?_⟩
  ·refine br.below hp.bel hp.bel.size (λk z=>?_)
   rcases z with rfl|z
   ·exact hp.ge
   ·exact Wb HO k z
  ·rw[hl];exact ((Gr.refl w4 (λk=>k=p)).one p 0 (.inl rfl) _).own ap (λk z e=>bu (by rw[z,e]))
  ·intro dh hz
   rcases bv dh hz with rfl|q
   ·exact Za HY
   ·exact hp.lk dh q
  ·rw[Za ad];exact br
  ·rw[Za ad];exact an
def Zr(h:Int):List InD->List Zj->List Zj->Int×List Zj×List Zj
 | [],S,L=>(0,S,L)
 | x :: r,S,L=>match Ue (x.1,x.2.1) L with
  | none=>(7,[],[])
  | some (c,M)=>if cr c=true/\h<ch c+2 then (10,[],[]) else if Xe (ck c) x.2.2 h=false then (8,[],[]) else Zr h r (S++[c]) M
def Tu(name:Int)(i:Nat)(o:Zy)(h:Int)(r:Bool):Zj:=(name,(i:Int),o.1,o.2,h,r)
def Z8(name h:Int)(r:Bool):Nat->List Zy->List Zj->Int×List Zj
 | _,[],L=>(0,L)
 | i,o :: q,L=>if Y3 (name,(i:Int)) L=true then (6,[]) else Z8 name h r (i+1) q (Ps (Tu name i o h r) L)
def Vq(name:Int):Nat->List Zy->List Zj->Int×List Zj
 | _,[],L=>(0,L)
 | i,o :: q,L=>match Ue (name,(i:Int)) L with
  | none=>(7,[])
  | some (c,M)=>if (cv c,ck c)=o then Vq name (i+1) q M else (7,[])
def Uw:List InD->List Zj->List Zj->Int×List Zj
 | x :: r,c :: q,L=>if pt c≠(x.1,x.2.1)\/Y3 (pt c) L=true then (6,[]) else Uw r q (Ps c L)
 | _,_,L=>(0,L)
def okN(n:Int):Bool:=decide (1<=n) && decide (n<=120)
def isR(t:TxD):Bool:=decide (t.2.1.length=0)
def Vp(L:List Zj)(t:TxD):Int:=if Z4 L≠0 then Z4 L else Zu t
def Wo(L:List Zj)(t:TxD)(name h:Int):Int:=
 if Vp L t≠0 then Vp L t else if (okN name && okH h)=false then 3 else if isR t=true/\t.1≠h then 4 else 0
def Mw(S:List Zj)(t:TxD):Int:=if Zp S - Y6 t.2.2<0/\isR t=false then 9 else 0
def apD(L:List Zj)(t:TxD)(name h:Int):Int×List Zj×List Zj:=
 if Wo L t name h≠0 then (Wo L t name h,[],[])
 else
  if (Zr h t.2.1 [] L).1≠0 then ((Zr h t.2.1 [] L).1,[],[])
  else if Mw (Zr h t.2.1 [] L).2.1 t≠0 then (Mw (Zr h t.2.1 [] L).2.1 t,[],[])
  else if (Z8 name h (isR t) 0 t.2.2 (Zr h t.2.1 [] L).2.2).1≠0 then ((Z8 name h (isR t) 0 t.2.2 (Zr h t.2.1 [] L).2.2).1,[],[])
  else if Z4 (Z8 name h (isR t) 0 t.2.2 (Zr h t.2.1 [] L).2.2).2≠0 then (Z4 (Z8 name h (isR t) 0 t.2.2 (Zr h t.2.1 [] L).2.2).2,[],[])
  else (0,(Z8 name h (isR t) 0 t.2.2 (Zr h t.2.1 [] L).2.2).2,(Zr h t.2.1 [] L).2.1)
def rvD(L:List Zj)(t:TxD)(name:Int)(S:List Zj):Int×List Zj:=
 if Vp L t≠0 then (Vp L t,[])
 else if S.length≠t.2.1.length then (4,[])
 else if (Vq name 0 t.2.2 L).1≠0 then ((Vq name 0 t.2.2 L).1,[])
 else if (Uw t.2.1 S (Vq name 0 t.2.2 L).2).1≠0 then ((Uw t.2.1 S (Vq name 0 t.2.2 L).2).1,[])
 else if Z4 (Uw t.2.1 S (Vq name 0 t.2.2 L).2).2≠0 then (Z4 (Uw t.2.1 S (Vq name 0 t.2.2 L).2).2,[])
 else (0,(Uw t.2.1 S (Vq name 0 t.2.2 L).2).2)
def MS.cells(s:MS):Array Value:=(s.cs.map (cH .i64)++([cH .i64 s.n,cH .i64 s.h,Value.bool s.f]:List Value)).toArray
theorem MS.cells_stack{s:MS}(Q:s.ok)(i:Nat)(hi:i<16):s.cells[i]? = some (E J (s.cs.getD i 0)):=by
 have z:i<s.cs.length:=by rw[Q.1];exact hi
 simp[MS.cells,List.getElem?_append_left,z]
theorem MS.cells_n{s:MS}(Q:s.ok):s.cells[16]? = some (E J s.n):=by
 have z:=Q.1;simp[MS.cells,z]
theorem MS.cells_h{s:MS}(Q:s.ok):s.cells[17]? = some (E J s.h):=by
 have z:=Q.1;simp[MS.cells,z]
theorem MS.cells_f{s:MS}(Q:s.ok):s.cells[18]? = some (dD s.f):=by
 have z:=Q.1;simp[MS.cells,z]
theorem MS.set_stack{s:MS}(Q:s.ok)(i:Nat)(hi:i<16)(x:Int):s.cells.setIfInBounds i (E J x)=MS.cells { s with cs:=s.cs.set i x }:=by
 have z:i<(s.cs.map (cH .i64)).length:=by rw[List.length_map,Q.1];exact hi
 simp only[MS.cells,List.setIfInBounds_toArray,List.set_append_left _ _ z,List.map_set]
theorem MS.set_n{s:MS}(Q:s.ok)(n:Nat):s.cells.setIfInBounds 16 (E J n)=MS.cells { s with n:=n }:=by
 have z:(s.cs.map (cH .i64)).length=16:=by rw[List.length_map,Q.1]
 simp only[MS.cells,List.setIfInBounds_toArray];rw[List.set_append_right _ _ (by omega),z];rfl
theorem MS.set_f{s:MS}(Q:s.ok)(b:Bool):s.cells.setIfInBounds 18 (dD b)=MS.cells { s with f:=b }:=by
 have z:(s.cs.map (cH .i64)).length=16:=by rw[List.length_map,Q.1]
 simp only[MS.cells,List.setIfInBounds_toArray];rw[List.set_append_right _ _ (by omega),z];rfl
structure Mach(p:Nat)(s:MS)(W w:World):Prop where
 good:s.ok
 block:w.heap[p]? = some (cZ s.cells 360 (0,0))
 old:∀ k,k≠p->k<W.heap.size->w.heap[k]? = W.heap[k]?
 size:W.heap.size<=w.heap.size
 os:w.os=W.os
 tape:w.tape=W.tape
 output:w.output=W.output
theorem Mach.lt{p:Nat}{s:MS}{W w:World}(h:Mach p s W w):p<w.heap.size:=aA h.block
theorem Mach.cell{p:Nat}{s:MS}{W w:World}(h:Mach p s W w)(i:Nat):w.cell? ⟨p,i,none⟩=s.cells[i]?:=by simp[World.cell?,h.block]
theorem Mach.cell_n{p:Nat}{s:MS}{W w:World}(h:Mach p s W w):w.cell? ⟨p,16,none⟩=some (E J s.n):=by rw[h.cell,MS.cells_n h.good]
theorem Mach.cell_h{p:Nat}{s:MS}{W w:World}(h:Mach p s W w):w.cell? ⟨p,17,none⟩=some (E J s.h):=by rw[h.cell,MS.cells_h h.good]
theorem Mach.cell_f{p:Nat}{s:MS}{W w:World}(h:Mach p s W w):w.cell? ⟨p,18,none⟩=some (dD s.f):=by rw[h.cell,MS.cells_f h.good]
theorem Mach.cell_s{p:Nat}{s:MS}{W w:World}(h:Mach p s W w)(i:Nat)(hi:i<16):w.cell? ⟨p,i,none⟩=some (E J (s.cs.getD i 0)):=by rw[h.cell,MS.cells_stack h.good i hi]
theorem Mach.free{p:Nat}{s:MS}{W w:World}(h:Mach p s W w)(i:Nat):w.frozen? ⟨p,i,none⟩=false:=by simp[World.frozen?,h.block]
theorem Mach.store{p:Nat}{s z:MS}{W w:World}(h:Mach p s W w)(i:Nat)(v)(e:s.cells.setIfInBounds i v=z.cells)(g:z.ok):Mach p z W (w.setCell ⟨p,i,none⟩ v) where
 good:=g
 block:=by
  rw[heap_setCell_same w p i s.cells 360 v h.block,e]
 old:=λk Q hl=>by rw[heap_setCell_other w ⟨p,i,none⟩ k v Q];exact h.old k Q hl
 size:=by rw[World.size_setCell];exact h.size
 os:=h.os
 tape:=h.tape
 output:=h.output
theorem Mach.drew{p:Nat}{s:MS}{W w:World}(h:Mach p s W w):Mach p s W w.drew:=⟨h.good,h.block,h.old,h.size,h.os,h.tape,h.output⟩
theorem Mach.drewN{p:Nat}{s:MS}{W w:World}(h:Mach p s W w)(n:Nat):Mach p s W (w.drewN n):=⟨h.good,h.block,h.old,h.size,h.os,h.tape,h.output⟩
theorem Mach.alloc{p:Nat}{s:MS}{W w:World}(h:Mach p s W w)(o:Obj):Mach p s W (w.alloc o) where
 good:=h.good
 block:=by rw[bK w o p h.lt];exact h.block
 old:=λk Q z=>by rw[bK w o k (aD z h.size)];exact h.old k Q z
 size:=by have:=h.size;simp;omega
 os:=h.os
 tape:=h.tape
 output:=h.output
theorem Mach.past{p:Nat}{s:MS}{W w:World}(h:Mach p s W w)(q:Addr)(hq:q.block≠p)(z:q.block<W.heap.size):w.cell? q=W.cell? q:=World.cell?_of_block (w:=W) (h.old q.block hq z)
theorem Mach.below{p:Nat}{s:MS}{W w:World}(h:Mach p s W w)(hp:W.heap.size<=p):ZD W w:=
 ⟨h.os,h.tape,h.output,h.size,λk z=>h.old k (by omega) z⟩
theorem Mach.trans{p:Nat}{s s':MS}{W V w}(h:Mach p s W V)(k:Mach p s' V w):Mach p s' W w where
 good:=k.good
 block:=k.block
 old:=λj z Q=>by rw[k.old j z (aD Q h.size)];exact h.old j z Q
 size:=aT h.size k.size
 os:=k.os.trans h.os
 tape:=k.tape.trans h.tape
 output:=k.output.trans h.output
theorem Mach.self{p:Nat}{s:MS}{W w}(h:Mach p s W w):Mach p s w w:=⟨h.good,h.block,λ_ _ _=>rfl,Nat.le_refl _,rfl,rfl,rfl⟩
theorem Wy(n:Int)(b:Bool)(w)(z:b=hOk n) :
  Calls aB 252 #[E J n] w λe w'=>e = dA (dD b)/\w=w':=by
 have Q:=Zd z;clear z;go_enter func252,ntmps252
 go_wp2_with (go_at_call 103;refine (Y1 _ _ _ b _ Q).mono ?_;rintro e w' ⟨rfl,rfl⟩)
 go_ret;exact⟨rfl,rfl⟩
theorem Sy(p:Nat)(s:MS)(W w)(z:Mach p s W w) :
  Calls aB 313 #[dC (some ⟨p,0,none⟩)] w λe w'=>e = dA (dB #[])/\Mach p s.fail W w':=by
 have c1:=z.cell_f;have c2:=z.free 18;have Q:=Zd z;clear z;go_enter func313,ntmps313;go_wp2;go_end0;exact⟨rfl,Q.store 18 _ (MS.set_f Q.good true) Q.good.fail_ok⟩
theorem Bf{s:MS}{x:Int}(h:s.n=16\/fit x=false):s.put x=s.fail:=by unfold MS.put;rw[if_pos h];rfl
theorem Be{s:MS}{x:Int}(h1:s.n≠16)(h2:fit x=true):s.put x={ s with cs:=s.cs.set s.n x,n:=s.n+1 }:=by unfold MS.put;rw[if_neg (by simp[h1,h2])]
theorem Xw(p:Nat)(s:MS)(x:Int)(W w)(z:Mach p s W w) :
  Calls aB 303 #[dC (some ⟨p,0,none⟩),E J x] w λe w'=>e = dA (dB #[])/\Mach p (s.put x) W w':=by
 have hn:=z.good.2.1;have c1:=z.cell_n;have Q:=Zd z;by_cases h1:s.n=16
 ·rw[Bf (Or.inl h1)];rw[h1] at c1;clear z hn;go_enter func303,ntmps303
  go_wp2_with (go_at_call 313;refine (Sy p s W _ Q).mono ?_;rintro e w' ⟨rfl,ae⟩)
  first|go_end0|(simp only[Exit.inBlock,Exit.then];refine aW (results_none rfl _ _ _) rfl ?_)|refine aW (results_none rfl _ _ _) rfl ?_
  exact⟨rfl,by assumption⟩
 ·have g1:((s.n:Int) == 16)=false:=by simp;omega
  by_cases h2:fit x=true
  ·rw[Be h1 h2];have c2:=z.cell_s s.n (by omega);have c3:=z.free s.n;have c4:=z.free 16
   have c5:((w.setCell ⟨p,s.n,none⟩ (E J x))).cell? ⟨p,16,none⟩=some (E J s.n):=by
    rw[World.cell?_setCell_other]
    ·exact c1
    ·exact λe=>h1 (congrArg Addr.off e)
   have g2:(s.n:Int)<16:=(by omega);obtain⟨H1,H2⟩:=kh2 h1 h2;clear z h1 h2;go_enter func303,ntmps303
   go_wp2_with (go_at_call 302;refine (Sw _ true _ H2.symm).mono ?_;rintro e w' ⟨rfl,rfl⟩)
   go_region
   all_goals go_wp2
   all_goals go_end0
   all_goals
    refine⟨rfl,Mach.drew ?_⟩;have z:=Za Q;have g:=z.good.put_ok x;rw[Be H1 H2] at g;have ab:MS.ok { s with cs:=s.cs.set s.n x }:=⟨g.1,z.good.2.1,g.2.2⟩;exact (z.store s.n _ (MS.set_stack z.good s.n (by omega) x) ab).store 16 _ (MS.set_n ab (s.n+1)) g
  ·have h3:fit x=false:=(by simpa using h2);rw[Bf (Or.inr h3)];have H3:=Zd h3;clear z h2 h3 h1;go_enter func303,ntmps303
   go_wp2_with (first|(go_at_call 302;refine (Sw _ false _ H3.symm).mono ?_;rintro e w' ⟨rfl,rfl⟩)|(go_at_call 313;refine (Sy p s W _ Q).mono ?_;rintro e w' ⟨rfl,ae⟩))
   first|go_end0|(simp only[Exit.inBlock,Exit.then];refine aW (results_none rfl _ _ _) rfl ?_)|refine aW (results_none rfl _ _ _) rfl ?_
   exact⟨rfl,by assumption⟩
theorem Zey{s:MS}(h:s.n=0):s.take=s.fail:=by unfold MS.take;rw[if_pos h];rfl
theorem Zex{s:MS}(h:s.n≠0):s.take={ s with n:=s.n - 1 }:=by unfold MS.take;rw[if_neg h]
theorem Zix{s:MS}(h:s.n=0):s.top=0:=by unfold MS.top;rw[if_pos h]
theorem Ziw{s:MS}(h:s.n≠0):s.top=s.cs.getD (s.n - 1) 0:=by unfold MS.top;rw[if_neg h]
theorem Yt(p:Nat)(s:MS)(W w)(z:Mach p s W w) :
  Calls aB 333 #[dC (some ⟨p,0,none⟩)] w λe w'=>e = dA (E J s.top)/\Mach p s.take W w':=by
 have hn:=z.good.2.1;have c1:=z.cell_n;have HM:=Zd z;by_cases h1:s.n=0
 ·rw[Zey h1,Zix h1];rw[h1] at c1;clear z hn;go_enter func333,ntmps333
  go_wp2_with (go_at_call 313;refine (Sy p s W _ HM).mono ?_;rintro e w' ⟨rfl,ak⟩)
  go_ret;exact⟨rfl,by assumption⟩
 ·obtain⟨m,Q⟩:∃ m,s.n=m+1:=⟨s.n - 1,by omega⟩;have e1:s.take={ s with n:=m }:=by rw[Zex h1,Q];rfl
  have e2:s.top=s.cs.getD m 0:=by rw[Ziw h1,Q];rfl
  rw[e1,e2];have g1:(((m:Int)+1) == 0)=false:=by simp;omega
  rw[Q] at c1
  have c2:(w.setCell ⟨p,16,none⟩ (E J m)).cell? ⟨p,m,none⟩=some (E J (s.cs.getD m 0)):=by
   rw[World.cell?_setCell_other]
   ·exact z.cell_s m (by omega)
   ·exact λe=>absurd (congrArg Addr.off e) (by show ¬(16=m);omega)
  have c3:(w.setCell ⟨p,16,none⟩ (E J m)).cell? ⟨p,16,none⟩=some (E J m):=World.cell?_setCell_same _ _ _ z.cell_n;have c4:=z.free 16;have g2:(m:Int)<16:=by omega
  have H1:=Zd Q;obtain⟨t,ht⟩:=ZG (s.cs.getD m 0);rw[<-ht] at c2 ⊢;clear z h1 Q hn e1 e2 ht;go_enter func333,ntmps333;go_wp2
  go_quiet (fail)
  go_wp2;go_ret;refine⟨rfl,Mach.drewN ?_ _⟩;have z:=Za HM;have h1:=Za H1;exact z.store 16 _ (MS.set_n z.good m) ⟨z.good.1,by show m<=16;omega,z.good.2.2⟩
theorem Bh(p:Nat)(s:MS)(a cap W w)(z:Mach p s W w) :
  Calls aB 280 #[dC (some ⟨p,0,none⟩),F a 0 cap] w λe w'=>e = dA (dB #[])/\Mach p s W w':=by
 have Q:=Zd z;clear z;go_enter func280,ntmps280;go_wp2;refine wp_loop_rounds 1 ?_;rw[bD];go_wp2;go_end0;exact⟨rfl,Za Q⟩
theorem Bg(p:Nat)(s:MS)(b off len cap:Nat)(Z:List Int)(W w:World)(Q:Mach p s W w)(hp:W.heap.size<=p)(hz:Z.length=len)(hl:len<=maxLen)
  (hb:b<W.heap.size) (hc:∀ i,i<len->W.cell? ⟨b,off+i,none⟩=some (E J (Z.getD i 0))) :
  Calls aB 280 #[dC (some ⟨p,0,none⟩),F (some ⟨b,off,none⟩) len cap] w λe w'=>e = dA (dB #[])/\∃ z,Mach p z W w'/\z.h=s.h/\z.rep=s.rep.bind (λL=>Qp L Z):=by
 obtain⟨HM,HC,HZ⟩:=kh3 Q hc hz;unfold maxLen at hl;clear Q hc hz;go_enter func280,ntmps280;go_wp2
 go_loopw [8] (λi wr=>∃ (k:Nat) (z:MS),k<=len/\i = E J k/\Mach p z W wr/\z.h=s.h/\z.rep=s.rep.bind (λL=>Qp L (Z.take k))) (λi _=>len - (intOf i).toNat)
 case atStart=>exact⟨0,s,aL _,rfl,Za HM,rfl,by cases s.rep <;> rfl⟩
 case round=>
  obtain⟨k,z,hk,rfl,Q,hh,hr⟩:=hrel;have aa:=Zd Q;obtain⟨HH,HR⟩:=kh2 hh hr;clear hh hr;by_cases ah:k<len
  ·have c1:wr.cell? ⟨b,off+k,none⟩=some (E J (Z.getD k 0)):=(Q.past ⟨b,off+k,none⟩ (by show b≠p;omega) hb).trans (HC k ah);obtain⟨x,hx⟩:=ZG (Z.getD k 0);rw[<-hx] at c1;have HX:=Zd hx;clear Q hx;go_wp2_with fail;refine (Xw p z x W _ aa).mono ?_;rintro e w1 ⟨rfl,aj⟩;have ap:=Zd aj;clear aj;go_wp2;go_roundw
   case rel=>
    refine⟨k+1,z.put x,by omega,by go_num,Za ap,(MS.put_h _ _).trans HH,?_⟩;have ag:k<Z.length:=(by rw[Za HZ];exact ah);have ex:x=Z[k]:=(by rw[Za HX];simp[ag]);rw[MS.rep_put aa.good,Za HR,List.take_succ_eq_append_getElem ag,ex];cases s.rep with
    | none=>rfl
    | some L=>exact (Kt _ _ _).symm
   case measure=>simp[intOf];omega
  ·clear Q;go_wp2;go_end0;have e:k=len:=(by omega);subst e;refine⟨rfl,z,Za aa,Za HH,?_⟩;rw[Za HR,<-Za HZ,List.take_length]
theorem Zal(p:Nat)(s:MS)(a len cap Z)(W w:World)(hm:Mach p s W w)(hp:W.heap.size<=p)(hR:RowAt W a len Z) :
  Calls aB 280 #[dC (some ⟨p,0,none⟩),F a len cap] w λe w'=>e = dA (dB #[])/\∃ z,Mach p z W w'/\z.h=s.h/\z.rep=s.rep.bind (λL=>Qp L Z):=by
 obtain⟨hz,hl,hc⟩:=hR;by_cases h:len=0
 ·subst h;have e:Z=[]:=List.length_eq_zero_iff.1 hz;subst e;exact (Bh p s a cap W w hm).mono λe w' ⟨x,y⟩=>⟨x,s,y,rfl,by cases s.rep <;> rfl⟩
 ·obtain⟨b,off,rfl,Q⟩:=hc (by omega);exact Bg p s b off len cap Z W w hm hp hz hl (World.block_lt_of_cell? _ _ (Q 0 (by omega))) Q
theorem Ql(b:Bool)(w) :
  Calls aB 321 #[dD b] w λe w'=>e = dA (E J (b01 b))/\w=w':=by
 cases b
 all_goals
  go_enter func321,ntmps321;go_wp2;go_ret;exact⟨rfl,rfl⟩
theorem Zrg(a b:Int)(w)(z:fit a=true)(Q:fit b=true) :
  Calls aB 318 #[E J a,E J b] w λe w'=>e = dA (E J (g2 5 a b))/\w=w':=by
 have h1:=(Uk a).1 z;have h2:=(Uk b).1 Q;clear z Q;go_enter func318,ntmps318;go_wp2;go_ret;exact⟨rfl,rfl⟩
theorem Zrf(a b:Int)(w)(z:fit a=true)(Q:fit b=true) :
  Calls aB 319 #[E J a,E J b] w λe w'=>e = dA (E J (g2 6 a b))/\w=w':=by
 have h1:=(Uk a).1 z;have h2:=(Uk b).1 Q;clear z Q;go_enter func319,ntmps319;go_wp2;go_ret;exact⟨rfl,rfl⟩
theorem Zre(a b:Int)(w) :
  Calls aB 320 #[E J a,E J b] w λe w'=>e = dA (E J (g2 7 a b))/\w=w':=by
 go_enter func320,ntmps320
 go_wp2_with (go_at_call 321;refine (Ql _ _).mono ?_;rintro e w' ⟨rfl,rfl⟩)
 go_ret;exact⟨rfl,rfl⟩
theorem Zrd(a b:Int)(w) :
  Calls aB 322 #[E J a,E J b] w λe w'=>e = dA (E J (g2 8 a b))/\w=w':=by
 go_enter func322,ntmps322
 go_wp2_with (go_at_call 321;refine (Ql _ _).mono ?_;rintro e w' ⟨rfl,rfl⟩)
 go_ret;exact⟨rfl,rfl⟩
theorem Zrb(a b:Int)(w) :
  Calls aB 325 #[E J a,E J b] w λe w'=>e = dA (E J (g2 10 a b))/\w=w':=by
 by_cases h:a=0
 ·have h1:(a != 0)=false:=by simp[h]
  have e:g2 10 a b=b01 false:=by simp[g2,h]
  rw[e];clear h e;go_enter func325,ntmps325
  go_wp2_with (go_at_call 321;refine (Ql _ _).mono ?_;rintro e w' ⟨rfl,rfl⟩)
  go_ret;exact⟨rfl,rfl⟩
 ·have h1:(a != 0)=true:=by simp[h]
  have e:g2 10 a b=b01 (b != 0):=by simp[g2,h1]
  rw[e];clear h e;go_enter func325,ntmps325
  go_wp2_with (go_at_call 321;refine (Ql _ _).mono ?_;rintro e w' ⟨rfl,rfl⟩)
  go_ret;exact⟨rfl,rfl⟩
theorem Zrc(a:Int)(w) :
  Calls aB 324 #[E J a] w λe w'=>e = dA (E J (g1 9 a))/\w=w':=by
 go_enter func324,ntmps324
 go_wp2_with (go_at_call 321;refine (Ql _ _).mono ?_;rintro e w' ⟨rfl,rfl⟩)
 go_ret;exact⟨rfl,rfl⟩
theorem Znu{k:IntKind}{a b:Int}(h:a=b):Ending.returned (.int k a) = dA (.int k b):=by rw[h]
theorem Zod(a:Int)(w)(z:fit a=true) :
  Calls aB 328 #[E J a] w λe w'=>e = dA (E J (g1 13 a))/\w=w':=by
 have ac:=Zd (Zoe a z);have h1:=(Uk a).1 z;clear z;go_enter func328,ntmps328;go_wp2
 go_loop [3,6] (λr i=>∃ k:Nat,k<=3/\i = E J k/\r = E J (Fc a k)) (λ_ i=>3 - (intOf i).toNat)
 case atStart=>exact⟨0,aL _,rfl,rfl⟩
 case round=>
  obtain⟨k,hk,rfl,rfl⟩:=hrel;obtain⟨b1,b2⟩:=ac k;obtain⟨m,Q⟩:=ZG (Fc a k);rw[<-Q] at b1 b2 ⊢;have HM:=Zd Q;clear Q;by_cases ae:k<3
  ·go_wp2
   go_round
   case rel=>
    refine⟨k+1,by omega,by go_num,?_⟩;have:=Za HM;simp only[Fc,<-this]
   case measure=>simp[intOf];omega
  ·go_wp2;go_ret;have e:k=3:=(by omega);subst e;refine⟨Znu ?_,rfl⟩;have:=Za HM;simp only[g1,Zpz,<-this];simp
theorem Zlr(p:Nat)(s:MS)(n:Int)(W w)(z:Mach p s W w) :
  Calls aB 316 #[dC (some ⟨p,0,none⟩),E J n] w λe w'=>e = dA (dB #[])/\Mach p (s.step 4 n) W w':=by
 have Q:=Zd z;clear z;go_enter func316,ntmps316
 go_wp2_with (go_at_call 333;refine (Yt p s W _ Q).mono ?_;rintro e w' ⟨rfl,aa⟩)
 go_end0;exact⟨rfl,by assumption⟩
theorem Ms(p:Nat)(s:MS)(n:Int)(W w)(z:Mach p s W w) :
  Calls aB 327 #[dC (some ⟨p,0,none⟩),E J n] w λe w'=>e = dA (dB #[])/\Mach p (s.step 12 n) W w':=by
 have c1:=z.cell_h;have Q:=Zd z;clear z;go_enter func327,ntmps327
 go_wp2_with (go_at_call 303;refine (Xw p s _ W _ Q).mono ?_;rintro e w' ⟨rfl,aa⟩)
 go_end0;exact⟨rfl,by assumption⟩
theorem Zpa(p:Nat)(s:MS)(n:Int)(W w)(z:Mach p s W w) :
  Calls aB 314 #[dC (some ⟨p,0,none⟩),E J n] w λe w'=>e = dA (dB #[])/\Mach p (s.step 2 n) W w':=by
 have HM:=Zd z;clear z;go_enter func314,ntmps314;go_wp2_with fail;refine (Yt p s W _ HM).mono ?_;rintro e w1 ⟨rfl,Q⟩;have ad:=Zd Q;clear Q;go_wp2_with fail;refine (Xw p s.take _ W _ ad).mono ?_;rintro e w2 ⟨rfl,aa⟩;have ae:=Zd aa;clear aa;go_wp2_with fail;refine (Xw p (s.take.put s.top) _ W _ ae).mono ?_;rintro e w3 ⟨rfl,ab⟩;have af:=Zd ab;clear ab;go_wp2;go_end0;exact⟨rfl,Za af⟩
theorem Zja(p:Nat)(s:MS)(n:Int)(W w)(z:Mach p s W w) :
  Calls aB 315 #[dC (some ⟨p,0,none⟩),E J n] w λe w'=>e = dA (dB #[])/\Mach p (s.step 3 n) W w':=by
 have HM:=Zd z;clear z;go_enter func315,ntmps315;go_wp2_with fail;refine (Yt p s W _ HM).mono ?_;rintro e w1 ⟨rfl,Q⟩;have ae:=Zd Q;clear Q;go_wp2_with fail;refine (Yt p s.take W _ ae).mono ?_;rintro e w2 ⟨rfl,aa⟩;have af:=Zd aa;clear aa;go_wp2_with fail;refine (Xw p s.take.take _ W _ af).mono ?_;rintro e w3 ⟨rfl,ab⟩;have ag:=Zd ab;clear ab;go_wp2_with fail;refine (Xw p (s.take.take.put s.top) _ W _ ag).mono ?_;rintro e w4 ⟨rfl,ac⟩;have ah:=Zd ac;clear ac;go_wp2;go_end0;exact⟨rfl,Za ah⟩
theorem Zaa(p:Nat)(s:MS)(n:Int)(W w)(hm:Mach p s W w) :
  Calls aB 326 #[dC (some ⟨p,0,none⟩),E J n] w λe w'=>e = dA (dB #[])/\Mach p (s.step 11 n) W w':=by
 have HM:=Zd hm;clear hm;by_cases h:s.top=0
 ·have z:s.step 11 n=s.take.fail:=by simp[MS.step,h]
  have h1:(s.top == 0)=true:=by simp[h]
  rw[z];clear h z;go_enter func326,ntmps326;go_wp2_with fail;refine (Yt p s W _ HM).mono ?_;rintro e w1 ⟨rfl,Q⟩;have aa:=Zd Q;clear Q;go_wp2_with fail;refine (Sy p s.take W _ aa).mono ?_;rintro e w2 ⟨rfl,ad⟩;have ae:=Zd ad;clear ad;go_wp2;go_end0;exact⟨rfl,Za ae⟩
 ·have z:s.step 11 n=s.take:=by simp[MS.step,h]
  have h1:(s.top == 0)=false:=by simp[h]
  rw[z];clear h z;go_enter func326,ntmps326;go_wp2_with fail;refine (Yt p s W _ HM).mono ?_;rintro e w1 ⟨rfl,Q⟩;have aa:=Zd Q;clear Q;go_wp2;go_end0;exact⟨rfl,Za aa⟩
