import Derived.Test.YtmomfkikogbdeaaGreatDoorH
import Derived.Test.YtmomfkikogbdeaaGreatDoorG5
open Go.Proofs.Tryz
open Go renaming TypeId->cF,heap_alloc_new->aG,bodyPost_ret->bB,lt_of_block->aA,rounds_succ->bK
open Go.Ending renaming returned->dF
open Go.IntKind renaming i64->J
open Go.Obj renaming cells->dE
open Go.Proofs.Tryz renaming prog->aB
open Go.RowKit.Below renaming heap_alloc->bX
open Go.Value renaming slice->bO,int->bM,int->E,slice->F,tuple->dG,pointer->dH,bool->dI
open Nat renaming lt_of_lt_of_le->aD,le_trans->aN,zero_le->aI
set_option maxHeartbeats 6400000
namespace Go.Proofs.YtmomfkikogbdeaaGreatDoor
open Go.RowKit
abbrev Zk:=Int×Int×Int×Int×List TxD
def TxAt(w:World)(b o:Nat)(t:TxD):Prop:=
 w.cell? ⟨b,o,none⟩=some (E J t.1)/\(∃ a n c,w.cell? ⟨b,o+1,none⟩=some (F a n c)/\InsAt w a n t.2.1/\SlOk a n c)/\(∃ a n c,w.cell? ⟨b,o+2,none⟩=some (F a n c)/\OutsAt w a n t.2.2/\SlOk a n c)
theorem TxAt.kept:Gq TxAt:=λ_ _ _ _ _ hb h=>by
 obtain⟨h1,⟨a,n,c,h2,h3,h4⟩,a',n',c',h5,h6,h7⟩:=h;exact⟨Ze hb h1,⟨a,n,c,Ze hb h2,h3.later hb,h4⟩,a',n',c',Ze hb h5,h6.later hb,h7⟩
def TxsAt(w:World)(a:Option Addr)(len:Nat)(l:List TxD):Prop:=RowsAt TxAt 3 w a len l
theorem TxsAt.later{w w':World}{a len l}(h:TxsAt w a len l)(hb:ZD w w'):TxsAt w' a len l:=RowsAt.later TxAt.kept h hb
def Wk(p h k n:Int):Bool:=(decide (0<=p) && decide (p<=120)) && ((decide (1<=h) && decide (h<=1000)) && ((decide (1<=k) && decide (k<=1000)) && (decide (0<=n) && decide (n<=1000000000))))
def J7(t:TxD)(i h:Int):Bool:=if 0<i then !decide (t.2.1.length=0) else decide (t.2.1.length=0) && decide (t.1=h)
def Wc(h:Int):Nat->List TxD->Int
 | _,[]=>0
 | i,t :: r=>if Zq t≠0 then Zq t else if J7 t i h=false then 4 else Wc h (i+1) r
def Yq(b:Zk):Int:=if Wk b.1 b.2.1 b.2.2.1 b.2.2.2.1=false then 3 else if 4<b.2.2.2.2.length then 2 else if b.2.2.2.2.length=0 then 4 else Wc b.2.1 0 b.2.2.2.2
theorem Zlm(h:Int)(T:List TxD)(k:Nat)(hk:k<T.length):Wc h k (T.drop k)=if Zq T[k]≠0 then Zq T[k] else if J7 T[k] k h=false then 4 else Wc h (k+1) (T.drop (k+1)):=by
 rw[List.drop_eq_getElem_cons hk];rfl
theorem Zhi(h:Int)(T:List TxD)(k:Nat)(hk:T.length<=k):Wc h k (T.drop k)=0:=by
 rw[List.drop_of_length_le hk];rfl
theorem Zx(w:World)(a b c d e)(t:cF):(w.alloc (dE #[a,b,c,d,e] t)).heap[w.heap.size]? = some (dE [a,b,c,d,e].toArray t (0,0)):=aG w _
theorem Yf{fn:Func}{p:Tmp}{ty:cF}(h:fn.results=#[.cell p ty])(tmps:Array Value)(P:Program)(w) :
  (results fn tmps).run P w=((asAddr (tmps.getD p undef)).run P w).andThen λa w₁=>(loadVar ty a).run P w₁:=by
 simp only[results,h];simp[Sem.run_bind,Result.andThen]
set_option maxRecDepth 10000 in
theorem Rf(p h k n:Int)(a m c)(w:World) :
  ZH 104 #[.agg #[E J p,E J h,E J k,E J n,F a m c]] w (.agg #[E J p,E J h,E J k,E J n]):=by
 have HB:=Zd (Zf (Zh w (dE #[E J p,E J h,E J k,E J n,F a m c] 39)) (Zh _ (dE #[E J p,E J h,E J k,E J n] 187)));go_enter func104,ntmps104;go_wp2;(try simp only[Exit.inBlock,Exit.then]);refine bB (v:=.agg #[E J p,E J h,E J k,E J n]) ?_ rfl ⟨rfl,?_⟩
 ·rw[Yf rfl];go_simp
 ·exact Za HB
theorem Zfb(h:Int)(ai ao)(ni ci no co:Nat)(I:List InD)(O)(i:Nat)(ht:Int)(o:Bool)(w:World)(hI:I.length=ni)(ho:J7 (h,I,O) i ht=o) :
  ZH 153 #[.agg #[E J h,F ai ni ci,F ao no co],E J i,E J ht] w (dI o):=by
 have HB:=Zd (Zh w (dE #[E J h,F ai ni ci,F ao no co] 59));unfold J7 at ho;simp only at ho;rw[hI] at ho;clear hI;by_cases h1:i=0
 ·subst h1;rw[if_neg (by decide)] at ho;by_cases h2:ni=0
  ·subst h2;by_cases h3:h=ht
   ·subst h3;obtain rfl:true=o:=(by rw[<-ho];simp);clear ho;go_enter func153,ntmps153;go_wp2;go_ret;exact⟨rfl,Za HB⟩
   ·obtain rfl:false=o:=(by rw[<-ho];simp[h3]);have g:(h == ht)=false:=(by simp[h3]);clear ho h3;go_enter func153,ntmps153;go_wp2;go_ret;exact⟨by rw[<-g];rfl,Za HB⟩
  ·obtain rfl:false=o:=(by rw[<-ho];simp[h2]);have g:((ni:Int) == 0)=false:=(by simp[h2]);clear ho;go_enter func153,ntmps153;go_wp2;go_ret;exact⟨rfl,Za HB⟩
 ·have hi:0<(i:Int):=by omega
  rw[if_pos hi] at ho;by_cases h2:ni=0
  ·subst h2;obtain rfl:false=o:=(by rw[<-ho];simp);clear ho;go_enter func153,ntmps153;go_wp2;go_ret;exact⟨rfl,Za HB⟩
  ·obtain rfl:true=o:=(by rw[<-ho];simp[h2]);have g:((ni:Int) == 0)=false:=(by simp[h2]);clear ho;go_enter func153,ntmps153;go_wp2;go_ret;exact⟨rfl,Za HB⟩
theorem Qw(a b c d w) :
  (Instr.index 187 (.agg #[a,b,c,d]) (E J 0)).run aB w = .ok a w/\(Instr.index 187 (.agg #[a,b,c,d]) (E J 1)).run aB w = .ok b w /\
  (Instr.index 187 (.agg #[a,b,c,d]) (E J 2)).run aB w = .ok c w/\(Instr.index 187 (.agg #[a,b,c,d]) (E J 3)).run aB w = .ok d w:=by
 refine⟨?_,?_,?_,?_⟩ <;> kernel_rfl
theorem Yg(n lo hi:Int)(b:Bool)(w:World)(hb:(decide (lo<=n) && decide (n<=hi))=b) :
  ZH 103 #[E J n,E J lo,E J hi] w (dI b):=
 (Yr n lo hi b w hb.symm).mono λ_ _ ⟨h1,h2⟩=>⟨h1,h2 ▸ Below.refl _ _⟩
theorem Pn(w:World)(a b c d)(t:cF):(w.alloc (dE #[a,b,c,d] t)).heap[w.heap.size]? = some (dE [a,b,c,d].toArray t (0,0)):=aG w _
set_option maxRecDepth 100000 in
theorem Gg(p h k n:Int)(a m c)(o:Bool)(w:World)(ho:Wk p h k n=o) :
  ZH 151 #[.agg #[E J p,E J h,E J k,E J n,F a m c]] w (dI o):=by
 obtain⟨X,hX⟩:=ZG (((w.alloc (dE #[E J p,E J h,E J k,E J n,F a m c] 39)).alloc (dE #[E J 0,E J 1,E J 1,E J 0] 187)).alloc (dE #[E J 120,E J 1000,E J 1000,E J 1000000000] 187));have bo:ZD w X:=by rw[hX];exact Zf (Zf (Zh _ _) (Zh _ _)) (Zh _ _)
 have hL:X.heap[w.heap.size+1]? = some (dE [E J 0,E J 1,E J 1,E J 0].toArray 187 (0,0)):=by
  rw[hX,bX _ _ _ (by simp)];have:=Pn (w.alloc (dE #[E J p,E J h,E J k,E J n,F a m c] 39)) (E J 0) (E J 1) (E J 1) (E J 0) 187;rw[show (w.alloc (dE #[E J p,E J h,E J k,E J n,F a m c] 39)).heap.size=w.heap.size+1 by simp] at this;exact this
 have hH:X.heap[w.heap.size+2]? = some (dE [E J 120,E J 1000,E J 1000,E J 1000000000].toArray 187 (0,0)):=by
  rw[hX];have:=Pn ((w.alloc (dE #[E J p,E J h,E J k,E J n,F a m c] 39)).alloc (dE #[E J 0,E J 1,E J 1,E J 0] 187)) (E J 120) (E J 1000) (E J 1000) (E J 1000000000) 187;rw[show ((w.alloc (dE #[E J p,E J h,E J k,E J n,F a m c] 39)).alloc (dE #[E J 0,E J 1,E J 1,E J 0] 187)).heap.size=w.heap.size+2 by simp] at this;exact this
 obtain⟨C,bb,HL,HH⟩:=kh4 (Rf p h k n a m c X) bo hL hH;have br:=λw=>(Qw (E J p) (E J h) (E J k) (E J n) w).1;have bs:=λw=>(Qw (E J p) (E J h) (E J k) (E J n) w).2.1;have bt:=λw=>(Qw (E J p) (E J h) (E J k) (E J n) w).2.2.1;have bu:=λw=>(Qw (E J p) (E J h) (E J k) (E J n) w).2.2.2;unfold Wk at ho;clear bo hL hH;go_enter func151,ntmps151;go_wp2_with fail;rw[<-hX];clear hX;go_wp2_with fail;refine C.mono ?_;rintro e w1 ⟨rfl,aw⟩;have au:=Zd (Zf bb aw);have ar:=ZE aw HL;have aq:=ZE aw HH;have ad:=Zb ar 0 _ rfl;have ah:=Zb aq 0 _ rfl;have ae:=Zb ar 1 _ rfl;have aj:=Zb aq 1 _ rfl;have af:=Zb ar 2 _ rfl;have ak:=Zb aq 2 _ rfl;have ag:=Zb ar 3 _ rfl;have am:=Zb aq 3 _ rfl;have ay:=aA ar;have ax:=aA aq;clear aw ar aq C HL HH bb;go_wp2;have bf:ZD w1 w1:=Below.refl _ _;refine wp_loop_rounds 5 ?_;cases q0:(decide ((0:Int)<=p) && decide (p<=120)) with
 | false=>
  rw[q0] at ho;have CC:=Zd (λW=>Yg p 0 120 false W q0);clear q0;obtain rfl:false=o:=by rw[<-ho];rfl
  clear ho;rw[bK];go_wp2_with fail
  go_region_held3 (λW'=>ZD w1 W'/\W'.cell? ⟨w.heap.size+1,0,none⟩=some (E J 0)/\W'.cell? ⟨w.heap.size+2,0,none⟩=some (E J 120)/\W'.cell? ⟨w.heap.size+1,1,none⟩=some (E J 1)/\W'.cell? ⟨w.heap.size+2,1,none⟩=some (E J 1000)/\W'.cell? ⟨w.heap.size+1,2,none⟩=some (E J 1)/\W'.cell? ⟨w.heap.size+2,2,none⟩=some (E J 1000)/\W'.cell? ⟨w.heap.size+1,3,none⟩=some (E J 0)/\W'.cell? ⟨w.heap.size+2,3,none⟩=some (E J 1000000000))
   (first
   | exact⟨Zf bf (Zi _),ad,ah,ae,aj,af,ak,ag,am⟩
   | (go_split_ands;refine⟨Zf (by assumption) aa,Ze aa (by assumption),Ze aa (by assumption),Ze aa (by assumption),Ze aa (by assumption),Ze aa (by assumption),Ze aa (by assumption),Ze aa (by assumption),Ze aa (by assumption)⟩))
   (first|(go_at_call 103;refine (CC _).mono ?_;rintro e w' ⟨rfl,aa⟩))
  rename_i hq;have ap:=Zd (Zf au hq.1);clear hq;go_wp2;go_ret;exact⟨rfl,Za ap⟩
 | true=>
  rw[q0] at ho;have CC:=Zd (λW=>Yg p 0 120 true W q0);clear q0;rw[bK];go_wp2_with fail
  go_region_held3 (λW'=>ZD w1 W'/\W'.cell? ⟨w.heap.size+1,0,none⟩=some (E J 0)/\W'.cell? ⟨w.heap.size+2,0,none⟩=some (E J 120)/\W'.cell? ⟨w.heap.size+1,1,none⟩=some (E J 1)/\W'.cell? ⟨w.heap.size+2,1,none⟩=some (E J 1000)/\W'.cell? ⟨w.heap.size+1,2,none⟩=some (E J 1)/\W'.cell? ⟨w.heap.size+2,2,none⟩=some (E J 1000)/\W'.cell? ⟨w.heap.size+1,3,none⟩=some (E J 0)/\W'.cell? ⟨w.heap.size+2,3,none⟩=some (E J 1000000000))
   (first
   | exact⟨Zf bf (Zi _),ad,ah,ae,aj,af,ak,ag,am⟩
   | (go_split_ands;refine⟨Zf (by assumption) aa,Ze aa (by assumption),Ze aa (by assumption),Ze aa (by assumption),Ze aa (by assumption),Ze aa (by assumption),Ze aa (by assumption),Ze aa (by assumption),Ze aa (by assumption)⟩))
   (first|(go_at_call 103;refine (CC _).mono ?_;rintro e w' ⟨rfl,aa⟩))
  rename_i hq;have ll:=aD ay hq.1.size;have lh:=aD ax hq.1.size;obtain⟨bg,ad,ah,ae,aj,af,ak,ag,am⟩:=hq;rw[Bool.true_and] at ho;go_wp2;cases q1:(decide ((1:Int)<=h) && decide (h<=1000)) with
  | false=>
   rw[q1] at ho;have CC:=Zd (λW=>Yg h 1 1000 false W q1);clear q1;obtain rfl:false=o:=(by rw[<-ho];rfl);clear ho;rw[bK];go_wp2_with fail
   go_region_held3 (λW'=>ZD w1 W'/\W'.cell? ⟨w.heap.size+1,0,none⟩=some (E J 0)/\W'.cell? ⟨w.heap.size+2,0,none⟩=some (E J 120)/\W'.cell? ⟨w.heap.size+1,1,none⟩=some (E J 1)/\W'.cell? ⟨w.heap.size+2,1,none⟩=some (E J 1000)/\W'.cell? ⟨w.heap.size+1,2,none⟩=some (E J 1)/\W'.cell? ⟨w.heap.size+2,2,none⟩=some (E J 1000)/\W'.cell? ⟨w.heap.size+1,3,none⟩=some (E J 0)/\W'.cell? ⟨w.heap.size+2,3,none⟩=some (E J 1000000000))
    (first
    | exact⟨Zf bg (Zi _),ad,ah,ae,aj,af,ak,ag,am⟩
    | (go_split_ands;refine⟨Zf (by assumption) aa,Ze aa (by assumption),Ze aa (by assumption),Ze aa (by assumption),Ze aa (by assumption),Ze aa (by assumption),Ze aa (by assumption),Ze aa (by assumption),Ze aa (by assumption)⟩))
    (first|(go_at_call 103;refine (CC _).mono ?_;rintro e w' ⟨rfl,aa⟩))
   rename_i hq;have ap:=Zd (Zf au hq.1);clear hq;go_wp2;go_ret;exact⟨rfl,Za ap⟩
  | true=>
   rw[q1] at ho;have CC:=Zd (λW=>Yg h 1 1000 true W q1);clear q1;rw[bK];go_wp2_with fail
   go_region_held3 (λW'=>ZD w1 W'/\W'.cell? ⟨w.heap.size+1,0,none⟩=some (E J 0)/\W'.cell? ⟨w.heap.size+2,0,none⟩=some (E J 120)/\W'.cell? ⟨w.heap.size+1,1,none⟩=some (E J 1)/\W'.cell? ⟨w.heap.size+2,1,none⟩=some (E J 1000)/\W'.cell? ⟨w.heap.size+1,2,none⟩=some (E J 1)/\W'.cell? ⟨w.heap.size+2,2,none⟩=some (E J 1000)/\W'.cell? ⟨w.heap.size+1,3,none⟩=some (E J 0)/\W'.cell? ⟨w.heap.size+2,3,none⟩=some (E J 1000000000))
    (first
    | exact⟨Zf bg (Zi _),ad,ah,ae,aj,af,ak,ag,am⟩
    | (go_split_ands;refine⟨Zf (by assumption) aa,Ze aa (by assumption),Ze aa (by assumption),Ze aa (by assumption),Ze aa (by assumption),Ze aa (by assumption),Ze aa (by assumption),Ze aa (by assumption),Ze aa (by assumption)⟩))
    (first|(go_at_call 103;refine (CC _).mono ?_;rintro e w' ⟨rfl,aa⟩))
   rename_i hq;have ll:=aD ay hq.1.size;have lh:=aD ax hq.1.size;obtain⟨bh,ad,ah,ae,aj,af,ak,ag,am⟩:=hq;rw[Bool.true_and] at ho;go_wp2;cases q2:(decide ((1:Int)<=k) && decide (k<=1000)) with
   | false=>
    rw[q2] at ho;have CC:=Zd (λW=>Yg k 1 1000 false W q2);clear q2;obtain rfl:false=o:=(by rw[<-ho];rfl);clear ho;rw[bK];go_wp2_with fail
    go_region_held3 (λW'=>ZD w1 W'/\W'.cell? ⟨w.heap.size+1,0,none⟩=some (E J 0)/\W'.cell? ⟨w.heap.size+2,0,none⟩=some (E J 120)/\W'.cell? ⟨w.heap.size+1,1,none⟩=some (E J 1)/\W'.cell? ⟨w.heap.size+2,1,none⟩=some (E J 1000)/\W'.cell? ⟨w.heap.size+1,2,none⟩=some (E J 1)/\W'.cell? ⟨w.heap.size+2,2,none⟩=some (E J 1000)/\W'.cell? ⟨w.heap.size+1,3,none⟩=some (E J 0)/\W'.cell? ⟨w.heap.size+2,3,none⟩=some (E J 1000000000))
     (first
     | exact⟨Zf bh (Zi _),ad,ah,ae,aj,af,ak,ag,am⟩
     | (go_split_ands;refine⟨Zf (by assumption) aa,Ze aa (by assumption),Ze aa (by assumption),Ze aa (by assumption),Ze aa (by assumption),Ze aa (by assumption),Ze aa (by assumption),Ze aa (by assumption),Ze aa (by assumption)⟩))
     (first|(go_at_call 103;refine (CC _).mono ?_;rintro e w' ⟨rfl,aa⟩))
    rename_i hq;have ap:=Zd (Zf au hq.1);clear hq;go_wp2;go_ret;exact⟨rfl,Za ap⟩
   | true=>
    rw[q2] at ho;have CC:=Zd (λW=>Yg k 1 1000 true W q2);clear q2;rw[bK];go_wp2_with fail
    go_region_held3 (λW'=>ZD w1 W'/\W'.cell? ⟨w.heap.size+1,0,none⟩=some (E J 0)/\W'.cell? ⟨w.heap.size+2,0,none⟩=some (E J 120)/\W'.cell? ⟨w.heap.size+1,1,none⟩=some (E J 1)/\W'.cell? ⟨w.heap.size+2,1,none⟩=some (E J 1000)/\W'.cell? ⟨w.heap.size+1,2,none⟩=some (E J 1)/\W'.cell? ⟨w.heap.size+2,2,none⟩=some (E J 1000)/\W'.cell? ⟨w.heap.size+1,3,none⟩=some (E J 0)/\W'.cell? ⟨w.heap.size+2,3,none⟩=some (E J 1000000000))
     (first
     | exact⟨Zf bh (Zi _),ad,ah,ae,aj,af,ak,ag,am⟩
     | (go_split_ands;refine⟨Zf (by assumption) aa,Ze aa (by assumption),Ze aa (by assumption),Ze aa (by assumption),Ze aa (by assumption),Ze aa (by assumption),Ze aa (by assumption),Ze aa (by assumption),Ze aa (by assumption)⟩))
     (first|(go_at_call 103;refine (CC _).mono ?_;rintro e w' ⟨rfl,aa⟩))
    rename_i hq;have ll:=aD ay hq.1.size;have lh:=aD ax hq.1.size;obtain⟨bi,ad,ah,ae,aj,af,ak,ag,am⟩:=hq;rw[Bool.true_and] at ho;go_wp2;cases q3:(decide ((0:Int)<=n) && decide (n<=1000000000)) with
    | false=>
     rw[q3] at ho;have CC:=Zd (λW=>Yg n 0 1000000000 false W q3);clear q3;obtain rfl:false=o:=(by rw[<-ho]);clear ho;rw[bK];go_wp2_with fail
     go_region_held3 (λW'=>ZD w1 W'/\W'.cell? ⟨w.heap.size+1,0,none⟩=some (E J 0)/\W'.cell? ⟨w.heap.size+2,0,none⟩=some (E J 120)/\W'.cell? ⟨w.heap.size+1,1,none⟩=some (E J 1)/\W'.cell? ⟨w.heap.size+2,1,none⟩=some (E J 1000)/\W'.cell? ⟨w.heap.size+1,2,none⟩=some (E J 1)/\W'.cell? ⟨w.heap.size+2,2,none⟩=some (E J 1000)/\W'.cell? ⟨w.heap.size+1,3,none⟩=some (E J 0)/\W'.cell? ⟨w.heap.size+2,3,none⟩=some (E J 1000000000))
      (first
      | exact⟨Zf bi (Zi _),ad,ah,ae,aj,af,ak,ag,am⟩
      | (go_split_ands;refine⟨Zf (by assumption) aa,Ze aa (by assumption),Ze aa (by assumption),Ze aa (by assumption),Ze aa (by assumption),Ze aa (by assumption),Ze aa (by assumption),Ze aa (by assumption),Ze aa (by assumption)⟩))
      (first|(go_at_call 103;refine (CC _).mono ?_;rintro e w' ⟨rfl,aa⟩))
     rename_i hq;have ap:=Zd (Zf au hq.1);clear hq;go_wp2;go_ret;exact⟨rfl,Za ap⟩
    | true=>
     rw[q3] at ho;have CC:=Zd (λW=>Yg n 0 1000000000 true W q3);clear q3;obtain rfl:true=o:=(by rw[<-ho]);clear ho;rw[bK];go_wp2_with fail
     go_region_held3 (λW'=>ZD w1 W'/\W'.cell? ⟨w.heap.size+1,0,none⟩=some (E J 0)/\W'.cell? ⟨w.heap.size+2,0,none⟩=some (E J 120)/\W'.cell? ⟨w.heap.size+1,1,none⟩=some (E J 1)/\W'.cell? ⟨w.heap.size+2,1,none⟩=some (E J 1000)/\W'.cell? ⟨w.heap.size+1,2,none⟩=some (E J 1)/\W'.cell? ⟨w.heap.size+2,2,none⟩=some (E J 1000)/\W'.cell? ⟨w.heap.size+1,3,none⟩=some (E J 0)/\W'.cell? ⟨w.heap.size+2,3,none⟩=some (E J 1000000000))
      (first
      | exact⟨Zf bi (Zi _),ad,ah,ae,aj,af,ak,ag,am⟩
      | (go_split_ands;refine⟨Zf (by assumption) aa,Ze aa (by assumption),Ze aa (by assumption),Ze aa (by assumption),Ze aa (by assumption),Ze aa (by assumption),Ze aa (by assumption),Ze aa (by assumption),Ze aa (by assumption)⟩))
      (first|(go_at_call 103;refine (CC _).mono ?_;rintro e w' ⟨rfl,aa⟩))
     rename_i hq;have ll:=aD ay hq.1.size;have lh:=aD ax hq.1.size;obtain⟨bq,ad,ah,ae,aj,af,ak,ag,am⟩:=hq;go_wp2;rw[bK];go_wp2;go_ret;exact⟨rfl,Zf au bq⟩
theorem Zz{w:World}{base:Nat}{e:cF}{size:Nat}{v}{n:Nat}{xs}(h:w.ownsRow base e size v n xs):∃ a c,v = F a n c:=by
 rcases h.2 with ⟨rfl,rfl⟩|⟨g,cap,aa,rfl,_⟩
 ·exact⟨none,0,rfl⟩
 ·exact⟨_,_,rfl⟩
def Ba(y:CV):List Value:=[E J y.1.1,E J y.1.2.1,E J (cv y.1),.slice y.2.1 y.2.2.1 y.2.2.2,E J (ch y.1),dI (cr y.1)]
theorem Zkv(y:CV):Zn [y]=Ba y:=rfl
set_option maxRecDepth 10000 in
theorem Zng(w0 w:World)(p:Nat)(v)(K:List CV)(y:CV)(h:Pu w0 w p v K)(hs:Srt (K.map (·.1)))(hn:K.length<=4096)(hf:Wx (pt y.1) (K.map (·.1))=true) :
  ZH 207 #[dH (some ⟨p,0,none⟩),cnV y.1 y.2.1 y.2.2.1 y.2.2.2] w (dI false):=by
 obtain⟨a,c,rfl,hC,hS⟩:=h.coins;obtain⟨n,ak⟩:=ZF (K.length);obtain⟨k,hk⟩:=ZF (pos (pt y.1) (K.map (·.1)));have ae:=h.box;rw[ak] at hC ae hn;unfold cnV;obtain⟨X,hX⟩:=ZG (w.alloc (dE #[E J y.1.1,E J y.1.2.1,E J (cv y.1),.slice y.2.1 y.2.2.1 y.2.2.2,E J (ch y.1),dI (cr y.1)] 124));have ab:ZD w X:=by rw[hX];exact Zh _ _
 have ag:X.heap[w.heap.size]? = some (dE (Ba y).toArray 124 (0,0)):=by rw[hX];exact Uf _ _ _ _ _ _ _ _
 obtain⟨x0,x1,-⟩:=kc2 ag;have xp:X.cell? ⟨p,0,none⟩=some (F a n c):=Ze ab (Zb (X:=[F a n c]) ae 0 _ rfl);have PL:=Zd (λw' (hb:ZD X w')=>Ra a n c (K.map (·.1)) (pt y.1) k true w' hs (by omega) ((hC.later ab).later hb) hk hf);unfold pt at PL;have ap:=Zd ab;clear hk hf hC hS hs ae ab ag h ak;go_enter func207,ntmps207;go_wp2_with fail;rw[<-hX];clear hX
 go_region_held3 (λw'=>ZD X w'/\w'.cell? ⟨w.heap.size,0,none⟩=some (E J y.1.1)/\w'.cell? ⟨w.heap.size,1,none⟩=some (E J y.1.2.1)/\w'.cell? ⟨p,0,none⟩=some (F a n c))
  (first
  | exact⟨Zi _,x0,x1,xp⟩
  | (go_split_ands;refine⟨Zf (by assumption) ac,Ze ac (by assumption),Ze ac (by assumption),Ze ac (by assumption)⟩))
  (first|(go_at_call 250;go_split_ands;refine (PL _ (by assumption)).mono ?_;rintro e w' ⟨rfl,ac⟩))
 rename_i hH;have HB:=Zd (Zf ap hH.1);clear hH;go_wp2;go_ret;exact⟨rfl,Za HB⟩
set_option maxRecDepth 10000 in
theorem Zjh(w0 w:World)(p:Nat)(v:Value)(K:List CV)(y:CV)(h:Pu w0 w p v K)(hs:Srt (K.map (·.1)))(hn:K.length<=4096)(hf:Wx (pt y.1) (K.map (·.1))=false)(hy:LkAt w0 y) :
  Calls aB 207 #[dH (some ⟨p,0,none⟩),cnV y.1 y.2.1 y.2.2.1 y.2.2.2] w λe w'=>∃ (v':Value) (K':List CV),e = dF (dI true)/\K'.map (·.1)=Pb y.1 (K.map (·.1))/\(∀ z∈K',z=y\/z∈K)/\K'.length=K.length+1 /\
   Pu w0 w' p v' K'/\Gr w w' (PuS p v)/\(v'.ownBlock=v.ownBlock\/∀ k,v'.ownBlock=some k->w.heap.size<=k):=by
 obtain⟨a,c,rfl,hC,hS⟩:=h.coins;obtain⟨n,ap⟩:=ZF (K.length);obtain⟨k,hk⟩:=ZF (pos (pt y.1) (K.map (·.1)));have am:=h.box;have hO:=h.own;have bf:=h.ne;have cx:k<=n:=by rw[<-hk,<-ap];have:=Zji (pt y.1) (K.map (·.1));simpa using this
 have ax:=Zdr hs hf;rw[hk,<-List.map_take,<-List.map_drop,show y.1 :: (K.drop k).map (·.1)=(y :: K.drop k).map (·.1) from rfl,<-List.map_append] at ax;rw[ap] at hC am hn hO bf;unfold cnV;obtain⟨X,hX⟩:=ZG (w.alloc (dE #[E J y.1.1,E J y.1.2.1,E J (cv y.1),.slice y.2.1 y.2.2.1 y.2.2.2,E J (ch y.1),dI (cr y.1)] 124));have ak:ZD w X:=by rw[hX];exact Zh _ _
 have az:X.heap[w.heap.size]? = some (dE (Ba y).toArray 124 (0,0)):=by rw[hX];exact Uf _ _ _ _ _ _ _ _
 obtain⟨x0,x1,-⟩:=kc2 az;have xp:X.cell? ⟨p,0,none⟩=some (F a n c):=Ze ak (Zb (X:=[F a n c]) am 0 _ rfl);have PL:=Zd (λw' (hb:ZD X w')=>Ra a n c (K.map (·.1)) (pt y.1) k false w' hs (by omega) ((hC.later ak).later hb) hk hf);unfold pt at PL;obtain⟨cf,br,HO,bo,cg,HP,HY,bk⟩:=kh8 ak az hO bf ax h hy am;have ae:=Zd ap;have bg:p<w.heap.size:=h.lt;clear hk hf hC hS hs am ak az h ap hO bf ax hy;go_enter func207,ntmps207;go_wp2_with fail;rw[<-hX];clear hX
 go_region_held3 (λw'=>ZD X w'/\w'.cell? ⟨w.heap.size,0,none⟩=some (E J y.1.1)/\w'.cell? ⟨w.heap.size,1,none⟩=some (E J y.1.2.1)/\w'.cell? ⟨p,0,none⟩=some (F a n c))
  (first
  | exact⟨Zi _,x0,x1,xp⟩
  | (go_split_ands;refine⟨Zf (by assumption) ag,Ze ag (by assumption),Ze ag (by assumption),Ze ag (by assumption)⟩))
  (first|(go_at_call 250;go_split_ands;refine (PL _ (by assumption)).mono ?_;rintro e w' ⟨rfl,ag⟩))
 rename_i hH;have af:=Zf cf hH.1;have be:=(hH.1.block _ (aA br)).trans br;obtain⟨c0,c1,c2,c3,c4,c5,-⟩:=kc6 be;have cz:=hH.2.2.2;have df:=World.block_lt_of_cell? _ _ cz;have cw:=(af.block p bg).trans bk;have da:=Zd af
 have cl:Hid (∀ W,W.heap=(w'.alloc (dE #[E J y.1.1,E J y.1.2.1,E J (cv y.1),.slice y.2.1 y.2.2.1 y.2.2.2,E J (ch y.1),dI (cr y.1)] 124)).heap->W.os=w'.os->W.tape=w'.tape->W.output=w'.output ->
   Calls aB 254 #[F a n c,E J k,F (some ⟨w'.heap.size,0,none⟩) 1 1] W λe w4=>∃ a' c',e = dF (F a' (n+1) c')/\w4.cell? ⟨p,0,none⟩=some (F a n c)/\w4.frozen? ⟨p,0,none⟩=false/\p<w4.heap.size/\Hid (w4.ownsRow w0.heap.size 124 6 (F a' (n+1) c') (n+1) (Zn (K.take k++y :: K.drop k))/\Gr w w4 (PuS p (F a n c))/\((bO a' (n+1) c').ownBlock=(bO a n c).ownBlock\/∀ k,(bO a' (n+1) c').ownBlock=some k->w.heap.size<=k)/\w4.heap[p]? = some (dE #[F a n c] 235 (0,0)))):=by
  intro W ay cp cq ct;have bs:ZD w' W:=⟨cp,cq,ct,by rw[ay];simp,λi hi=>by rw[ay];exact bX w' _ i hi⟩;have bb:=Zf af bs;have cm:W.ownsRow w0.heap.size 124 6 (F a n c) n (Zn K):=(Gr.of (S:=λ_=>False) bb).own HO (λ_ _ q=>q);have cy:W.heap[w'.heap.size]? = some (dE (Zn [y]).toArray 124 (0,0)):=by rw[ay];exact Uf _ _ _ _ _ _ _ _
  have bi:w.heap.size<W.heap.size:=aD (aA be) bs.size;refine (Le w0.heap.size a n c k w'.heap.size K y W cx hn ae (aN HP.bel.size (Nat.le_of_lt bi)) cm cy ?_).mono ?_
  ·intro e;have:=HO.lt _ e;have h3:=af.size;omega
  ·rintro e w4 ⟨v',rfl,ar,an,aq⟩;obtain⟨a',c',rfl⟩:=Zz ar
   have ad:w4.heap[p]? = some (dE #[F a n c] 235 (0,0)):=by
    rw[an.block p (Nat.lt_trans bg bi) (λe=>bo e.symm),bb.block p bg];exact Za bk
   refine⟨a',c',rfl,Zb (X:=[F a n c]) ad 0 _ rfl,Zg ad 0,aA ad,ar,(Gr.of bb).grown an (λk hk=>.inl (.inr hk)),?_,ad⟩
   ·rcases aq with q|q
    ·exact .inl q
    ·exact .inr λk hk=>aN (Nat.le_of_lt bi) (q k hk)
 clear hH ag af be xp x0 x1 cw;go_wp2_with fail
 go_region_with (go_at_call 254;refine (cl _ ?_ ?_ ?_ ?_).mono ?_;rfl;rfl;rfl;rfl;rintro e w4 ⟨a',c',rfl,p4,dh,di,H4⟩)
 all_goals
  go_wp2;go_ret;obtain⟨ar,an,aq,ad⟩:=Za H4;have hp:=Za HP
  have hl:(K.take k++y :: K.drop k).length=n+1:=by
   have:=Za ae;simp only[List.length_append,List.length_take,List.length_cons,List.length_drop];omega
  have bx:(bO a' (n+1) c').ownBlock≠some p:=λe=>by
   rcases aq with q|q
   ·rw[q] at e;exact bo e
   ·have:=q p e;omega
  have bz:∀ z∈K.take k++y :: K.drop k,z=y\/z∈K:=λz hz=>by
   rcases List.mem_append.1 hz with q|q
   ·exact .inr (List.mem_of_mem_take q)
   ·rcases List.mem_cons.1 q with q|q
    ·exact .inl q
    ·exact .inr (List.mem_of_mem_drop q)
  have bt:=an.one p 0 (.inl (.inl rfl)) (F a' (n+1) c');refine⟨F a' (n+1) c',K.take k++y :: K.drop k,rfl,cg.symm,bz,by rw[hl,Za ae],⟨?_,hp.ge,Vk ad,?_,bx,?_⟩,?_,?_⟩
  ·refine bt.below hp.bel hp.bel.size (λk hk=>?_)
   rcases hk with rfl|hk
   ·exact hp.ge
   ·exact Xn HO k hk
  ·rw[hl];exact ((Gr.refl w4 (λk=>k=p)).one p 0 (.inl rfl) _).own ar (λk hk e=>bx (by rw[hk,e]))
  ·intro z hz
   rcases bz z hz with rfl|q
   ·exact Za HY
   ·exact hp.lk z q
  ·rw[Za ae];exact bt
  ·rw[Za ae];exact aq
def Zr(h:Int):List InD->List Zj->List Zj->Int×List Zj×List Zj
 | [],S,L=>(0,S,L)
 | x :: r,S,L=>match Uc (x.1,x.2.1) L with
  | none=>(7,[],[])
  | some (c,M)=>if cr c=true/\h<ch c+2 then (10,[],[]) else if Y5 (ck c) x.2.2 h=false then (8,[],[]) else Zr h r (S++[c]) M
def Pe(name:Int)(i:Nat)(o:Z3)(h:Int)(r:Bool):Zj:=(name,(i:Int),o.1,o.2,h,r)
def Yc(name h:Int)(r:Bool):Nat->List Z3->List Zj->Int×List Zj
 | _,[],L=>(0,L)
 | i,o :: q,L=>if Wx (name,(i:Int)) L=true then (6,[]) else Yc name h r (i+1) q (Pb (Pe name i o h r) L)
def Vh(name:Int):Nat->List Z3->List Zj->Int×List Zj
 | _,[],L=>(0,L)
 | i,o :: q,L=>match Uc (name,(i:Int)) L with
  | none=>(7,[])
  | some (c,M)=>if (cv c,ck c)=o then Vh name (i+1) q M else (7,[])
def Uh:List InD->List Zj->List Zj->Int×List Zj
 | x :: r,c :: q,L=>if pt c≠(x.1,x.2.1)\/Wx (pt c) L=true then (6,[]) else Uh r q (Pb c L)
 | _,_,L=>(0,L)
def okN(n:Int):Bool:=decide (1<=n) && decide (n<=120)
def isR(t:TxD):Bool:=decide (t.2.1.length=0)
def Vx(L:List Zj)(t:TxD):Int:=if Z8 L≠0 then Z8 L else Zq t
def Vj(L:List Zj)(t:TxD)(name h:Int):Int:=
 if Vx L t≠0 then Vx L t else if (okN name && okH h)=false then 3 else if isR t=true/\t.1≠h then 4 else 0
def Eh(S:List Zj)(t:TxD):Int:=if Zp S - Yz t.2.2<0/\isR t=false then 9 else 0
def apD(L:List Zj)(t:TxD)(name h:Int):Int×List Zj×List Zj:=
 if Vj L t name h≠0 then (Vj L t name h,[],[])
 else
  if (Zr h t.2.1 [] L).1≠0 then ((Zr h t.2.1 [] L).1,[],[])
  else if Eh (Zr h t.2.1 [] L).2.1 t≠0 then (Eh (Zr h t.2.1 [] L).2.1 t,[],[])
  else if (Yc name h (isR t) 0 t.2.2 (Zr h t.2.1 [] L).2.2).1≠0 then ((Yc name h (isR t) 0 t.2.2 (Zr h t.2.1 [] L).2.2).1,[],[])
  else if Z8 (Yc name h (isR t) 0 t.2.2 (Zr h t.2.1 [] L).2.2).2≠0 then (Z8 (Yc name h (isR t) 0 t.2.2 (Zr h t.2.1 [] L).2.2).2,[],[])
  else (0,(Yc name h (isR t) 0 t.2.2 (Zr h t.2.1 [] L).2.2).2,(Zr h t.2.1 [] L).2.1)
def rvD(L:List Zj)(t:TxD)(name:Int)(S:List Zj):Int×List Zj:=
 if Vx L t≠0 then (Vx L t,[])
 else if S.length≠t.2.1.length then (4,[])
 else if (Vh name 0 t.2.2 L).1≠0 then ((Vh name 0 t.2.2 L).1,[])
 else if (Uh t.2.1 S (Vh name 0 t.2.2 L).2).1≠0 then ((Uh t.2.1 S (Vh name 0 t.2.2 L).2).1,[])
 else if Z8 (Uh t.2.1 S (Vh name 0 t.2.2 L).2).2≠0 then (Z8 (Uh t.2.1 S (Vh name 0 t.2.2 L).2).2,[])
 else (0,(Uh t.2.1 S (Vh name 0 t.2.2 L).2).2)
def MS.cells(s:MS):Array Value:=(s.cs.map (bM .i64)++([bM .i64 s.n,bM .i64 s.h,Value.bool s.f]:List Value)).toArray
theorem MS.cells_stack{s:MS}(hs:s.ok)(i:Nat)(hi:i<16):s.cells[i]? = some (E J (s.cs.getD i 0)):=by
 have hl:i<s.cs.length:=by rw[hs.1];exact hi
 simp[MS.cells,List.getElem?_append_left,hl]
theorem MS.cells_n{s:MS}(hs:s.ok):s.cells[16]? = some (E J s.n):=by
 have hl:=hs.1;simp[MS.cells,hl]
theorem MS.cells_h{s:MS}(hs:s.ok):s.cells[17]? = some (E J s.h):=by
 have hl:=hs.1;simp[MS.cells,hl]
theorem MS.cells_f{s:MS}(hs:s.ok):s.cells[18]? = some (dI s.f):=by
 have hl:=hs.1;simp[MS.cells,hl]
theorem MS.set_stack{s:MS}(hs:s.ok)(i:Nat)(hi:i<16)(x:Int):s.cells.setIfInBounds i (E J x)=MS.cells { s with cs:=s.cs.set i x }:=by
 have hl:i<(s.cs.map (bM .i64)).length:=by rw[List.length_map,hs.1];exact hi
 simp only[MS.cells,List.setIfInBounds_toArray,List.set_append_left _ _ hl,List.map_set]
theorem MS.set_n{s:MS}(hs:s.ok)(n:Nat):s.cells.setIfInBounds 16 (E J n)=MS.cells { s with n:=n }:=by
 have hl:(s.cs.map (bM .i64)).length=16:=by rw[List.length_map,hs.1]
 simp only[MS.cells,List.setIfInBounds_toArray];rw[List.set_append_right _ _ (by omega),hl];rfl
theorem MS.set_f{s:MS}(hs:s.ok)(b:Bool):s.cells.setIfInBounds 18 (dI b)=MS.cells { s with f:=b }:=by
 have hl:(s.cs.map (bM .i64)).length=16:=by rw[List.length_map,hs.1]
 simp only[MS.cells,List.setIfInBounds_toArray];rw[List.set_append_right _ _ (by omega),hl];rfl
structure Mach(p:Nat)(s:MS)(W w:World):Prop where
 good:s.ok
 block:w.heap[p]? = some (dE s.cells 360 (0,0))
 old:∀ k,k≠p->k<W.heap.size->w.heap[k]? = W.heap[k]?
 size:W.heap.size<=w.heap.size
 os:w.os=W.os
 tape:w.tape=W.tape
 output:w.output=W.output
theorem Mach.lt{p:Nat}{s:MS}{W w:World}(h:Mach p s W w):p<w.heap.size:=aA h.block
theorem Mach.cell{p:Nat}{s:MS}{W w:World}(h:Mach p s W w)(i:Nat):w.cell? ⟨p,i,none⟩=s.cells[i]?:=by simp[World.cell?,h.block]
theorem Mach.cell_n{p:Nat}{s:MS}{W w:World}(h:Mach p s W w):w.cell? ⟨p,16,none⟩=some (E J s.n):=by rw[h.cell,MS.cells_n h.good]
theorem Mach.cell_h{p:Nat}{s:MS}{W w:World}(h:Mach p s W w):w.cell? ⟨p,17,none⟩=some (E J s.h):=by rw[h.cell,MS.cells_h h.good]
theorem Mach.cell_f{p:Nat}{s:MS}{W w:World}(h:Mach p s W w):w.cell? ⟨p,18,none⟩=some (dI s.f):=by rw[h.cell,MS.cells_f h.good]
theorem Mach.cell_s{p:Nat}{s:MS}{W w:World}(h:Mach p s W w)(i:Nat)(hi:i<16):w.cell? ⟨p,i,none⟩=some (E J (s.cs.getD i 0)):=by rw[h.cell,MS.cells_stack h.good i hi]
theorem Mach.free{p:Nat}{s:MS}{W w:World}(h:Mach p s W w)(i:Nat):w.frozen? ⟨p,i,none⟩=false:=by simp[World.frozen?,h.block]
theorem Mach.store{p:Nat}{s s':MS}{W w:World}(h:Mach p s W w)(i:Nat)(v)(e:s.cells.setIfInBounds i v=s'.cells)(g:s'.ok):Mach p s' W (w.setCell ⟨p,i,none⟩ v) where
 good:=g
 block:=by
  rw[heap_setCell_same w p i s.cells 360 v h.block,e]
 old:=λk hk hl=>by rw[heap_setCell_other w ⟨p,i,none⟩ k v hk];exact h.old k hk hl
 size:=by rw[World.size_setCell];exact h.size
 os:=h.os
 tape:=h.tape
 output:=h.output
theorem Mach.drew{p:Nat}{s:MS}{W w:World}(h:Mach p s W w):Mach p s W w.drew:=⟨h.good,h.block,h.old,h.size,h.os,h.tape,h.output⟩
theorem Mach.drewN{p:Nat}{s:MS}{W w:World}(h:Mach p s W w)(n:Nat):Mach p s W (w.drewN n):=⟨h.good,h.block,h.old,h.size,h.os,h.tape,h.output⟩
theorem Mach.alloc{p:Nat}{s:MS}{W w:World}(h:Mach p s W w)(o:Obj):Mach p s W (w.alloc o) where
 good:=h.good
 block:=by rw[bX w o p h.lt];exact h.block
 old:=λk hk hl=>by rw[bX w o k (aD hl h.size)];exact h.old k hk hl
 size:=by have:=h.size;simp;omega
 os:=h.os
 tape:=h.tape
 output:=h.output
theorem Mach.past{p:Nat}{s:MS}{W w:World}(h:Mach p s W w)(q:Addr)(hq:q.block≠p)(hl:q.block<W.heap.size):w.cell? q=W.cell? q:=World.cell?_of_block (w:=W) (h.old q.block hq hl)
theorem Mach.below{p:Nat}{s:MS}{W w:World}(h:Mach p s W w)(hp:W.heap.size<=p):ZD W w:=
 ⟨h.os,h.tape,h.output,h.size,λk hk=>h.old k (by omega) hk⟩
theorem Mach.trans{p:Nat}{s s':MS}{W V w}(h:Mach p s W V)(k:Mach p s' V w):Mach p s' W w where
 good:=k.good
 block:=k.block
 old:=λj hj hl=>by rw[k.old j hj (aD hl h.size)];exact h.old j hj hl
 size:=aN h.size k.size
 os:=k.os.trans h.os
 tape:=k.tape.trans h.tape
 output:=k.output.trans h.output
theorem Mach.self{p:Nat}{s:MS}{W w}(h:Mach p s W w):Mach p s w w:=⟨h.good,h.block,λ_ _ _=>rfl,Nat.le_refl _,rfl,rfl,rfl⟩
theorem Wu(n:Int)(b:Bool)(w)(hb:b=hOk n) :
  Calls aB 252 #[E J n] w λe w'=>e = dF (dI b)/\w=w':=by
 have HB:=Zd hb;clear hb;go_enter func252,ntmps252
 go_wp2_with (go_at_call 103;refine (Yr _ _ _ b _ HB).mono ?_;rintro e w' ⟨rfl,rfl⟩)
 go_ret;exact⟨rfl,rfl⟩
theorem Sl(p:Nat)(s:MS)(W w)(hm:Mach p s W w) :
  Calls aB 313 #[dH (some ⟨p,0,none⟩)] w λe w'=>e = dF (dG #[])/\Mach p s.fail W w':=by
 have c1:=hm.cell_f;have c2:=hm.free 18;have HM:=Zd hm;clear hm;go_enter func313,ntmps313;go_wp2;go_end0;exact⟨rfl,HM.store 18 _ (MS.set_f HM.good true) HM.good.fail_ok⟩
theorem Bn{s:MS}{x:Int}(h:s.n=16\/fit x=false):s.put x=s.fail:=by unfold MS.put;rw[if_pos h];rfl
theorem Bm{s:MS}{x:Int}(h1:s.n≠16)(h2:fit x=true):s.put x={ s with cs:=s.cs.set s.n x,n:=s.n+1 }:=by unfold MS.put;rw[if_neg (by simp[h1,h2])]
theorem Xk(p:Nat)(s:MS)(x:Int)(W w)(hm:Mach p s W w) :
  Calls aB 303 #[dH (some ⟨p,0,none⟩),E J x] w λe w'=>e = dF (dG #[])/\Mach p (s.put x) W w':=by
 have hn:=hm.good.2.1;have c1:=hm.cell_n;have HM:=Zd hm;by_cases h1:s.n=16
 ·rw[Bn (Or.inl h1)];rw[h1] at c1;clear hm hn;go_enter func303,ntmps303
  go_wp2_with (go_at_call 313;refine (Sl p s W _ HM).mono ?_;rintro e w' ⟨rfl,ag⟩)
  first|go_end0|(simp only[Exit.inBlock,Exit.then];refine bB (results_none rfl _ _ _) rfl ?_)|refine bB (results_none rfl _ _ _) rfl ?_
  exact⟨rfl,by assumption⟩
 ·have g1:((s.n:Int) == 16)=false:=by simp;omega
  by_cases h2:fit x=true
  ·rw[Bm h1 h2];have c2:=hm.cell_s s.n (by omega);have c3:=hm.free s.n;have c4:=hm.free 16
   have c5:((w.setCell ⟨p,s.n,none⟩ (E J x))).cell? ⟨p,16,none⟩=some (E J s.n):=by
    rw[World.cell?_setCell_other]
    ·exact c1
    ·exact λe=>h1 (congrArg Addr.off e)
   have g2:(s.n:Int)<16:=(by omega);obtain⟨H1,H2⟩:=kh2 h1 h2;clear hm h1 h2;go_enter func303,ntmps303
   go_wp2_with (go_at_call 302;refine (Sk _ true _ H2.symm).mono ?_;rintro e w' ⟨rfl,rfl⟩)
   go_region
   all_goals go_wp2
   all_goals go_end0
   all_goals
    refine⟨rfl,Mach.drew ?_⟩;have hm:=Za HM;have g:=hm.good.put_ok x;rw[Bm H1 H2] at g;have ad:MS.ok { s with cs:=s.cs.set s.n x }:=⟨g.1,hm.good.2.1,g.2.2⟩;exact (hm.store s.n _ (MS.set_stack hm.good s.n (by omega) x) ad).store 16 _ (MS.set_n ad (s.n+1)) g
  ·have h3:fit x=false:=(by simpa using h2);rw[Bn (Or.inr h3)];have H3:=Zd h3;clear hm h2 h3 h1;go_enter func303,ntmps303
   go_wp2_with (first|(go_at_call 302;refine (Sk _ false _ H3.symm).mono ?_;rintro e w' ⟨rfl,rfl⟩)|(go_at_call 313;refine (Sl p s W _ HM).mono ?_;rintro e w' ⟨rfl,ag⟩))
   first|go_end0|(simp only[Exit.inBlock,Exit.then];refine bB (results_none rfl _ _ _) rfl ?_)|refine bB (results_none rfl _ _ _) rfl ?_
   exact⟨rfl,by assumption⟩
theorem Zeu{s:MS}(h:s.n=0):s.take=s.fail:=by unfold MS.take;rw[if_pos h];rfl
theorem Zet{s:MS}(h:s.n≠0):s.take={ s with n:=s.n - 1 }:=by unfold MS.take;rw[if_neg h]
theorem Zig{s:MS}(h:s.n=0):s.top=0:=by unfold MS.top;rw[if_pos h]
theorem Zif{s:MS}(h:s.n≠0):s.top=s.cs.getD (s.n - 1) 0:=by unfold MS.top;rw[if_neg h]
theorem Yl(p:Nat)(s:MS)(W w)(hm:Mach p s W w) :
  Calls aB 333 #[dH (some ⟨p,0,none⟩)] w λe w'=>e = dF (E J s.top)/\Mach p s.take W w':=by
 have hn:=hm.good.2.1;have c1:=hm.cell_n;have HM:=Zd hm;by_cases h1:s.n=0
 ·rw[Zeu h1,Zig h1];rw[h1] at c1;clear hm hn;go_enter func333,ntmps333
  go_wp2_with (go_at_call 313;refine (Sl p s W _ HM).mono ?_;rintro e w' ⟨rfl,an⟩)
  go_ret;exact⟨rfl,by assumption⟩
 ·obtain⟨m,ab⟩:∃ m,s.n=m+1:=⟨s.n - 1,by omega⟩;have e1:s.take={ s with n:=m }:=by rw[Zet h1,ab];rfl
  have e2:s.top=s.cs.getD m 0:=by rw[Zif h1,ab];rfl
  rw[e1,e2];have g1:(((m:Int)+1) == 0)=false:=by simp;omega
  rw[ab] at c1
  have c2:(w.setCell ⟨p,16,none⟩ (E J m)).cell? ⟨p,m,none⟩=some (E J (s.cs.getD m 0)):=by
   rw[World.cell?_setCell_other]
   ·exact hm.cell_s m (by omega)
   ·exact λe=>absurd (congrArg Addr.off e) (by show ¬(16=m);omega)
  have c3:(w.setCell ⟨p,16,none⟩ (E J m)).cell? ⟨p,16,none⟩=some (E J m):=World.cell?_setCell_same _ _ _ hm.cell_n;have c4:=hm.free 16;have g2:(m:Int)<16:=by omega
  have H1:=Zd ab;obtain⟨t,ht⟩:=ZG (s.cs.getD m 0);rw[<-ht] at c2 ⊢;clear hm h1 ab hn e1 e2 ht;go_enter func333,ntmps333;go_wp2
  go_quiet (fail)
  go_wp2;go_ret;refine⟨rfl,Mach.drewN ?_ _⟩;have hm:=Za HM;have h1:=Za H1;exact hm.store 16 _ (MS.set_n hm.good m) ⟨hm.good.1,by show m<=16;omega,hm.good.2.2⟩
theorem Bp(p:Nat)(s:MS)(a cap W w)(hm:Mach p s W w) :
  Calls aB 280 #[dH (some ⟨p,0,none⟩),F a 0 cap] w λe w'=>e = dF (dG #[])/\Mach p s W w':=by
 have HM:=Zd hm;clear hm;go_enter func280,ntmps280;go_wp2;refine wp_loop_rounds 1 ?_;rw[bK];go_wp2;go_end0;exact⟨rfl,Za HM⟩
theorem Bo(p:Nat)(s:MS)(b off len cap:Nat)(Z:List Int)(W w:World)(hm:Mach p s W w)(hp:W.heap.size<=p)(hz:Z.length=len)(hl:len<=maxLen)
  (hb:b<W.heap.size) (hc:∀ i,i<len->W.cell? ⟨b,off+i,none⟩=some (E J (Z.getD i 0))) :
  Calls aB 280 #[dH (some ⟨p,0,none⟩),F (some ⟨b,off,none⟩) len cap] w λe w'=>e = dF (dG #[])/\∃ s',Mach p s' W w'/\s'.h=s.h/\s'.rep=s.rep.bind (λL=>Qe L Z):=by
 obtain⟨HM,HC,HZ⟩:=kh3 hm hc hz;unfold maxLen at hl;clear hm hc hz;go_enter func280,ntmps280;go_wp2
 go_loopw [8] (λi wr=>∃ (k:Nat) (s':MS),k<=len/\i = E J k/\Mach p s' W wr/\s'.h=s.h/\s'.rep=s.rep.bind (λL=>Qe L (Z.take k))) (λi _=>len - (intOf i).toNat)
 case atStart=>exact⟨0,s,aI _,rfl,Za HM,rfl,by cases s.rep <;> rfl⟩
 case round=>
  obtain⟨k,s',hk,rfl,hm,hh,hr⟩:=hrel;have ac:=Zd hm;obtain⟨HH,HR⟩:=kh2 hh hr;clear hh hr;by_cases ak:k<len
  ·have c1:wr.cell? ⟨b,off+k,none⟩=some (E J (Z.getD k 0)):=(hm.past ⟨b,off+k,none⟩ (by show b≠p;omega) hb).trans (HC k ak);obtain⟨x,hx⟩:=ZG (Z.getD k 0);rw[<-hx] at c1;have HX:=Zd hx;clear hm hx;go_wp2_with fail;refine (Xk p s' x W _ ac).mono ?_;rintro e w1 ⟨rfl,am⟩;have au:=Zd am;clear am;go_wp2;go_roundw
   case rel=>
    refine⟨k+1,s'.put x,by omega,by go_num,Za au,(MS.put_h _ _).trans HH,?_⟩;have aj:k<Z.length:=(by rw[Za HZ];exact ak);have ex:x=Z[k]:=(by rw[Za HX];simp[aj]);rw[MS.rep_put ac.good,Za HR,List.take_succ_eq_append_getElem aj,ex];cases s.rep with
    | none=>rfl
    | some L=>exact (Kd _ _ _).symm
   case measure=>simp[intOf];omega
  ·clear hm;go_wp2;go_end0;have e:k=len:=(by omega);subst e;refine⟨rfl,s',Za ac,Za HH,?_⟩;rw[Za HR,<-Za HZ,List.take_length]
theorem Zau(p:Nat)(s:MS)(a len cap Z)(W w:World)(hm:Mach p s W w)(hp:W.heap.size<=p)(hR:RowAt W a len Z) :
  Calls aB 280 #[dH (some ⟨p,0,none⟩),F a len cap] w λe w'=>e = dF (dG #[])/\∃ s',Mach p s' W w'/\s'.h=s.h/\s'.rep=s.rep.bind (λL=>Qe L Z):=by
 obtain⟨hz,hl,hc⟩:=hR;by_cases h:len=0
 ·subst h;have e:Z=[]:=List.length_eq_zero_iff.1 hz;subst e;exact (Bp p s a cap W w hm).mono λe w' ⟨x,y⟩=>⟨x,s,y,rfl,by cases s.rep <;> rfl⟩
 ·obtain⟨b,off,rfl,ab⟩:=hc (by omega);exact Bo p s b off len cap Z W w hm hp hz hl (World.block_lt_of_cell? _ _ (ab 0 (by omega))) ab
theorem U9(b:Bool)(w) :
  Calls aB 321 #[dI b] w λe w'=>e = dF (E J (b01 b))/\w=w':=by
 cases b
 all_goals
  go_enter func321,ntmps321;go_wp2;go_ret;exact⟨rfl,rfl⟩
theorem Zqt(a b:Int)(w)(ha:fit a=true)(hb:fit b=true) :
  Calls aB 318 #[E J a,E J b] w λe w'=>e = dF (E J (g2 5 a b))/\w=w':=by
 have h1:=(V7 a).1 ha;have h2:=(V7 b).1 hb;clear ha hb;go_enter func318,ntmps318;go_wp2;go_ret;exact⟨rfl,rfl⟩
theorem Zqs(a b:Int)(w)(ha:fit a=true)(hb:fit b=true) :
  Calls aB 319 #[E J a,E J b] w λe w'=>e = dF (E J (g2 6 a b))/\w=w':=by
 have h1:=(V7 a).1 ha;have h2:=(V7 b).1 hb;clear ha hb;go_enter func319,ntmps319;go_wp2;go_ret;exact⟨rfl,rfl⟩
theorem Zqr(a b:Int)(w) :
  Calls aB 320 #[E J a,E J b] w λe w'=>e = dF (E J (g2 7 a b))/\w=w':=by
 go_enter func320,ntmps320
 go_wp2_with (go_at_call 321;refine (U9 _ _).mono ?_;rintro e w' ⟨rfl,rfl⟩)
 go_ret;exact⟨rfl,rfl⟩
theorem Zqq(a b:Int)(w) :
  Calls aB 322 #[E J a,E J b] w λe w'=>e = dF (E J (g2 8 a b))/\w=w':=by
 go_enter func322,ntmps322
 go_wp2_with (go_at_call 321;refine (U9 _ _).mono ?_;rintro e w' ⟨rfl,rfl⟩)
 go_ret;exact⟨rfl,rfl⟩
theorem Zqo(a b:Int)(w) :
  Calls aB 325 #[E J a,E J b] w λe w'=>e = dF (E J (g2 10 a b))/\w=w':=by
 by_cases h:a=0
 ·have h1:(a != 0)=false:=by simp[h]
  have e:g2 10 a b=b01 false:=by simp[g2,h]
  rw[e];clear h e;go_enter func325,ntmps325
  go_wp2_with (go_at_call 321;refine (U9 _ _).mono ?_;rintro e w' ⟨rfl,rfl⟩)
  go_ret;exact⟨rfl,rfl⟩
 ·have h1:(a != 0)=true:=by simp[h]
  have e:g2 10 a b=b01 (b != 0):=by simp[g2,h1]
  rw[e];clear h e;go_enter func325,ntmps325
  go_wp2_with (go_at_call 321;refine (U9 _ _).mono ?_;rintro e w' ⟨rfl,rfl⟩)
  go_ret;exact⟨rfl,rfl⟩
theorem Zqp(a:Int)(w) :
  Calls aB 324 #[E J a] w λe w'=>e = dF (E J (g1 9 a))/\w=w':=by
 go_enter func324,ntmps324
 go_wp2_with (go_at_call 321;refine (U9 _ _).mono ?_;rintro e w' ⟨rfl,rfl⟩)
 go_ret;exact⟨rfl,rfl⟩
theorem Znf{k:IntKind}{a b:Int}(h:a=b):Ending.returned (.int k a) = dF (.int k b):=by rw[h]
theorem Zns(a:Int)(w)(ha:fit a=true) :
  Calls aB 328 #[E J a] w λe w'=>e = dF (E J (g1 13 a))/\w=w':=by
 have ad:=Zd (Znt a ha);have h1:=(V7 a).1 ha;clear ha;go_enter func328,ntmps328;go_wp2
 go_loop [3,6] (λr i=>∃ k:Nat,k<=3/\i = E J k/\r = E J (Ff a k)) (λ_ i=>3 - (intOf i).toNat)
 case atStart=>exact⟨0,aI _,rfl,rfl⟩
 case round=>
  obtain⟨k,hk,rfl,rfl⟩:=hrel;obtain⟨b1,b2⟩:=ad k;obtain⟨m,hm⟩:=ZG (Ff a k);rw[<-hm] at b1 b2 ⊢;have HM:=Zd hm;clear hm;by_cases af:k<3
  ·go_wp2
   go_round
   case rel=>
    refine⟨k+1,by omega,by go_num,?_⟩;have:=Za HM;simp only[Ff,<-this]
   case measure=>simp[intOf];omega
  ·go_wp2;go_ret;have e:k=3:=(by omega);subst e;refine⟨Znf ?_,rfl⟩;have:=Za HM;simp only[g1,Zpm,<-this];simp
theorem Zlb(p:Nat)(s:MS)(n:Int)(W w)(hm:Mach p s W w) :
  Calls aB 316 #[dH (some ⟨p,0,none⟩),E J n] w λe w'=>e = dF (dG #[])/\Mach p (s.step 4 n) W w':=by
 have HM:=Zd hm;clear hm;go_enter func316,ntmps316
 go_wp2_with (go_at_call 333;refine (Yl p s W _ HM).mono ?_;rintro e w' ⟨rfl,ac⟩)
 go_end0;exact⟨rfl,by assumption⟩
theorem Mj(p:Nat)(s:MS)(n:Int)(W w)(hm:Mach p s W w) :
  Calls aB 327 #[dH (some ⟨p,0,none⟩),E J n] w λe w'=>e = dF (dG #[])/\Mach p (s.step 12 n) W w':=by
 have c1:=hm.cell_h;have HM:=Zd hm;clear hm;go_enter func327,ntmps327
 go_wp2_with (go_at_call 303;refine (Xk p s _ W _ HM).mono ?_;rintro e w' ⟨rfl,ac⟩)
 go_end0;exact⟨rfl,by assumption⟩
theorem Zop(p:Nat)(s:MS)(n:Int)(W w)(hm:Mach p s W w) :
  Calls aB 314 #[dH (some ⟨p,0,none⟩),E J n] w λe w'=>e = dF (dG #[])/\Mach p (s.step 2 n) W w':=by
 have HM:=Zd hm;clear hm;go_enter func314,ntmps314;go_wp2_with fail;refine (Yl p s W _ HM).mono ?_;rintro e w1 ⟨rfl,ab⟩;have af:=Zd ab;clear ab;go_wp2_with fail;refine (Xk p s.take _ W _ af).mono ?_;rintro e w2 ⟨rfl,ac⟩;have ag:=Zd ac;clear ac;go_wp2_with fail;refine (Xk p (s.take.put s.top) _ W _ ag).mono ?_;rintro e w3 ⟨rfl,ad⟩;have ah:=Zd ad;clear ad;go_wp2;go_end0;exact⟨rfl,Za ah⟩
theorem Zik(p:Nat)(s:MS)(n:Int)(W w)(hm:Mach p s W w) :
  Calls aB 315 #[dH (some ⟨p,0,none⟩),E J n] w λe w'=>e = dF (dG #[])/\Mach p (s.step 3 n) W w':=by
 have HM:=Zd hm;clear hm;go_enter func315,ntmps315;go_wp2_with fail;refine (Yl p s W _ HM).mono ?_;rintro e w1 ⟨rfl,ab⟩;have ag:=Zd ab;clear ab;go_wp2_with fail;refine (Yl p s.take W _ ag).mono ?_;rintro e w2 ⟨rfl,ac⟩;have ah:=Zd ac;clear ac;go_wp2_with fail;refine (Xk p s.take.take _ W _ ah).mono ?_;rintro e w3 ⟨rfl,ad⟩;have aj:=Zd ad;clear ad;go_wp2_with fail;refine (Xk p (s.take.take.put s.top) _ W _ aj).mono ?_;rintro e w4 ⟨rfl,ae⟩;have ak:=Zd ae;clear ae;go_wp2;go_end0;exact⟨rfl,Za ak⟩
theorem Zaj(p:Nat)(s:MS)(n:Int)(W w)(hm:Mach p s W w) :
  Calls aB 326 #[dH (some ⟨p,0,none⟩),E J n] w λe w'=>e = dF (dG #[])/\Mach p (s.step 11 n) W w':=by
 have HM:=Zd hm;clear hm;by_cases h:s.top=0
 ·have e0:s.step 11 n=s.take.fail:=by simp[MS.step,h]
  have h1:(s.top == 0)=true:=by simp[h]
  rw[e0];clear h e0;go_enter func326,ntmps326;go_wp2_with fail;refine (Yl p s W _ HM).mono ?_;rintro e w1 ⟨rfl,ab⟩;have ac:=Zd ab;clear ab;go_wp2_with fail;refine (Sl p s.take W _ ac).mono ?_;rintro e w2 ⟨rfl,af⟩;have ag:=Zd af;clear af;go_wp2;go_end0;exact⟨rfl,Za ag⟩
 ·have e0:s.step 11 n=s.take:=by simp[MS.step,h]
  have h1:(s.top == 0)=false:=by simp[h]
  rw[e0];clear h e0;go_enter func326,ntmps326;go_wp2_with fail;refine (Yl p s W _ HM).mono ?_;rintro e w1 ⟨rfl,ab⟩;have ac:=Zd ab;clear ab;go_wp2;go_end0;exact⟨rfl,Za ac⟩
