import Derived.Test.YtmomfkikogbdeaaGreatDoorH
import Derived.Test.YtmomfkikogbdeaaGreatDoorG30
open Go renaming lt_of_block->aA,wpAnyH_ready->aG
open Go.Act renaming put->aC
open Go.Callee renaming value->aP
open Go.Obj renaming cells->cW
open Go.Value renaming slice->F
namespace Go.Proofs.YtmomfkikogbdeaaGreatDoor
open Go.RowKit
section
variable {Z : Nat -> Prop} {w : World} {d bm m : Nat} {ka na ba pa : Option Addr} {kn kc nn nc bn bc pn pc : Nat} {K : List ByteArray} {N : List Int} {T : List Zl} {P : List TxD} {tip : Int} {f : Int -> Value} {β : Int -> List Zj}
set_option maxRecDepth 10000 in
set_option maxHeartbeats 6400000 in
theorem Zes(h:DeskAt Z w d bm m ka kn kc K na nn nc N ba bn bc T pa pn pc P tip f β)(hE:Env w)(ht:(Lit.int .i64 tip).wf=true)(h1:0<=Y8 N T tip)(h2:Y8 N T tip<=1000)(x:Int)(hx:poE K N T P tip β = x) :
  ZH 173 #[.pointer (some ⟨d,0,none⟩)] w (.int .i64 x):=by
 have dc:P.length=pn:=h.now.p.1;obtain⟨ei,hz⟩:=ZF (Y8 N T tip);obtain⟨g,hg⟩:=ZF (P.all (knT K));obtain⟨y,hy⟩:=ZF (swE K (β tip) P (ei+1));obtain⟨⟨K1,S1,C1,F1⟩,hr⟩:=ZF (swF K (β tip) P (ei+1) y);obtain⟨n1,bz⟩:=ZF (S1.length)
 have HX:Hid ((if pn=0 then 0 else if g=false then 5 else if y≠0 then y else if n1<pn then 7 else 0)=x):=by
  show _=_;rw[<-hx];unfold poE;rw[dc,hg,hz,hy];by_cases e:y=0
  ·subst e;unfold swF at hr;rw[if_pos rfl] at hr;simp only[Prod.mk.injEq] at hr;rw[hr.2.1,bz]
  ·rw[if_pos e];split
   ·rfl
   ·split
    ·rfl
    ·first|rfl|rw[if_pos e]
 obtain⟨ej,cn,cc,bv,_,sC⟩:=h.c tip;rw[hz] at h1 h2;have CA:=Zd (λV (hv:Below w.heap.size w V)=>K8 d K pa pn pc P g V (hE.later hv) (h.later hv).book (h.later hv).now.p h.sp.len hg);have CC:=Zd (λV (hv:Below w.heap.size w V)=>Tx (h.later hv) ht);rw[bv] at CC;have CH:=Zd (λV (hv:Below w.heap.size w V)=>J6 (h.later hv) ei hz);have CS:=Zd (λV (hv:Below w.heap.size w V)=>Kz ka kn kc K ej cn cc (β tip) pa pn pc P (ei+1) y K1 S1 C1 F1 V (hE.later hv) (h.later hv).now.k (by obtain⟨a2,n2,c2,q1,q2,_⟩:=(h.later hv).c tip;rw[bv] at q1;injection q1 with e1 e2 e3;subst e1 e2 e3;exact q2) sC (h.later hv).now.p hy hr);have c0:=Zb h.box 0 _ rfl;have c3:=Zb h.box 3 _ rfl;have ek:=aA h.box;have KS:Hid (∀ U:World,Below w.heap.size w U->(U.cell? ⟨d,0,none⟩=some (F ka kn kc)/\U.cell? ⟨d,3,none⟩=some (F pa pn pc)/\d<U.heap.size)):=λU Q=>⟨Ze Q c0,Ze Q c3,Nat.lt_of_lt_of_le ek Q.size⟩;have ed:IntKind.i64.wrap (ei+1)=ei+1:=by rw[IntKind.wrap_i64];omega
 have ec:pn<=9223372036854775807:=h.sp.len;have bo:=Zd bz;clear h hE ht hx dc hz hg hy hr bz bv sC;go_enter Tryz.func173,Tryz.ntmps173;by_cases e0:pn=0
 ·subst e0;have aq:Hid (x=0):=by have q:=Za HX;rw[if_pos rfl] at q;exact q.symm
  clear HX;go_wp2;go_ret;exact⟨by rw[Za aq];rfl,Below.refl _ _⟩
 ·have g0:((pn:Int) == 0)=false:=by simp;omega
  have ea:¬((pn:Int)=0):=by omega
  have D1:=Zd (CA w (Below.refl _ _));clear CA;go_wp2_with fail;refine D1.mono ?_;rintro e w1 ⟨rfl,db⟩;have ay:=Zd db;clear db D1 c0 c3 ek;cases g
  ·have aq:Hid (x=5):=(by have q:=Za HX;rw[if_neg e0,if_pos rfl] at q;exact q.symm);clear HX;go_wp2;go_ret;exact⟨by rw[Za aq];rfl,Za ay⟩
  ·have ca:=Za HX;rw[if_neg e0,if_neg (by decide)] at ca;have bb:=Zd ca;clear ca HX;have d1:=KS w1 ay;have dl:=d1.1;have cy:=d1.2.1;have cz:=d1.2.2;clear d1
   go_upto_region 5 with fail
   clear dl cy cz
   go_cut [3,4,5,6,7] from 23 to 43 (λs3 s4 s5 s6 s7 wx=>s7 = .int .i64 y/\(∃ a c,s4 = F a n1 c)/\Hid (Below w.heap.size w wx))
   case first=>
    refine wp_region_held_drew (S:=λU=>(U.cell? ⟨d,0,none⟩=some (F ka kn kc)/\U.cell? ⟨d,3,none⟩=some (F pa pn pc)/\d<U.heap.size)) (by kernel_rfl) (KS _ (Zf ay (Zi _))) (λz=>?_);refine tk 0 ⟨some 24,.move (.tmp 0),181, "check.go:34",#[],none⟩ ?_ rfl ?_ z ?_;rotate_left
    ·(intro U aa;obtain⟨s1,s2,s3⟩:=aa;go_simp;first|done|with_reducible rfl)
    (try simp only[aC,ZA,ZB,ZC]);refine tk 1 ⟨some 25,.nilCheck (.tmp 24),0, "check.go:34",#[⟨0,.data⟩],none⟩ ?_ rfl ?_ z ?_;rotate_left
    ·(intro U aa;obtain⟨s1,s2,s3⟩:=aa;go_simp;first|done|with_reducible rfl)
    (try simp only[aC,ZA,ZB,ZC]);refine tk 2 ⟨some 26,.fieldAddr 254 (.tmp 25) 0,0, "check.go:34",#[⟨1,.data⟩],none⟩ ?_ rfl ?_ z ?_;rotate_left
    ·(intro U aa;obtain⟨s1,s2,s3⟩:=aa;go_simp;first|done|with_reducible rfl)
    (try simp only[aC,ZA,ZB,ZC]);refine tk 3 ⟨some 27,.load 24 (.tmp 26),24, "check.go:34",#[⟨2,.data⟩],none⟩ ?_ rfl ?_ z ?_;rotate_left
    ·(intro U aa;obtain⟨s1,s2,s3⟩:=aa;go_simp;first|done|with_reducible rfl)
    (try simp only[aC,ZA,ZB,ZC]);refine tk 4 ⟨some 28,.move (.tmp 0),181, "check.go:34",#[],none⟩ ?_ rfl ?_ z ?_;rotate_left
    ·(intro U aa;obtain⟨s1,s2,s3⟩:=aa;go_simp;first|done|with_reducible rfl)
    (try simp only[aC,ZA,ZB,ZC]);refine tk 6 ⟨some 30,.move (.tmp 0),181, "check.go:34",#[],none⟩ ?_ rfl ?_ z ?_;rotate_left
    ·(intro U aa;obtain⟨s1,s2,s3⟩:=aa;go_simp;first|done|with_reducible rfl)
    (try simp only[aC,ZA,ZB,ZC]);refine tk 7 ⟨some 31,.nilCheck (.tmp 30),0, "check.go:34",#[⟨6,.data⟩],none⟩ ?_ rfl ?_ z ?_;rotate_left
    ·(intro U aa;obtain⟨s1,s2,s3⟩:=aa;go_simp;first|done|with_reducible rfl)
    (try simp only[aC,ZA,ZB,ZC]);refine tk 8 ⟨some 32,.fieldAddr 254 (.tmp 31) 1,0, "check.go:34",#[⟨7,.data⟩],none⟩ ?_ rfl ?_ z ?_;rotate_left
    ·(intro U aa;obtain⟨s1,s2,s3⟩:=aa;go_simp;first|done|with_reducible rfl)
    (try simp only[aC,ZA,ZB,ZC]);refine tk 9 ⟨some 33,.fieldAddr 67 (.tmp 32) 1,0, "check.go:34",#[⟨8,.data⟩],none⟩ ?_ rfl ?_ z ?_;rotate_left
    ·(intro U aa;obtain⟨s1,s2,s3⟩:=aa;go_simp;first|done|with_reducible rfl)
    (try simp only[aC,ZA,ZB,ZC]);refine tk 10 ⟨some 34,.load 37 (.tmp 33),37, "check.go:34",#[⟨9,.data⟩],none⟩ ?_ rfl ?_ z ?_;rotate_left
    ·(intro U aa;obtain⟨s1,s2,s3⟩:=aa;go_simp;first|done|with_reducible rfl)
    (try simp only[aC,ZA,ZB,ZC]);refine tk 11 ⟨some 35,.move (.tmp 0),181, "check.go:34",#[],none⟩ ?_ rfl ?_ z ?_;rotate_left
    ·(intro U aa;obtain⟨s1,s2,s3⟩:=aa;go_simp;first|done|with_reducible rfl)
    (try simp only[aC,ZA,ZB,ZC]);have hb:=Zf ay (Zi w1);refine aG (rs:=[5,21]) (by kernel_rfl) (by simp) ?_;refine AllReadyH.cons (o:=⟨some 29,.call { callee:=aP (.func 108),args:=#[.tmp 28],argTypes:=#[181] },29, "check.go:34",#[⟨4,.data⟩],none⟩) rfl (λKQ hK=>?_) (AllReadyH.cons (o:=⟨some 3,.alloc 24,0, "check.go:34",#[],none⟩) rfl (λKQ hK=>?_) AllReadyH.nil);refine Zm (by kernel_rfl) 108 #[.pointer (some ⟨d,0,none⟩)] (by kernel_rfl) (CC w1.drew hb) ?_;rintro e v1 ⟨rfl,ae⟩;refine⟨_,rfl,?_⟩;have hb:=Zf hb ae;refine hK.out _ _ (KS _ hb) (λac=>?_);clear hK KQ z;have z:=ac;clear ac;(try simp only[aC,ZA,ZB,ZC]);refine aG (rs:=[12,21]) (by kernel_rfl) (by simp) ?_;refine AllReadyH.cons (o:=⟨some 36,.call { callee:=aP (.func 165),args:=#[.tmp 35],argTypes:=#[181] },3, "check.go:34",#[⟨11,.data⟩,⟨5,.chain⟩],none⟩) rfl (λKQ hK=>?_) (AllReadyH.cons (o:=⟨some 3,.alloc 24,0, "check.go:34",#[],none⟩) rfl (λKQ hK=>?_) AllReadyH.nil);refine Zm (by kernel_rfl) 165 #[.pointer (some ⟨d,0,none⟩)] (by kernel_rfl) (CH v1 hb) ?_;rintro e v2 ⟨rfl,ae⟩;refine⟨_,rfl,?_⟩;have hb:=Zf hb ae;refine hK.out _ _ (KS _ hb) (λac=>?_);clear hK KQ z;have z:=ac;clear ac;(try simp only[aC,ZA,ZB,ZC]);refine tk 13 ⟨some 37,.binOp BinOp.add 3 (.tmp 36) (.const (Value.int IntKind.i64 1)) 3,3, "check.go:34",#[⟨12,.data⟩],none⟩ (.int .i64 (ei+1)) rfl ?_ z ?_
    ·(intro U aa;go_simp;first|done|with_reducible rfl)
    (try simp only[aC,ZA,ZB,ZC]);refine aG (rs:=[14,21]) (by kernel_rfl) (by simp) ?_;refine AllReadyH.cons (o:=⟨some 38,.call { callee:=aP (.func 23),args:=#[.tmp 27,.tmp 29,.tmp 34,.tmp 37],argTypes:=#[24,29,37,3] },49, "check.go:34",#[⟨3,.data⟩,⟨5,.data⟩,⟨10,.data⟩,⟨13,.data⟩,⟨12,.chain⟩],none⟩) rfl (λKQ hK=>?_) (AllReadyH.cons (o:=⟨some 3,.alloc 24,0, "check.go:34",#[],none⟩) rfl (λKQ hK=>?_) AllReadyH.nil);refine Zm (by kernel_rfl) 23 #[.agg #[F ka kn kc],F ej cn cc,F pa pn pc,.int .i64 (ei+1)] (by kernel_rfl) (CS v2 hb) ?_;rintro e v3 ⟨k5,ce,cd,sa,sn,sc,oa,on,oc,rfl,av,-,-,-,ae⟩;refine⟨_,rfl,?_⟩;have hb:=Zf hb ae;have bq:sn=n1:=((av v3 (Gr.refl _ _)).2.1.1).symm.trans bo;refine hK.out _ _ (KS _ hb) (λac=>?_);clear hK KQ z;have z:=ac;clear ac;(try simp only[aC,ZA,ZB,ZC]);refine tk 15 ⟨some 23,.move (.tmp 38),49, "check.go:34",#[⟨14,.data⟩],none⟩ ?_ rfl ?_ z ?_;rotate_left
    ·(intro U aa;go_simp;first|done|with_reducible rfl)
    (try simp only[aC,ZA,ZB,ZC]);refine tk 16 ⟨some 39,.extract (.tmp 23) 0,24, "check.go:34",#[⟨15,.data⟩],none⟩ ?_ rfl ?_ z ?_;rotate_left
    ·(intro U aa;go_simp;first|done|with_reducible rfl)
    (try simp only[aC,ZA,ZB,ZC]);refine tk 17 ⟨some 40,.extract (.tmp 23) 1,37, "check.go:34",#[⟨15,.data⟩,⟨22,.gcOnly .lateStores⟩],none⟩ ?_ rfl ?_ z ?_;rotate_left
    ·(intro U aa;go_simp;first|done|with_reducible rfl)
    (try simp only[aC,ZA,ZB,ZC]);refine tk 18 ⟨some 41,.extract (.tmp 23) 2,29, "check.go:34",#[⟨15,.data⟩,⟨23,.gcOnly .lateStores⟩],none⟩ ?_ rfl ?_ z ?_;rotate_left
    ·(intro U aa;go_simp;first|done|with_reducible rfl)
    (try simp only[aC,ZA,ZB,ZC]);refine tk 19 ⟨some 42,.extract (.tmp 23) 3,3, "check.go:34",#[⟨15,.data⟩,⟨24,.gcOnly .lateStores⟩],none⟩ ?_ rfl ?_ z ?_;rotate_left
    ·(intro U aa;go_simp;first|done|with_reducible rfl)
    (try simp only[aC,ZA,ZB,ZC]);refine tk 20 ⟨some 43,.extract (.tmp 23) 4,30, "check.go:34",#[⟨15,.data⟩,⟨25,.gcOnly .lateStores⟩],none⟩ ?_ rfl ?_ z ?_;rotate_left
    ·(intro U aa;go_simp;first|done|with_reducible rfl)
    (try simp only[aC,ZA,ZB,ZC]);refine aG (rs:=[21]) (by kernel_rfl) (by simp) ?_;refine AllReadyH.cons (o:=⟨some 3,.alloc 24,0, "check.go:34",#[],none⟩) rfl (λKQ hK=>?_) AllReadyH.nil;go_simp;obtain⟨cm,ag⟩:∃ w6,w6=v3.alloc (cW #[F none 0 0] 24):=⟨_,rfl⟩;rw[<-ag];have Q:cm.heap[v3.heap.size]? = some (cW #[F none 0 0] 24 (0,0)):=(by rw[ag];exact Yl _ _ _);have ar:w.heap.size<=v3.heap.size:=hb.size;have hb:Below w.heap.size w cm:=(by rw[ag];exact Zf hb (Zh _ _));clear ag;have u0:=Zb (X:=[F none 0 0]) Q 0 _ rfl;have uf:=Zg Q 0;have ul:=aA Q;refine hK.out _ _ (KS _ hb) (λac=>?_);clear hK KQ z;have z:=ac;clear ac;(try simp only[aC,ZA,ZB,ZC]);generalize v3.heap.size=uz at Q ar u0 uf ul ⊢;obtain⟨vz,aw⟩:∃ ei,ei=cm:=⟨_,rfl⟩;subst aw;rotate_left;go_simp;obtain⟨cl,ag⟩:∃ w6,w6=v2.alloc (cW #[F none 0 0] 24):=⟨_,rfl⟩;rw[<-ag];have Q:cl.heap[v2.heap.size]? = some (cW #[F none 0 0] 24 (0,0)):=(by rw[ag];exact Yl _ _ _);have ar:w.heap.size<=v2.heap.size:=hb.size;have hb:Below w.heap.size w cl:=(by rw[ag];exact Zf hb (Zh _ _));clear ag;have u0:=Zb (X:=[F none 0 0]) Q 0 _ rfl;have uf:=Zg Q 0;have ul:=aA Q;refine hK.out _ _ (KS _ hb) (λac=>?_);clear hK KQ z;have z:=ac;clear ac;(try simp only[aC,ZA,ZB,ZC]);refine aG (rs:=[14]) (by kernel_rfl) (by simp) ?_
    refine AllReadyH.cons (o:=⟨some 38,.call { callee:=aP (.func 23),args:=#[.tmp 27,.tmp 29,.tmp 34,.tmp 37],argTypes:=#[24,29,37,3] },49, "check.go:34",#[⟨3,.data⟩,⟨5,.data⟩,⟨10,.data⟩,⟨13,.data⟩,⟨12,.chain⟩],none⟩) rfl (λKQ hK=>?_) AllReadyH.nil;refine Zm (by kernel_rfl) 23 #[.agg #[F ka kn kc],F ej cn cc,F pa pn pc,.int .i64 (ei+1)] (by kernel_rfl) (CS cl hb) ?_;rintro e v4 ⟨k5,ce,cd,sa,sn,sc,oa,on,oc,rfl,av,-,-,-,ae⟩;refine⟨_,rfl,?_⟩;have Q:=ZE ae Q;have u0:=Zb (X:=[F none 0 0]) Q 0 _ rfl;have uf:=Zg Q 0;have ul:=aA Q;have hb:=Zf hb ae;have bq:sn=n1:=((av v4 (Gr.refl _ _)).2.1.1).symm.trans bo;refine hK.out _ _ (KS _ hb) (λac=>?_);clear hK KQ z;have z:=ac;clear ac;(try simp only[aC,ZA,ZB,ZC]);refine tk 15 ⟨some 23,.move (.tmp 38),49, "check.go:34",#[⟨14,.data⟩],none⟩ ?_ rfl ?_ z ?_;rotate_left
    ·(intro U aa;go_simp;first|done|with_reducible rfl)
    (try simp only[aC,ZA,ZB,ZC]);refine tk 16 ⟨some 39,.extract (.tmp 23) 0,24, "check.go:34",#[⟨15,.data⟩],none⟩ ?_ rfl ?_ z ?_;rotate_left
    ·(intro U aa;go_simp;first|done|with_reducible rfl)
    (try simp only[aC,ZA,ZB,ZC]);refine tk 17 ⟨some 40,.extract (.tmp 23) 1,37, "check.go:34",#[⟨15,.data⟩,⟨22,.gcOnly .lateStores⟩],none⟩ ?_ rfl ?_ z ?_;rotate_left
    ·(intro U aa;go_simp;first|done|with_reducible rfl)
    (try simp only[aC,ZA,ZB,ZC]);refine tk 18 ⟨some 41,.extract (.tmp 23) 2,29, "check.go:34",#[⟨15,.data⟩,⟨23,.gcOnly .lateStores⟩],none⟩ ?_ rfl ?_ z ?_;rotate_left
    ·(intro U aa;go_simp;first|done|with_reducible rfl)
    (try simp only[aC,ZA,ZB,ZC]);refine tk 19 ⟨some 42,.extract (.tmp 23) 3,3, "check.go:34",#[⟨15,.data⟩,⟨24,.gcOnly .lateStores⟩],none⟩ ?_ rfl ?_ z ?_;rotate_left
    ·(intro U aa;go_simp;first|done|with_reducible rfl)
    (try simp only[aC,ZA,ZB,ZC]);refine tk 20 ⟨some 43,.extract (.tmp 23) 4,30, "check.go:34",#[⟨15,.data⟩,⟨25,.gcOnly .lateStores⟩],none⟩ ?_ rfl ?_ z ?_;rotate_left
    ·(intro U aa;go_simp;first|done|with_reducible rfl)
    (try simp only[aC,ZA,ZB,ZC]);generalize v2.heap.size=uz at Q ar u0 uf ul ⊢;obtain⟨vz,aw⟩:∃ ei,ei=v4:=⟨_,rfl⟩;subst aw;rotate_left;go_simp;obtain⟨cj,ag⟩:∃ w6,w6=v1.alloc (cW #[F none 0 0] 24):=⟨_,rfl⟩;rw[<-ag];have Q:cj.heap[v1.heap.size]? = some (cW #[F none 0 0] 24 (0,0)):=(by rw[ag];exact Yl _ _ _);have ar:w.heap.size<=v1.heap.size:=hb.size;have hb:Below w.heap.size w cj:=(by rw[ag];exact Zf hb (Zh _ _));clear ag;have u0:=Zb (X:=[F none 0 0]) Q 0 _ rfl;have uf:=Zg Q 0;have ul:=aA Q;refine hK.out _ _ (KS _ hb) (λac=>?_);clear hK KQ z;have z:=ac;clear ac;(try simp only[aC,ZA,ZB,ZC]);refine aG (rs:=[12]) (by kernel_rfl) (by simp) ?_;refine AllReadyH.cons (o:=⟨some 36,.call { callee:=aP (.func 165),args:=#[.tmp 35],argTypes:=#[181] },3, "check.go:34",#[⟨11,.data⟩,⟨5,.chain⟩],none⟩) rfl (λKQ hK=>?_) AllReadyH.nil;refine Zm (by kernel_rfl) 165 #[.pointer (some ⟨d,0,none⟩)] (by kernel_rfl) (CH cj hb) ?_;rintro e v5 ⟨rfl,ae⟩;refine⟨_,rfl,?_⟩;have Q:=ZE ae Q;have u0:=Zb (X:=[F none 0 0]) Q 0 _ rfl;have uf:=Zg Q 0;have ul:=aA Q;have hb:=Zf hb ae;refine hK.out _ _ (KS _ hb) (λac=>?_);clear hK KQ z;have z:=ac;clear ac;(try simp only[aC,ZA,ZB,ZC]);refine tk 13 ⟨some 37,.binOp BinOp.add 3 (.tmp 36) (.const (Value.int IntKind.i64 1)) 3,3, "check.go:34",#[⟨12,.data⟩],none⟩ (.int .i64 (ei+1)) rfl ?_ z ?_
    ·(intro U aa;go_simp;first|done|with_reducible rfl)
    (try simp only[aC,ZA,ZB,ZC]);refine aG (rs:=[14]) (by kernel_rfl) (by simp) ?_;refine AllReadyH.cons (o:=⟨some 38,.call { callee:=aP (.func 23),args:=#[.tmp 27,.tmp 29,.tmp 34,.tmp 37],argTypes:=#[24,29,37,3] },49, "check.go:34",#[⟨3,.data⟩,⟨5,.data⟩,⟨10,.data⟩,⟨13,.data⟩,⟨12,.chain⟩],none⟩) rfl (λKQ hK=>?_) AllReadyH.nil;refine Zm (by kernel_rfl) 23 #[.agg #[F ka kn kc],F ej cn cc,F pa pn pc,.int .i64 (ei+1)] (by kernel_rfl) (CS v5 hb) ?_;rintro e v6 ⟨k5,ce,cd,sa,sn,sc,oa,on,oc,rfl,av,-,-,-,ae⟩;refine⟨_,rfl,?_⟩;have Q:=ZE ae Q;have u0:=Zb (X:=[F none 0 0]) Q 0 _ rfl;have uf:=Zg Q 0;have ul:=aA Q;have hb:=Zf hb ae;have bq:sn=n1:=((av v6 (Gr.refl _ _)).2.1.1).symm.trans bo;refine hK.out _ _ (KS _ hb) (λac=>?_);clear hK KQ z;have z:=ac;clear ac;(try simp only[aC,ZA,ZB,ZC]);refine tk 15 ⟨some 23,.move (.tmp 38),49, "check.go:34",#[⟨14,.data⟩],none⟩ ?_ rfl ?_ z ?_;rotate_left
    ·(intro U aa;go_simp;first|done|with_reducible rfl)
    (try simp only[aC,ZA,ZB,ZC]);refine tk 16 ⟨some 39,.extract (.tmp 23) 0,24, "check.go:34",#[⟨15,.data⟩],none⟩ ?_ rfl ?_ z ?_;rotate_left
    ·(intro U aa;go_simp;first|done|with_reducible rfl)
    (try simp only[aC,ZA,ZB,ZC]);refine tk 17 ⟨some 40,.extract (.tmp 23) 1,37, "check.go:34",#[⟨15,.data⟩,⟨22,.gcOnly .lateStores⟩],none⟩ ?_ rfl ?_ z ?_;rotate_left
    ·(intro U aa;go_simp;first|done|with_reducible rfl)
    (try simp only[aC,ZA,ZB,ZC]);refine tk 18 ⟨some 41,.extract (.tmp 23) 2,29, "check.go:34",#[⟨15,.data⟩,⟨23,.gcOnly .lateStores⟩],none⟩ ?_ rfl ?_ z ?_;rotate_left
    ·(intro U aa;go_simp;first|done|with_reducible rfl)
    (try simp only[aC,ZA,ZB,ZC]);refine tk 19 ⟨some 42,.extract (.tmp 23) 3,3, "check.go:34",#[⟨15,.data⟩,⟨24,.gcOnly .lateStores⟩],none⟩ ?_ rfl ?_ z ?_;rotate_left
    ·(intro U aa;go_simp;first|done|with_reducible rfl)
    (try simp only[aC,ZA,ZB,ZC]);refine tk 20 ⟨some 43,.extract (.tmp 23) 4,30, "check.go:34",#[⟨15,.data⟩,⟨25,.gcOnly .lateStores⟩],none⟩ ?_ rfl ?_ z ?_;rotate_left
    ·(intro U aa;go_simp;first|done|with_reducible rfl)
    (try simp only[aC,ZA,ZB,ZC]);generalize v1.heap.size=uz at Q ar u0 uf ul ⊢;obtain⟨vz,aw⟩:∃ ei,ei=v6:=⟨_,rfl⟩;subst aw;rotate_left;go_simp;obtain⟨cp,ag⟩:∃ w6,w6=(w1.alloc (cW #[F none 0 0] 24)).drew:=⟨_,rfl⟩;rw[<-ag];have Q:cp.heap[w1.heap.size]? = some (cW #[F none 0 0] 24 (0,0)):=(by rw[ag];exact Yl _ _ _);have ar:w.heap.size<=w1.heap.size:=ay.size;have hb:Below w.heap.size w cp:=(by rw[ag];exact Zf (Zf ay (Zh _ _)) (Zi _));clear ag;have u0:=Zb (X:=[F none 0 0]) Q 0 _ rfl;have uf:=Zg Q 0;have ul:=aA Q;refine hK.out _ _ (KS _ hb) (λac=>?_);clear hK KQ z;have z:=ac;clear ac;(try simp only[aC,ZA,ZB,ZC]);refine aG (rs:=[5]) (by kernel_rfl) (by simp) ?_;refine AllReadyH.cons (o:=⟨some 29,.call { callee:=aP (.func 108),args:=#[.tmp 28],argTypes:=#[181] },29, "check.go:34",#[⟨4,.data⟩],none⟩) rfl (λKQ hK=>?_) AllReadyH.nil;refine Zm (by kernel_rfl) 108 #[.pointer (some ⟨d,0,none⟩)] (by kernel_rfl) (CC cp hb) ?_;rintro e v7 ⟨rfl,ae⟩;refine⟨_,rfl,?_⟩;have Q:=ZE ae Q;have u0:=Zb (X:=[F none 0 0]) Q 0 _ rfl;have uf:=Zg Q 0;have ul:=aA Q;have hb:=Zf hb ae;refine hK.out _ _ (KS _ hb) (λac=>?_);clear hK KQ z;have z:=ac;clear ac;(try simp only[aC,ZA,ZB,ZC]);refine aG (rs:=[12]) (by kernel_rfl) (by simp) ?_
    refine AllReadyH.cons (o:=⟨some 36,.call { callee:=aP (.func 165),args:=#[.tmp 35],argTypes:=#[181] },3, "check.go:34",#[⟨11,.data⟩,⟨5,.chain⟩],none⟩) rfl (λKQ hK=>?_) AllReadyH.nil;refine Zm (by kernel_rfl) 165 #[.pointer (some ⟨d,0,none⟩)] (by kernel_rfl) (CH v7 hb) ?_;rintro e v8 ⟨rfl,ae⟩;refine⟨_,rfl,?_⟩;have Q:=ZE ae Q;have u0:=Zb (X:=[F none 0 0]) Q 0 _ rfl;have uf:=Zg Q 0;have ul:=aA Q;have hb:=Zf hb ae;refine hK.out _ _ (KS _ hb) (λac=>?_);clear hK KQ z;have z:=ac;clear ac;(try simp only[aC,ZA,ZB,ZC]);refine tk 13 ⟨some 37,.binOp BinOp.add 3 (.tmp 36) (.const (Value.int IntKind.i64 1)) 3,3, "check.go:34",#[⟨12,.data⟩],none⟩ (.int .i64 (ei+1)) rfl ?_ z ?_
    ·(intro U aa;go_simp;first|done|with_reducible rfl)
    (try simp only[aC,ZA,ZB,ZC]);refine aG (rs:=[14]) (by kernel_rfl) (by simp) ?_;refine AllReadyH.cons (o:=⟨some 38,.call { callee:=aP (.func 23),args:=#[.tmp 27,.tmp 29,.tmp 34,.tmp 37],argTypes:=#[24,29,37,3] },49, "check.go:34",#[⟨3,.data⟩,⟨5,.data⟩,⟨10,.data⟩,⟨13,.data⟩,⟨12,.chain⟩],none⟩) rfl (λKQ hK=>?_) AllReadyH.nil;refine Zm (by kernel_rfl) 23 #[.agg #[F ka kn kc],F ej cn cc,F pa pn pc,.int .i64 (ei+1)] (by kernel_rfl) (CS v8 hb) ?_;rintro e v9 ⟨k5,ce,cd,sa,sn,sc,oa,on,oc,rfl,av,-,-,-,ae⟩;refine⟨_,rfl,?_⟩;have Q:=ZE ae Q;have u0:=Zb (X:=[F none 0 0]) Q 0 _ rfl;have uf:=Zg Q 0;have ul:=aA Q;have hb:=Zf hb ae;have bq:sn=n1:=((av v9 (Gr.refl _ _)).2.1.1).symm.trans bo;refine hK.out _ _ (KS _ hb) (λac=>?_);clear hK KQ z;have z:=ac;clear ac;(try simp only[aC,ZA,ZB,ZC]);refine tk 15 ⟨some 23,.move (.tmp 38),49, "check.go:34",#[⟨14,.data⟩],none⟩ ?_ rfl ?_ z ?_;rotate_left
    ·(intro U aa;go_simp;first|done|with_reducible rfl)
    (try simp only[aC,ZA,ZB,ZC]);refine tk 16 ⟨some 39,.extract (.tmp 23) 0,24, "check.go:34",#[⟨15,.data⟩],none⟩ ?_ rfl ?_ z ?_;rotate_left
    ·(intro U aa;go_simp;first|done|with_reducible rfl)
    (try simp only[aC,ZA,ZB,ZC]);refine tk 17 ⟨some 40,.extract (.tmp 23) 1,37, "check.go:34",#[⟨15,.data⟩,⟨22,.gcOnly .lateStores⟩],none⟩ ?_ rfl ?_ z ?_;rotate_left
    ·(intro U aa;go_simp;first|done|with_reducible rfl)
    (try simp only[aC,ZA,ZB,ZC]);refine tk 18 ⟨some 41,.extract (.tmp 23) 2,29, "check.go:34",#[⟨15,.data⟩,⟨23,.gcOnly .lateStores⟩],none⟩ ?_ rfl ?_ z ?_;rotate_left
    ·(intro U aa;go_simp;first|done|with_reducible rfl)
    (try simp only[aC,ZA,ZB,ZC]);refine tk 19 ⟨some 42,.extract (.tmp 23) 3,3, "check.go:34",#[⟨15,.data⟩,⟨24,.gcOnly .lateStores⟩],none⟩ ?_ rfl ?_ z ?_;rotate_left
    ·(intro U aa;go_simp;first|done|with_reducible rfl)
    (try simp only[aC,ZA,ZB,ZC]);refine tk 20 ⟨some 43,.extract (.tmp 23) 4,30, "check.go:34",#[⟨15,.data⟩,⟨25,.gcOnly .lateStores⟩],none⟩ ?_ rfl ?_ z ?_;rotate_left
    ·(intro U aa;go_simp;first|done|with_reducible rfl)
    (try simp only[aC,ZA,ZB,ZC]);generalize w1.heap.size=uz at Q ar u0 uf ul ⊢;obtain⟨vz,aw⟩:∃ ei,ei=v9:=⟨_,rfl⟩;subst aw;rotate_left
    all_goals
     refine aG (rs:=[22]) (by kernel_rfl) (by simp) ?_;refine AllReadyH.cons (o:=⟨none,.store 24 (.tmp 3) (.tmp 39),0, "check.go:34",#[⟨21,.data⟩,⟨16,.data⟩,⟨14,.chain⟩,⟨0,.phase⟩,⟨1,.phase⟩,⟨2,.phase⟩,⟨3,.phase⟩,⟨4,.phase⟩,⟨5,.phase⟩,⟨6,.phase⟩,⟨7,.phase⟩,⟨8,.phase⟩,⟨9,.phase⟩,⟨10,.phase⟩,⟨11,.phase⟩,⟨12,.phase⟩,⟨13,.phase⟩,⟨14,.phase⟩,⟨15,.phase⟩,⟨16,.phase⟩,⟨17,.textOnly .lateStores⟩,⟨18,.textOnly .lateStores⟩,⟨19,.textOnly .lateStores⟩,⟨20,.textOnly .lateStores⟩,⟨21,.phase⟩],none⟩) rfl (λKQ hK=>?_) AllReadyH.nil;go_simp;refine hK.out _ _ (KS _ (hb.setCell (p:=⟨uz,0,none⟩) ar _)) (λac=>?_);clear hK KQ z;have z:=ac;clear ac;(try simp only[aC]);refine tk 23 ⟨some 4,.assign (.tmp 40),37, "check.go:34",#[⟨17,.data⟩,⟨22,.chain⟩,⟨0,.phase⟩,⟨1,.phase⟩,⟨2,.phase⟩,⟨3,.phase⟩,⟨4,.phase⟩,⟨5,.phase⟩,⟨6,.phase⟩,⟨7,.phase⟩,⟨8,.phase⟩,⟨9,.phase⟩,⟨10,.phase⟩,⟨11,.phase⟩,⟨12,.phase⟩,⟨13,.phase⟩,⟨14,.phase⟩,⟨15,.phase⟩,⟨16,.phase⟩,⟨17,.phase⟩,⟨18,.textOnly .lateStores⟩,⟨19,.textOnly .lateStores⟩,⟨20,.textOnly .lateStores⟩,⟨21,.phase⟩,⟨22,.phase⟩],none⟩ ?_ rfl ?_ z ?_;rotate_left
     ·(intro U aa;go_simp;first|done|with_reducible rfl)
     (try simp only[aC,ZA,ZB,ZC]);refine tk 24 ⟨some 5,.assign (.tmp 41),29, "check.go:34",#[⟨18,.data⟩,⟨23,.chain⟩,⟨0,.phase⟩,⟨1,.phase⟩,⟨2,.phase⟩,⟨3,.phase⟩,⟨4,.phase⟩,⟨5,.phase⟩,⟨6,.phase⟩,⟨7,.phase⟩,⟨8,.phase⟩,⟨9,.phase⟩,⟨10,.phase⟩,⟨11,.phase⟩,⟨12,.phase⟩,⟨13,.phase⟩,⟨14,.phase⟩,⟨15,.phase⟩,⟨16,.phase⟩,⟨17,.phase⟩,⟨18,.phase⟩,⟨19,.textOnly .lateStores⟩,⟨20,.textOnly .lateStores⟩,⟨21,.phase⟩,⟨22,.phase⟩,⟨23,.phase⟩],none⟩ ?_ rfl ?_ z ?_;rotate_left
     ·(intro U aa;go_simp;first|done|with_reducible rfl)
     (try simp only[aC,ZA,ZB,ZC]);refine tk 25 ⟨some 6,.assign (.tmp 42),3, "check.go:34",#[⟨19,.data⟩,⟨24,.chain⟩,⟨0,.phase⟩,⟨1,.phase⟩,⟨2,.phase⟩,⟨3,.phase⟩,⟨4,.phase⟩,⟨5,.phase⟩,⟨6,.phase⟩,⟨7,.phase⟩,⟨8,.phase⟩,⟨9,.phase⟩,⟨10,.phase⟩,⟨11,.phase⟩,⟨12,.phase⟩,⟨13,.phase⟩,⟨14,.phase⟩,⟨15,.phase⟩,⟨16,.phase⟩,⟨17,.phase⟩,⟨18,.phase⟩,⟨19,.phase⟩,⟨20,.textOnly .lateStores⟩,⟨21,.phase⟩,⟨22,.phase⟩,⟨23,.phase⟩,⟨24,.phase⟩],none⟩ ?_ rfl ?_ z ?_;rotate_left
     ·(intro U aa;go_simp;first|done|with_reducible rfl)
     (try simp only[aC,ZA,ZB,ZC]);refine tk 26 ⟨some 7,.assign (.tmp 43),30, "check.go:34",#[⟨20,.data⟩,⟨25,.chain⟩,⟨0,.phase⟩,⟨1,.phase⟩,⟨2,.phase⟩,⟨3,.phase⟩,⟨4,.phase⟩,⟨5,.phase⟩,⟨6,.phase⟩,⟨7,.phase⟩,⟨8,.phase⟩,⟨9,.phase⟩,⟨10,.phase⟩,⟨11,.phase⟩,⟨12,.phase⟩,⟨13,.phase⟩,⟨14,.phase⟩,⟨15,.phase⟩,⟨16,.phase⟩,⟨17,.phase⟩,⟨18,.phase⟩,⟨19,.phase⟩,⟨20,.phase⟩,⟨21,.phase⟩,⟨22,.phase⟩,⟨23,.phase⟩,⟨24,.phase⟩,⟨25,.phase⟩],none⟩ ?_ rfl ?_ z ?_;rotate_left
     ·(intro U aa;go_simp;first|done|with_reducible rfl)
     (try simp only[aC,ZA,ZB,ZC]);refine wpAnyH_done (by kernel_rfl) ?_ _;clear z;go_wp2_with fail;go_meet
     case rel=>exact⟨rfl,⟨sa,sc,by first|rfl|rw[bq]⟩,hb.setCell (p:=⟨uz,0,none⟩) ar _⟩
   case rest=>
    obtain⟨rfl,⟨ra,rc,rfl⟩,HB⟩:=hcut;have d1:=KS wc HB;have cy:=d1.2.1;have cz:=d1.2.2;clear d1 KS CC CH CS;by_cases y0:y=0
    ·subst y0;by_cases l0:n1<pn
     ·have gl:(n1:Int)<(pn:Int):=(by omega);have aq:Hid (x=7):=(by have q:=Za bb;rw[if_neg (λr=>r rfl),if_pos l0] at q;exact q.symm);clear bb;go_wp2;go_ret;exact⟨by rw[Za aq];rfl,Za HB⟩
     ·have gl:¬(n1:Int)<(pn:Int):=(by omega);have aq:Hid (x=0):=(by have q:=Za bb;rw[if_neg (λr=>r rfl),if_neg l0] at q;exact q.symm);clear bb;go_wp2;go_ret;exact⟨by rw[Za aq];rfl,Za HB⟩
    ·have gy:(y == 0)=false:=(by simp[y0]);have aq:Hid (x=y):=(by have q:=Za bb;rw[if_pos y0] at q;exact q.symm);clear bb;go_wp2;go_ret;exact⟨by rw[Za aq];rfl,Za HB⟩
end
