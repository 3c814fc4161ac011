import Derived.Test.YtmomfkikogbdeaaGreatDoorH
import Derived.Test.YtmomfkikogbdeaaGreatDoorG12
open Go renaming lt_of_block->aA
open Go.Ending renaming returned->cY
open Go.IntKind renaming i64->J
open Go.Obj renaming cells->cW
open Go.Value renaming int->E,slice->F,tuple->cZ
set_option maxHeartbeats 6400000
set_option maxRecDepth 10000
namespace Go.Proofs.YtmomfkikogbdeaaGreatDoor
open Go.RowKit
theorem Zdb(p h k n:Int)(e:Wk p h k n=true):(V9 blockB [p,h,k,n]).size<=100:=by
 have:=Ld e
 have h1:=Uh blockB [p,h,k,n] (λaa z=>by
  simp only[List.mem_cons,List.not_mem_nil,or_false] at z
  rcases z with rfl|rfl|rfl|rfl <;> omega)
 have h2:blockB.size=5:=rfl;simp only[List.length_cons,List.length_nil] at h1;omega
theorem Ub(p h k n:Int)(a:Option Addr)(m c:Nat)(T:List TxD)(w:World)(hE:Env w)(hT:TxsAt w a m T)(hx:Yn (p,h,k,n,T)=0) :
  ZH 36 #[.agg #[E J p,E J h,E J k,E J n,F a m c]] w (cZ #[.string (Wb (p,h,k,n,T)),E J 0]):=by
 obtain⟨f1,f2,f3,_,f5⟩:=Vg hx;have hz:T.length=m:=hT.1;have hr:=Ld f1;have cp:=Zdb p h k n f1;have cq:=Rc T f5;obtain⟨X,hX⟩:=ZG (w.alloc (cW #[E J p,E J h,E J k,E J n,F a m c] 39));have Q:Below w.heap.size w X:=by rw[hX];exact Zh _ _
 have bf:X.heap[w.heap.size]? = some (cW [E J p,E J h,E J k,E J n,F a m c].toArray 39 (0,0)):=by rw[hX];exact Zu _ _ _ _ _ _ _
 have C1:=Zd (Wc p h k n a m c T 0 X (hT.later Q) hx);have az:=Zd bf;have bs:=Zd Q;have HE:=Zd (hE.later Q);obtain⟨b,off,rfl,_,bj⟩:=(hT.later Q).2 (by omega);have PT:=Zd (λW (hb:Below X.heap.size X W)=>Qk b off m c T W (HE.later hb) hz (by omega) f5 (λi hi=>TxAt.kept _ _ _ _ _ hb (bj i hi)));have HO:=Zd (λW=>Jd p h k n (some ⟨b,off,none⟩) m c W);obtain⟨r,ar⟩:=ZF (V9 blockB [p,h,k,n]);obtain⟨s,au⟩:=ZF (Xx T)
 have PR:=Zd (λW dc (hb:Below X.heap.size X W) (hh:W.heap[dc]? = some (cW [E J p,E J h,E J k,E J n].toArray 187 (0,0)))=>Ua blockB dc 0 4 4 [p,h,k,n] W (HE.later hb) (by decide) (by decide) rfl (aA hh) (λi hi=>by
  rcases (by omega:i=0\/i=1\/i=2\/i=3) with rfl|rfl|rfl|rfl
  ·exact Zb hh 0 _ rfl
  ·exact Zb hh 1 _ rfl
  ·exact Zb hh 2 _ rfl
  ·exact Zb hh 3 _ rfl) (λdd hz=>by
  simp only[List.mem_cons,List.not_mem_nil,or_false] at hz
  rcases hz with rfl|rfl|rfl|rfl <;> omega))
 have JN:=Zd (λW bt (hl:bt<W.heap.size) (cf:∀ i,i<m->W.cell? ⟨bt,i,none⟩=some (txV T i))=>(show Calls Tryz.prog 106 #[F (some ⟨bt,0,none⟩) m m,.string ⟨#[]⟩] W λe w'=>e = cY (.string (Xx T))/\Below W.heap.size W w' by
  have cj:(T.map Z8).length=m:=by rw[List.length_map];exact hz
  have q:=Tryz.strings_Join bt 0 m (T.map Z8) ⟨#[]⟩ W (λj x hj=>by
   have bk:j<T.length:=by
    rcases Nat.lt_or_ge j T.length with h|h
    ·exact h
    ·rw[List.getElem?_eq_none (by simpa using h)] at hj;cases hj
   rw[Nat.zero_add,cf j (by omega)];simp[bk] at hj
   simp[txV,bk,hj]) hl (by omega) (by omega) (by
    have:(Lib.join ((T.map Z8).map (·.data.toList)) []).length=(Xx T).size:=(by rw[<-K9 T];rfl);show (Lib.join ((T.map Z8).map (·.data.toList)) []).length<=_;omega)
  rw[cj] at q
  change Calls _ _ _ _ λe w'=>e = cY (.string ⟨(Lib.join ((T.map Z8).map (·.data.toList)) []).toArray⟩)/\_ at q
  rw[K9] at q;exact q))
 have ay:Hid (Wb (p,h,k,n,T)=(r++⟨#[10]⟩)++s):=by show _=_;unfold Wb;simp only;rw[ar,au]
 rw[ar] at PR cp;rw[au] at JN cq;have cn:(r++(⟨#[10]⟩:ByteArray)).size=r.size+1:=Ug r 10;clear ar au hE hT hx bf Q bj hr f1 f5 f2;obtain⟨r2,cm⟩:=ZF (r++(⟨#[10]⟩:ByteArray));rw[cm] at cn ay;go_enter Tryz.func36,Tryz.ntmps36;go_wp2_with fail;rw[<-hX];clear hX;refine C1.mono ?_;rintro e w1 ⟨rfl,an⟩;have z:=ZE an az;have c0:=Zb z 0 _ rfl;have c1:=Zb z 1 _ rfl;have c2:=Zb z 2 _ rfl;have c3:=Zb z 3 _ rfl;have c4:=Zb z 4 _ rfl;have cl:=aA z;have bo:=Zd an;clear an z C1;go_wp2_with fail;refine (HO _).mono ?_;rintro e w2 ⟨rfl,bg⟩;obtain⟨Y,hY⟩:=ZG (w2.alloc (cW #[E J p,E J h,E J k,E J n] 187));have bi:Below w2.heap.size w2 Y:=by rw[hY];exact Zh _ _
 have am:Y.heap[w2.heap.size]? = some (cW [E J p,E J h,E J k,E J n].toArray 187 (0,0)):=by rw[hY];exact Ts _ _ _ _ _ _
 have aj:=Zd (Zf (Zf bo bg) bi);have ah:=ZE aj az;have d4:=Zb ah 4 _ rfl;have dl:=aA ah;have yl:=aA am;have bu:=Zd am;have ct:=Zd ah;clear bg bi am ah c0 c1 c2 c3 c4 cl;go_wp2_with fail;rw[<-hY];clear hY
 go_region_with (first
  | (go_at_call 105;refine (PR _ w2.heap.size (Zf aj (Zi _)) bu).mono ?_;rintro e w3 ⟨rfl,ap⟩;have e4:w3.cell? ⟨w.heap.size,4,none⟩=some (F (some ⟨b,off,none⟩) m c):=Ze ap (Ze (Zi _) d4);have el:w.heap.size<w3.heap.size:=World.block_lt_of_cell? _ _ e4;have av:=Zd (Zf (Zf aj (Zi _)) ap);clear ap)
  | (go_at_call 87;refine (PT _ av).mono ?_;rintro e w4 ⟨rfl,aq⟩;have ax:=Zd aq;have bq:=Zd (Zf av aq.bel);clear aq)
  | (go_at_call 106;refine (JN _ _ ax.lt (λi hi=>ax.cells (Nat.le_refl _) i hi)).mono ?_;rintro e w5 ⟨rfl,bh⟩;have br:=Zd (Zf bq bh);clear bh))
 all_goals
  go_wp2;go_ret2;exact⟨by rw[Za ay];rfl,Zf bs br⟩
theorem U7(p h k n:Int)(a:Option Addr)(m c:Nat)(T:List TxD)(x:Int)(w:World)(hT:TxsAt w a m T)(hx:Yn (p,h,k,n,T)=x)(h0:x≠0) :
  ZH 36 #[.agg #[E J p,E J h,E J k,E J n,F a m c]] w (cZ #[.string ⟨#[]⟩,E J x]):=by
 obtain⟨X,z⟩:=ZG (w.alloc (cW #[E J p,E J h,E J k,E J n,F a m c] 39));have Q:Below w.heap.size w X:=by rw[z];exact Zh _ _
 have C1:=Zd (Wc p h k n a m c T x X (hT.later Q) hx);have ac:=Zd Q;have gx:(x != 0)=true:=by simp[h0]
 clear hT hx h0 Q;go_enter Tryz.func36,Tryz.ntmps36;go_wp2_with fail;rw[<-z];clear z;refine C1.mono ?_;rintro e w1 ⟨rfl,aa⟩;have ab:=Zd (Zf ac aa);clear aa;go_wp2;go_ret2;exact⟨rfl,Za ab⟩
theorem Fz(p h k n:Int)(a:Option Addr)(m c:Nat)(T:List TxD)(t:ByteArray)(x:Int)(w:World)(hE:Env w)(hT:TxsAt w a m T)(hx:Yn (p,h,k,n,T)=x)(z:Fy (p,h,k,n,T)=t) :
  ZH 36 #[.agg #[E J p,E J h,E J k,E J n,F a m c]] w (cZ #[.string t,E J x]):=by
 unfold Fy at z;by_cases h0:x=0
 ·subst h0;rw[if_pos hx] at z;subst z;exact Ub p h k n a m c T w hE hT hx
 ·rw[if_neg (by rw[hx];exact h0)] at z;subst z;exact U7 p h k n a m c T x w hT hx h0
