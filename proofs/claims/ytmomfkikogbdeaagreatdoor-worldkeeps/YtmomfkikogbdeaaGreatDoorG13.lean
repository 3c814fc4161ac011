import Derived.Test.YtmomfkikogbdeaaGreatDoorH
import Derived.Test.YtmomfkikogbdeaaGreatDoorG12
open Go.Ending renaming returned->cS
open Go.IntKind renaming i64->J
open Go.Obj renaming cells->cR
open Go.Value renaming int->E,slice->F,tuple->cT
set_option maxHeartbeats 6400000
set_option maxRecDepth 10000
namespace Go.Proofs.YtmomfkikogbdeaaGreatDoor
open Go.RowKit
theorem Zfu(p h k n:Int)(e:Wp p h k n=true):(Uw blockB [p,h,k,n]).size<=100:=by
 have:=Mq e
 have h1:=U8 blockB [p,h,k,n] (λaa z=>by
  simp only[List.mem_cons,List.not_mem_nil,or_false] at z
  rcases z with rfl|rfl|rfl|rfl <;> omega)
 have h2:blockB.size=5:=rfl;simp only[List.length_cons,List.length_nil] at h1;omega
theorem Uy(p h k n:Int)(a m c T)(w:World)(hE:Env w)(hT:TxsAt w a m T)(hx:Ym (p,h,k,n,T)=0) :
  ZH 36 #[.agg #[E J p,E J h,E J k,E J n,F a m c]] w (cT #[.string (Ws (p,h,k,n,T)),E J 0]):=by
 obtain⟨f1,f2,f3,_,f5⟩:=V6 hx;have hz:T.length=m:=hT.1;have hr:=Mq f1;have cp:=Zfu p h k n f1;have cq:=Tc T f5;obtain⟨X,hX⟩:=ZG (w.alloc (cR #[E J p,E J h,E J k,E J n,F a m c] 39));have Q:ZD w X:=by rw[hX];exact Zh _ _
 have bf:X.heap[w.heap.size]? = some (cR [E J p,E J h,E J k,E J n,F a m c].toArray 39 (0,0)):=by rw[hX];exact Zx _ _ _ _ _ _ _
 have C1:=Zd (Wt p h k n a m c T 0 X (hT.later Q) hx);have az:=Zd bf;have bs:=Zd Q;have HE:=Zd (hE.later Q);obtain⟨b,off,rfl,_,bj⟩:=(hT.later Q).2 (by omega);have PT:=Zd (λW (hb:ZD X W)=>Ji b off m c T W (HE.later hb) hz (by omega) f5 (λi hi=>TxAt.kept _ _ _ _ _ hb (bj i hi)));have HO:=Zd (λW=>J8 p h k n (some ⟨b,off,none⟩) m c W);obtain⟨r,ar⟩:=ZF (Uw blockB [p,h,k,n]);obtain⟨s,au⟩:=ZF (Wl T)
 have PR:=Zd (λW dc (hb:ZD X W) (hh:W.heap[dc]? = some (cR [E J p,E J h,E J k,E J n].toArray 187 (0,0)))=>Ux blockB dc 0 4 4 [p,h,k,n] W (HE.later hb) (by decide) (by decide) rfl (lt_of_block hh) (λi hi=>by
  rcases (by omega:i=0\/i=1\/i=2\/i=3) with rfl|rfl|rfl|rfl
  ·exact Zb hh 0 _ rfl
  ·exact Zb hh 1 _ rfl
  ·exact Zb hh 2 _ rfl
  ·exact Zb hh 3 _ rfl) (λdd hz=>by
  simp only[List.mem_cons,List.not_mem_nil,or_false] at hz
  rcases hz with rfl|rfl|rfl|rfl <;> omega))
 have JN:=Zd (λW bt (hl:bt<W.heap.size) (cf:∀ i,i<m->W.cell? ⟨bt,i,none⟩=some (txV T i))=>(show Calls Tryz.prog 106 #[F (some ⟨bt,0,none⟩) m m,.string ⟨#[]⟩] W λe w'=>e = cS (.string (Wl T))/\ZD W w' by
  have cj:(T.map Z7).length=m:=by rw[List.length_map];exact hz
  have q:=Tryz.strings_Join bt 0 m (T.map Z7) ⟨#[]⟩ W (λj x hj=>by
   have bk:j<T.length:=by
    rcases Nat.lt_or_ge j T.length with h|h
    ·exact h
    ·rw[List.getElem?_eq_none (by simpa using h)] at hj;cases hj
   rw[Nat.zero_add,cf j (by omega)];simp[bk] at hj
   simp[txV,bk,hj]) hl (by omega) (by omega) (by
    have:(Lib.join ((T.map Z7).map (·.data.toList)) []).length=(Wl T).size:=(by rw[<-Mn T];rfl);show (Lib.join ((T.map Z7).map (·.data.toList)) []).length<=_;omega)
  rw[cj] at q
  change Calls _ _ _ _ λe w'=>e = cS (.string ⟨(Lib.join ((T.map Z7).map (·.data.toList)) []).toArray⟩)/\_ at q
  rw[Mn] at q;exact q))
 have ay:Hid (Ws (p,h,k,n,T)=(r++⟨#[10]⟩)++s):=by show _=_;unfold Ws;simp only;rw[ar,au]
 rw[ar] at PR cp;rw[au] at JN cq;have cn:(r++(⟨#[10]⟩:ByteArray)).size=r.size+1:=U6 r 10;clear ar au hE hT hx bf Q bj hr f1 f5 f2;obtain⟨r2,cm⟩:=ZF (r++(⟨#[10]⟩:ByteArray));rw[cm] at cn ay;go_enter Tryz.func36,Tryz.ntmps36;go_wp2_with fail;rw[<-hX];clear hX;refine C1.mono ?_;rintro e w1 ⟨rfl,an⟩;have z:=ZE an az;have c0:=Zb z 0 _ rfl;have c1:=Zb z 1 _ rfl;have c2:=Zb z 2 _ rfl;have c3:=Zb z 3 _ rfl;have c4:=Zb z 4 _ rfl;have cl:=lt_of_block z;have bo:=Zd an;clear an z C1;go_wp2_with fail;refine (HO _).mono ?_;rintro e w2 ⟨rfl,bg⟩;obtain⟨Y,hY⟩:=ZG (w2.alloc (cR #[E J p,E J h,E J k,E J n] 187));have bi:ZD w2 Y:=by rw[hY];exact Zh _ _
 have am:Y.heap[w2.heap.size]? = some (cR [E J p,E J h,E J k,E J n].toArray 187 (0,0)):=by rw[hY];exact Sw _ _ _ _ _ _
 have aj:=Zd (Zf (Zf bo bg) bi);have ah:=ZE aj az;have d4:=Zb ah 4 _ rfl;have dl:=lt_of_block ah;have yl:=lt_of_block am;have bu:=Zd am;have ct:=Zd ah;clear bg bi am ah c0 c1 c2 c3 c4 cl;go_wp2_with fail;rw[<-hY];clear hY
 go_region_with (first
  | (go_at_call 105;refine (PR _ w2.heap.size (Zf aj (Zi _)) bu).mono ?_;rintro e w3 ⟨rfl,ap⟩;have e4:w3.cell? ⟨w.heap.size,4,none⟩=some (F (some ⟨b,off,none⟩) m c):=Ze ap (Ze (Zi _) d4);have el:w.heap.size<w3.heap.size:=World.block_lt_of_cell? _ _ e4;have av:=Zd (Zf (Zf aj (Zi _)) ap);clear ap)
  | (go_at_call 87;refine (PT _ av).mono ?_;rintro e w4 ⟨rfl,aq⟩;have ax:=Zd aq;have bq:=Zd (Zf av aq.bel);clear aq)
  | (go_at_call 106;refine (JN _ _ ax.lt (λi hi=>ax.cells (Nat.le_refl _) i hi)).mono ?_;rintro e w5 ⟨rfl,bh⟩;have br:=Zd (Zf bq bh);clear bh))
 all_goals
  go_wp2;go_ret2;exact⟨by rw[Za ay];rfl,Zf bs br⟩
theorem Qx(p h k n:Int)(a m c T)(x:Int)(w:World)(hT:TxsAt w a m T)(hx:Ym (p,h,k,n,T)=x)(h0:x≠0) :
  ZH 36 #[.agg #[E J p,E J h,E J k,E J n,F a m c]] w (cT #[.string ⟨#[]⟩,E J x]):=by
 obtain⟨X,z⟩:=ZG (w.alloc (cR #[E J p,E J h,E J k,E J n,F a m c] 39));have Q:ZD w X:=by rw[z];exact Zh _ _
 have C1:=Zd (Wt p h k n a m c T x X (hT.later Q) hx);have ac:=Zd Q;have gx:(x != 0)=true:=by simp[h0]
 clear hT hx h0 Q;go_enter Tryz.func36,Tryz.ntmps36;go_wp2_with fail;rw[<-z];clear z;refine C1.mono ?_;rintro e w1 ⟨rfl,aa⟩;have ab:=Zd (Zf ac aa);clear aa;go_wp2;go_ret2;exact⟨rfl,Za ab⟩
theorem Bg(p h k n:Int)(a m c T)(t:ByteArray)(x:Int)(w:World)(hE:Env w)(hT:TxsAt w a m T)(hx:Ym (p,h,k,n,T)=x)(z:Bf (p,h,k,n,T)=t) :
  ZH 36 #[.agg #[E J p,E J h,E J k,E J n,F a m c]] w (cT #[.string t,E J x]):=by
 unfold Bf at z;by_cases h0:x=0
 ·subst h0;rw[if_pos hx] at z;subst z;exact Uy p h k n a m c T w hE hT hx
 ·rw[if_neg (by rw[hx];exact h0)] at z;subst z;exact Qx p h k n a m c T x w hT hx h0
