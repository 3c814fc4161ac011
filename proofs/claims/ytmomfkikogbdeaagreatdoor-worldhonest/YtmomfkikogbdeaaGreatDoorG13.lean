import Derived.Test.YtmomfkikogbdeaaGreatDoorH
import Derived.Test.YtmomfkikogbdeaaGreatDoorG12
open Go.Ending renaming returned->dA
open Go.IntKind renaming i64->J
open Go.Obj renaming cells->cZ
open Go.Value renaming int->E,slice->F,tuple->dB
set_option maxHeartbeats 6400000
set_option maxRecDepth 10000
namespace Go.Proofs.YtmomfkikogbdeaaGreatDoor
open Go.RowKit
theorem Zjp(p h k n:Int)(e:W9 p h k n=true):(Xi blockB [p,h,k,n]).size<=100:=by
 have:=Db e
 have h1:=Qo blockB [p,h,k,n] (λaa z=>by
  simp only[List.mem_cons,List.not_mem_nil,or_false] at z
  rcases z with rfl|rfl|rfl|rfl <;> omega)
 have h2:blockB.size=5:=rfl;simp only[List.length_cons,List.length_nil] at h1;omega
theorem Qi(p h k n:Int)(a m c T)(w:World)(hE:Env w)(hT:TxsAt w a m T)(hx:Yk (p,h,k,n,T)=0) :
  ZH 36 #[.agg #[E J p,E J h,E J k,E J n,F a m c]] w (dB #[.string (Wp (p,h,k,n,T)),E J 0]):=by
 obtain⟨f1,f2,f3,_,f5⟩:=Un hx;have hz:T.length=m:=hT.1;have hr:=Db f1;have cp:=Zjp p h k n f1;have cq:=T7 T f5;obtain⟨X,hX,z,bd⟩:=ka00 w [E J p,E J h,E J k,E J n,F a m c] 39;obtain⟨C1,aw,bs,HE⟩:=kh4 (Vc p h k n a m c T 0 X (hT.later z) hx) bd z (hE.later z);obtain⟨b,off,rfl,_,bi⟩:=(hT.later z).2 (by omega);have PT:=Zd (λW (hb:ZD X W)=>J4 b off m c T W (HE.later hb) hz (by omega) f5 (λi hi=>TxAt.kept _ _ _ _ _ hb (bi i hi)));have HO:=Zd (λW=>Dc p h k n (some ⟨b,off,none⟩) m c W);obtain⟨r,am⟩:=ZF (Xi blockB [p,h,k,n]);obtain⟨s,an⟩:=ZF (W3 T)
 have PR:=Zd (λW dc (hb:ZD X W) (Q:W.heap[dc]? = some (cZ [E J p,E J h,E J k,E J n].toArray 187 (0,0)))=>Qg blockB dc 0 4 4 [p,h,k,n] W (HE.later hb) (by decide) (by decide) rfl (lt_of_block Q) (λi hi=>by
  rcases (by omega:i=0\/i=1\/i=2\/i=3) with rfl|rfl|rfl|rfl
  ·exact Zb Q 0 _ rfl
  ·exact Zb Q 1 _ rfl
  ·exact Zb Q 2 _ rfl
  ·exact Zb Q 3 _ rfl) (λdd hz=>by
  simp only[List.mem_cons,List.not_mem_nil,or_false] at hz
  rcases hz with rfl|rfl|rfl|rfl <;> omega))
 have JN:=Zd (λW bt (hl:bt<W.heap.size) (cf:∀ i,i<m->W.cell? ⟨bt,i,none⟩=some (txV T i))=>(show Calls Tryz.prog 106 #[F (some ⟨bt,0,none⟩) m m,.string ⟨#[]⟩] W λe w'=>e = dA (.string (W3 T))/\ZD W w' by
  have cj:(T.map Zw).length=m:=by rw[List.length_map];exact hz
  have q:=Tryz.strings_Join bt 0 m (T.map Zw) ⟨#[]⟩ W (λj x hj=>by
   have bj:j<T.length:=by
    rcases Nat.lt_or_ge j T.length with h|h
    ·exact h
    ·rw[List.getElem?_eq_none (by simpa using h)] at hj;cases hj
   rw[Nat.zero_add,cf j (by omega)];simp[bj] at hj
   simp[txV,bj,hj]) hl (by omega) (by omega) (by
    have:(Lib.join ((T.map Zw).map (·.data.toList)) []).length=(W3 T).size:=(by rw[<-N8 T];rfl);show (Lib.join ((T.map Zw).map (·.data.toList)) []).length<=_;omega)
  rw[cj] at q
  change Calls _ _ _ _ λe w'=>e = dA (.string ⟨(Lib.join ((T.map Zw).map (·.data.toList)) []).toArray⟩)/\_ at q
  rw[N8] at q;exact q))
 have av:Hid (Wp (p,h,k,n,T)=(r++⟨#[10]⟩)++s):=by show _=_;unfold Wp;simp only;rw[am,an]
 rw[am] at PR cp;rw[an] at JN cq;have cn:(r++(⟨#[10]⟩:ByteArray)).size=r.size+1:=Uv r 10;clear am an hE hT hx bd z bi hr f1 f5 f2;obtain⟨r2,cm⟩:=ZF (r++(⟨#[10]⟩:ByteArray));rw[cm] at cn av;go_enter Tryz.func36,Tryz.ntmps36;go_wp2_with fail;rw[<-hX];clear hX;refine C1.mono ?_;rintro e w1 ⟨rfl,aj⟩;have bk:=ZE aj aw;obtain⟨c0,c1,c2,c3,c4,cl⟩:=kc5 bk;have bo:=Zd aj;clear aj bk C1;go_wp2_with fail;refine (HO _).mono ?_;rintro e w2 ⟨rfl,bf⟩;obtain⟨Y,hY,bh,ah⟩:=ka00 w2 [E J p,E J h,E J k,E J n] 187;have ae:=Zd (Zf (Zf bo bf) bh);have ap:=ZE ae aw;obtain⟨-,-,-,-,d4,dl⟩:=kc5 ap;have yl:=lt_of_block ah;obtain⟨bu,ct⟩:=kh2 ah ap;clear bf bh ah ap c0 c1 c2 c3 c4 cl;go_wp2_with fail;rw[<-hY];clear hY
 go_region_with (first
  | (go_at_call 105;refine (PR _ w2.heap.size (Zf ae (Zi _)) bu).mono ?_;rintro e w3 ⟨rfl,ak⟩;have e4:w3.cell? ⟨w.heap.size,4,none⟩=some (F (some ⟨b,off,none⟩) m c):=Ze ak (Ze (Zi _) d4);have el:w.heap.size<w3.heap.size:=World.block_lt_of_cell? _ _ e4;have aq:=Zd (Zf (Zf ae (Zi _)) ak);clear ak)
  | (go_at_call 87;refine (PT _ aq).mono ?_;rintro e w4 ⟨rfl,al⟩;have au:=Zd al;have bq:=Zd (Zf aq al.bel);clear al)
  | (go_at_call 106;refine (JN _ _ au.lt (λi hi=>au.cells (Nat.le_refl _) i hi)).mono ?_;rintro e w5 ⟨rfl,bg⟩;have br:=Zd (Zf bq bg);clear bg))
 all_goals
  go_wp2;go_ret2;exact⟨by rw[Za av];rfl,Zf bs br⟩
theorem Jo(p h k n:Int)(a m c T)(x:Int)(w:World)(hT:TxsAt w a m T)(hx:Yk (p,h,k,n,T)=x)(h0:x≠0) :
  ZH 36 #[.agg #[E J p,E J h,E J k,E J n,F a m c]] w (dB #[.string ⟨#[]⟩,E J x]):=by
 obtain⟨X,z⟩:=ZG (w.alloc (cZ #[E J p,E J h,E J k,E J n,F a m c] 39));have Q:ZD w X:=by rw[z];exact Zh _ _
 obtain⟨C1,ac⟩:=kh2 (Vc p h k n a m c T x X (hT.later Q) hx) Q;have gx:(x != 0)=true:=by simp[h0]
 clear hT hx h0 Q;go_enter Tryz.func36,Tryz.ntmps36;go_wp2_with fail;rw[<-z];clear z;refine C1.mono ?_;rintro e w1 ⟨rfl,aa⟩;have ab:=Zd (Zf ac aa);clear aa;go_wp2;go_ret2;exact⟨rfl,Za ab⟩
theorem Ew(p h k n:Int)(a m c T)(t:ByteArray)(x:Int)(w:World)(hE:Env w)(hT:TxsAt w a m T)(hx:Yk (p,h,k,n,T)=x)(z:Ev (p,h,k,n,T)=t) :
  ZH 36 #[.agg #[E J p,E J h,E J k,E J n,F a m c]] w (dB #[.string t,E J x]):=by
 unfold Ev at z;by_cases h0:x=0
 ·subst h0;rw[if_pos hx] at z;subst z;exact Qi p h k n a m c T w hE hT hx
 ·rw[if_neg (by rw[hx];exact h0)] at z;subst z;exact Jo p h k n a m c T x w hT hx h0
