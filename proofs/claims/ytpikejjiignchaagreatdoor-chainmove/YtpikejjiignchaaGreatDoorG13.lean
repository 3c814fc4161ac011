import Derived.Test.YtpikejjiignchaaGreatDoorH
import Derived.Test.YtpikejjiignchaaGreatDoorG12
open Go renaming lt_of_block->aA
open Go.Ending renaming returned->dX
open Go.IntKind renaming i64->J
open Go.Obj renaming cells->dW
open Go.Value renaming int->E,slice->F,tuple->dY
set_option maxHeartbeats 6400000
set_option maxRecDepth 10000
namespace Go.Proofs.YtpikejjiignchaaGreatDoor
open Go.RowKit
theorem Zkr(p h k n:Int)(e:Wj p h k n=true):(Vl blockB [p,h,k,n]).size<=100:=by
 have:=Ao e
 have h1:=Ui blockB [p,h,k,n] (λaa z=>by
  simp only[List.mem_cons,List.not_mem_nil,or_false] at z
  rcases z with rfl|rfl|rfl|rfl <;> omega)
 have h2:blockB.size=5:=rfl;simp only[List.length_cons,List.length_nil] at h1;omega
theorem Fu(p h k n:Int)(a m c T)(w:World)(hE:Env w)(hT:TxsAt w a m T)(hx:Xo (p,h,k,n,T)=0) :
  ZH 79 #[.agg #[E J p,E J h,E J k,E J n,F a m c]] w (dY #[.string (Qe (p,h,k,n,T)),E J 0]):=by
 obtain⟨f1,f2,f3,_,f5⟩:=Uo hx;have hz:T.length=m:=hT.1;have hr:=Ao f1;have cj:=Zkr p h k n f1;have cl:=Qb T f5;obtain⟨X,hX⟩:=ZG (w.alloc (dW #[E J p,E J h,E J k,E J n,F a m c] 68));have O:ZD w X:=by rw[hX];exact Zg _ _
 have be:X.heap[w.heap.size]? = some (dW [E J p,E J h,E J k,E J n,F a m c].toArray 68 (0,0)):=by rw[hX];exact Z8 _ _ _ _ _ _ _
 have C1:=Zb (R0 p h k n a m c T 0 X (hT.later O) hx);have az:=Zb be;have br:=Zb O;have HE:=Zb (hE.later O);obtain⟨b,off,rfl,_,bi⟩:=(hT.later O).2 (by omega);have PT:=Zb (λW (hb:ZD X W)=>Kj b off m c T W (HE.later hb) hz (by omega) f5 (λi hi=>TxAt.kept _ _ _ _ _ hb (bi i hi)));have HO:=Zb (λW=>Ap p h k n (some ⟨b,off,none⟩) m c W);obtain⟨r,aq⟩:=ZF (Vl blockB [p,h,k,n]);obtain⟨s,ar⟩:=ZF (Yw T)
 have PR:=Zb (λW cz (hb:ZD X W) (hh:W.heap[cz]? = some (dW [E J p,E J h,E J k,E J n].toArray 201 (0,0)))=>Jk blockB cz 0 4 4 [p,h,k,n] W (HE.later hb) (by decide) (by decide) rfl (aA hh) (λi hi=>by
  rcases (by omega:i=0\/i=1\/i=2\/i=3) with rfl|rfl|rfl|rfl
  ·exact Zd hh 0 _ rfl
  ·exact Zd hh 1 _ rfl
  ·exact Zd hh 2 _ rfl
  ·exact Zd hh 3 _ rfl) (λdb hz=>by
  simp only[List.mem_cons,List.not_mem_nil,or_false] at hz
  rcases hz with rfl|rfl|rfl|rfl <;> omega))
 have JN:=Zb (λW cy (hl:cy<W.heap.size) (cc:∀ i,i<m->W.cell? ⟨cy,i,none⟩=some (txV T i))=>(show Calls Tryz.prog 127 #[F (some ⟨cy,0,none⟩) m m,.string ⟨#[]⟩] W λe w'=>e = dX (.string (Yw T))/\ZD W w' by
  have ce:(T.map Ye).length=m:=by rw[List.length_map];exact hz
  have q:=Tryz.strings_Join cy 0 m (T.map Ye) ⟨#[]⟩ W (λj x hj=>by
   have bj:j<T.length:=by
    rcases Nat.lt_or_ge j T.length with h|h
    ·exact h
    ·rw[List.getElem?_eq_none (by simpa using h)] at hj;cases hj
   rw[Nat.zero_add,cc j (by omega)];simp[bj] at hj
   simp[txV,bj,hj]) hl (by omega) (by omega) (by
    have:(Lib.join ((T.map Ye).map (·.data.toList)) []).length=(Yw T).size:=(by rw[<-Al T];rfl);show (Lib.join ((T.map Ye).map (·.data.toList)) []).length<=_;omega)
  rw[ce] at q
  change Calls _ _ _ _ λe w'=>e = dX (.string ⟨(Lib.join ((T.map Ye).map (·.data.toList)) []).toArray⟩)/\_ at q
  rw[Al] at q;exact q))
 have ay:Hid (Qe (p,h,k,n,T)=(r++⟨#[10]⟩)++s):=by show _=_;unfold Qe;simp only;rw[aq,ar]
 rw[aq] at PR cj;rw[ar] at JN cl;have ci:(r++(⟨#[10]⟩:ByteArray)).size=r.size+1:=Qm r 10;clear aq ar hE hT hx be O bi hr f1 f5 f2;obtain⟨r2,cg⟩:=ZF (r++(⟨#[10]⟩:ByteArray));rw[cg] at ci ay;go_enter Tryz.func79,Tryz.ntmps79;go_wp2_with fail;rw[<-hX];clear hX;refine C1.mono ?_;rintro e w1 ⟨rfl,an⟩;have z:=ZE an az;have c0:=Zd z 0 _ rfl;have c1:=Zd z 1 _ rfl;have c2:=Zd z 2 _ rfl;have c3:=Zd z 3 _ rfl;have c4:=Zd z 4 _ rfl;have da:=aA z;have bn:=Zb an;clear an z;go_wp2_with fail;refine (HO _).mono ?_;rintro e w2 ⟨rfl,bf⟩;obtain⟨Y,hY⟩:=ZG (w2.alloc (dW #[E J p,E J h,E J k,E J n] 201));have bh:ZD w2 Y:=by rw[hY];exact Zg _ _
 have am:Y.heap[w2.heap.size]? = some (dW [E J p,E J h,E J k,E J n].toArray 201 (0,0)):=by rw[hY];exact Se _ _ _ _ _ _
 have aj:=Zb (Ze (Ze bn bf) bh);have ai:=ZE aj az;have d4:=Zd ai 4 _ rfl;have dl:=aA ai;have yl:=aA am;have bt:=Zb am;have cm:=Zb ai;clear bf bh am ai c0 c1 c2 c3 c4 da;go_wp2_with fail;rw[<-hY];clear hY
 go_region_with (first
  | (go_at_call 126;refine (PR _ w2.heap.size (Ze aj (Zh _)) bt).mono ?_;rintro e w3 ⟨rfl,ao⟩;have e4:w3.cell? ⟨w.heap.size,4,none⟩=some (F (some ⟨b,off,none⟩) m c):=Zc ao (Zc (Zh _) d4);have el:w.heap.size<w3.heap.size:=World.block_lt_of_cell? _ _ e4;have av:=Zb (Ze (Ze aj (Zh _)) ao);clear ao)
  | (go_at_call 81;refine (PT _ av).mono ?_;rintro e w4 ⟨rfl,ap⟩;have ax:=Zb ap;have bo:=Zb (Ze av ap.bel);clear ap)
  | (go_at_call 127;refine (JN _ _ ax.lt (λi hi=>ax.cells (Nat.le_refl _) i hi)).mono ?_;rintro e w5 ⟨rfl,bg⟩;have bq:=Zb (Ze bo bg);clear bg))
 all_goals
  go_wp2;go_ret2;exact⟨by rw[Za ay];rfl,Ze br bq⟩
theorem C8(p h k n:Int)(a m c T)(x:Int)(w:World)(hT:TxsAt w a m T)(hx:Xo (p,h,k,n,T)=x)(h0:x≠0) :
  ZH 79 #[.agg #[E J p,E J h,E J k,E J n,F a m c]] w (dY #[.string ⟨#[]⟩,E J x]):=by
 obtain⟨X,z⟩:=ZG (w.alloc (dW #[E J p,E J h,E J k,E J n,F a m c] 68));have O:ZD w X:=by rw[z];exact Zg _ _
 have C1:=Zb (R0 p h k n a m c T x X (hT.later O) hx);have af:=Zb O;have gx:(x != 0)=true:=by simp[h0]
 clear hT hx h0 O;go_enter Tryz.func79,Tryz.ntmps79;go_wp2_with fail;rw[<-z];clear z;refine C1.mono ?_;rintro e w1 ⟨rfl,ab⟩;have ae:=Zb (Ze af ab);clear ab;go_wp2;go_ret2;exact⟨rfl,Za ae⟩
