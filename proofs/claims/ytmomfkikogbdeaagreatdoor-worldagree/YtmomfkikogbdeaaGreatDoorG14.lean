import Derived.Test.YtmomfkikogbdeaaGreatDoorH
import Derived.Test.YtmomfkikogbdeaaGreatDoorG13
open Go.Ending renaming returned->dF
open Go.IntKind renaming i64->J
open Go.Obj renaming cells->dE
open Go.Value renaming int->E,slice->F,tuple->dG
set_option maxHeartbeats 6400000
set_option maxRecDepth 10000
namespace Go.Proofs.YtmomfkikogbdeaaGreatDoor
open Go.RowKit
theorem Zjc(p h k n:Int)(e:Wk p h k n=true):(Yt blockB [p,h,k,n]).size<=100:=by
 have:=Db e
 have h1:=Qc blockB [p,h,k,n] (λz hz=>by
  simp only[List.mem_cons,List.not_mem_nil,or_false] at hz
  rcases hz with rfl|rfl|rfl|rfl <;> omega)
 have h2:blockB.size=5:=rfl;simp only[List.length_cons,List.length_nil] at h1;omega
theorem U6(p h k n:Int)(a m c T)(w:World)(hE:Env w)(hT:TxsAt w a m T)(hx:Yq (p,h,k,n,T)=0) :
  ZH 36 #[.agg #[E J p,E J h,E J k,E J n,F a m c]] w (dG #[.string (Yw (p,h,k,n,T)),E J 0]):=by
 obtain⟨f1,f2,f3,_,f5⟩:=Ww hx;have hz:T.length=m:=hT.1;have hr:=Db f1;have cu:=Zjc p h k n f1;have cw:=Tv T f5;obtain⟨X,hX,aa,bg⟩:=ka00 w [E J p,E J h,E J k,E J n,F a m c] 39;obtain⟨C1,az,bv,HE⟩:=kh4 (W3 p h k n a m c T 0 X (hT.later aa) hx) bg aa (hE.later aa);obtain⟨b,off,rfl,_,bo⟩:=(hT.later aa).2 (by omega);have PT:=Zd (λW (hb:ZD X W)=>Jm b off m c T W (HE.later hb) hz (by omega) f5 (λi hi=>TxAt.kept _ _ _ _ _ hb (bo i hi)));have HO:=Zd (λW=>Rf p h k n (some ⟨b,off,none⟩) m c W);obtain⟨r,aq⟩:=ZF (Yt blockB [p,h,k,n]);obtain⟨s,ar⟩:=ZF (Xr T)
 have PR:=Zd (λW bh (hb:ZD X W) (hh:W.heap[bh]? = some (dE [E J p,E J h,E J k,E J n].toArray 187 (0,0)))=>U4 blockB bh 0 4 4 [p,h,k,n] W (HE.later hb) (by decide) (by decide) rfl (lt_of_block hh) (λi hi=>by
  rcases (by omega:i=0\/i=1\/i=2\/i=3) with rfl|rfl|rfl|rfl
  ·exact Zb hh 0 _ rfl
  ·exact Zb hh 1 _ rfl
  ·exact Zb hh 2 _ rfl
  ·exact Zb hh 3 _ rfl) (λz hz=>by
  simp only[List.mem_cons,List.not_mem_nil,or_false] at hz
  rcases hz with rfl|rfl|rfl|rfl <;> omega))
 have JN:=Zd (λW de (hl:de<W.heap.size) (cl:∀ i,i<m->W.cell? ⟨de,i,none⟩=some (txV T i))=>(show Calls Tryz.prog 106 #[F (some ⟨de,0,none⟩) m m,.string ⟨#[]⟩] W λe w'=>e = dF (.string (Xr T))/\ZD W w' by
  have cn:(T.map Zy).length=m:=by rw[List.length_map];exact hz
  have q:=Tryz.strings_Join de 0 m (T.map Zy) ⟨#[]⟩ W (λj x hj=>by
   have bq:j<T.length:=by
    rcases Nat.lt_or_ge j T.length with h|h
    ·exact h
    ·rw[List.getElem?_eq_none (by simpa using h)] at hj;cases hj
   rw[Nat.zero_add,cl j (by omega)];simp[bq] at hj
   simp[txV,bq,hj]) hl (by omega) (by omega) (by
    have:(Lib.join ((T.map Zy).map (·.data.toList)) []).length=(Xr T).size:=(by rw[<-N6 T];rfl);show (Lib.join ((T.map Zy).map (·.data.toList)) []).length<=_;omega)
  rw[cn] at q
  change Calls _ _ _ _ λe w'=>e = dF (.string ⟨(Lib.join ((T.map Zy).map (·.data.toList)) []).toArray⟩)/\_ at q
  rw[N6] at q;exact q))
 have ay:Hid (Yw (p,h,k,n,T)=(r++⟨#[10]⟩)++s):=by show _=_;unfold Yw;simp only;rw[aq,ar]
 rw[aq] at PR cu;rw[ar] at JN cw;have ct:(r++(⟨#[10]⟩:ByteArray)).size=r.size+1:=Ue r 10;clear aq ar hE hT hx bg aa bo hr f1 f5 f2;obtain⟨r2,cq⟩:=ZF (r++(⟨#[10]⟩:ByteArray));rw[cq] at ct ay;go_enter Tryz.func36,Tryz.ntmps36;go_wp2_with fail;rw[<-hX];clear hX;refine C1.mono ?_;rintro e w1 ⟨rfl,am⟩;have br:=ZE am az;obtain⟨c0,c1,c2,c3,c4,df⟩:=kc5 br;have bs:=Zd am;clear am br C1;go_wp2_with fail;refine (HO _).mono ?_;rintro e w2 ⟨rfl,bi⟩;obtain⟨Y,hY,bk,ak⟩:=ka00 w2 [E J p,E J h,E J k,E J n] 187;have ag:=Zd (Zf (Zf bs bi) bk);have au:=ZE ag az;obtain⟨-,-,-,-,d4,dl⟩:=kc5 au;have yl:=lt_of_block ak;obtain⟨bz,cx⟩:=kh2 ak au;clear bi bk ak au c0 c1 c2 c3 c4 df;go_wp2_with fail;rw[<-hY];clear hY
 go_region_with (first
  | (go_at_call 105;refine (PR _ w2.heap.size (Zf ag (Zi _)) bz).mono ?_;rintro e w3 ⟨rfl,an⟩;have e4:w3.cell? ⟨w.heap.size,4,none⟩=some (F (some ⟨b,off,none⟩) m c):=Ze an (Ze (Zi _) d4);have el:w.heap.size<w3.heap.size:=World.block_lt_of_cell? _ _ e4;have av:=Zd (Zf (Zf ag (Zi _)) an);clear an)
  | (go_at_call 87;refine (PT _ av).mono ?_;rintro e w4 ⟨rfl,ap⟩;have ax:=Zd ap;have bt:=Zd (Zf av ap.bel);clear ap)
  | (go_at_call 106;refine (JN _ _ ax.lt (λi hi=>ax.cells (Nat.le_refl _) i hi)).mono ?_;rintro e w5 ⟨rfl,bj⟩;have bu:=Zd (Zf bt bj);clear bj))
 all_goals
  go_wp2;go_ret2;exact⟨by rw[Za ay];rfl,Zf bv bu⟩
theorem Jd(p h k n:Int)(a m c T)(x:Int)(w:World)(hT:TxsAt w a m T)(hx:Yq (p,h,k,n,T)=x)(h0:x≠0) :
  ZH 36 #[.agg #[E J p,E J h,E J k,E J n,F a m c]] w (dG #[.string ⟨#[]⟩,E J x]):=by
 obtain⟨X,hX⟩:=ZG (w.alloc (dE #[E J p,E J h,E J k,E J n,F a m c] 39));have ab:ZD w X:=by rw[hX];exact Zh _ _
 obtain⟨C1,ae⟩:=kh2 (W3 p h k n a m c T x X (hT.later ab) hx) ab;have gx:(x != 0)=true:=by simp[h0]
 clear hT hx h0 ab;go_enter Tryz.func36,Tryz.ntmps36;go_wp2_with fail;rw[<-hX];clear hX;refine C1.mono ?_;rintro e w1 ⟨rfl,ac⟩;have ad:=Zd (Zf ae ac);clear ac;go_wp2;go_ret2;exact⟨rfl,Za ad⟩
theorem E7(p h k n:Int)(a m c T)(t:ByteArray)(x:Int)(w:World)(hE:Env w)(hT:TxsAt w a m T)(hx:Yq (p,h,k,n,T)=x)(ht:M5 (p,h,k,n,T)=t) :
  ZH 36 #[.agg #[E J p,E J h,E J k,E J n,F a m c]] w (dG #[.string t,E J x]):=by
 unfold M5 at ht;by_cases h0:x=0
 ·subst h0;rw[if_pos hx] at ht;subst ht;exact U6 p h k n a m c T w hE hT hx
 ·rw[if_neg (by rw[hx];exact h0)] at ht;subst ht;exact Jd p h k n a m c T x w hT hx h0
