import Derived.Test.YtbddijbmepdliaaGreatDoorH
import Derived.Test.YtbddijbmepdliaaGreatDoorG3
import Derived.Laws.AppendOwnNone
import Derived.Deep.AppendLies
open Option renaming none->aD,some->dG
open Go.Proofs.Tryz
open Bool renaming and_eq_true->aX
open Go renaming info_parts->bX,maxLen->aT,lt_of_block->aA,TypeId->aY,DataW->cQ,heap_alloc_new->aG,bodyPost_ret->aL
open Go.Ending renaming returned->dB
open Go.IntKind renaming i64->J
open Go.Obj renaming cells->dA
open Go.Proofs.Tryz renaming prog->aB,underlying22->cU,underlying3->aN,underlying25->cR
open Go.RowKit.Below renaming heap_alloc->bJ
open Go.Value renaming string->cF,int->E,slice->F,tuple->dC,pointer->dE,bool->dF
open Go.World renaming block_lt_of_cell?->aC,cell?->bF,news_of_block->bI,cell?_of_block->bU,ownsRow->cP
open Go.World.ownsRow renaming cellAt->bH
open List renaming getElem_mem->aQ,take_succ_eq_append_getElem->aH,length_take->aV,take_of_length_le->aM,mem_cons->aW,length_cons->cK,length_map->cO,drop_eq_getElem_cons->aK,drop_of_length_le->bA,mem_append->bM,length_eq_zero_iff->aJ,map_append->bN,length_append->bL,getElem?_eq_some_iff->cD
open Nat renaming zero_le->aI,le_refl->aE,zero_add->bO,le_trans->aO,lt_of_lt_of_le->aF
open Prod.mk renaming injEq->aR
set_option maxHeartbeats 12800000
set_option maxRecDepth 10000
namespace Go.Proofs.YtbddijbmepdliaaGreatDoor
open Go.RowKit
theorem Sm(h:Int)(ai ao ni ci no co I O)(w:World)(hE:Env w)(hI:InsAt w ai ni I)(hO:OutsAt w ao no O)(sI:SlOk ai ni ci)(hx:Zp (h,I,O)=0) :
    ZH 115 #[.agg #[E J h,F ai ni ci,F ao no co]] w (dC #[.string (Zr (h,I,O)),E J 0]):=by
  have ok:=TxOk.of hx;have hb:=Zh w (dA #[E J h,F ai ni ci,F ao no co] 50);obtain⟨n0,n1,n2⟩:=Vd w (E J h) (F ai ni ci) (F ao no co) 50;obtain⟨HB,C⟩:=kh2 hb (Qo h ai ao ni ci no co I O _ (hI.later hb) (hO.later hb) sI);rw[hx] at C;obtain⟨N0,N1,N2⟩:=kh3 n0 n1 n2;have dg:ni<=6:=by have:=ok.ins6;have:=hI.1;simp only at *;omega
  have dt:no<=6:=by have:=ok.outs6;have:=hO.1;simp only at *;omega
  have du:0<no:=by have:=ok.dG;have:=hO.1;simp only at *;omega
  obtain⟨HI,HO,HE,HG,aw,ca⟩:=kh6 hI hO hE ok.hgt ok.ins ok.outs;go_enter func115,ntmps115;go_wp2_with fail;refine C.mono ?_;rintro e w2 ⟨rfl,ak⟩;have m0:=Ze ak N0;obtain⟨M1,M2⟩:=kh2 (Ze ak N1) (Ze ak N2);have s2:w.heap.size<w2.heap.size:=aC _ _ m0;have ce:=Zf HB ak;have ba:=Zh w2 (dA #[E J h] 3)
  have R:=Zb (Qu txB w2.heap.size 0 1 1 [h] (w2.alloc (dA #[E J h] 3)) (HE.later (Zf ce ba)) (by decide) (by decide) rfl (by simp) (λi hi=>by
    have e:i=0:=(by omega);subst e;exact Jp w2 (E J h) 3) (λz hz=>by have:=Za HG;simp at hz;omega))
  obtain⟨cj,dp,cn⟩:=kh3 ba ak ce;have hs:=Te h HG
  have di:(Va txB [h]).size<=29:=by
    have e:Vn h=Va txB [h]++⟨#[10]⟩:=rfl;rw[e,Qc] at hs;omega
  obtain⟨T0,cc⟩:=ZF (Va txB [h]);have ct:Hid (T0++⟨#[10]⟩=Vn h):=by show _=_;rw[<-cc];rfl
  rw[cc] at R di;go_wp2_with fail;refine R.mono ?_;rintro e w3 ⟨rfl,de⟩;have bj:=Zf cj de;have m1:=Ze bj M1;have cy:=Zb (Ze bj M2);have s3:w.heap.size<w3.heap.size:=aC _ _ m1;have cp:=Zb (Zf cn bj);go_wp2
  go_loopw [5,23] (λs i wr=>∃ k:Nat,k<=ni/\i = E J k/\s = .string (Xa h (I.take k))/\ZD w3 wr) (λ_ i _=>ni - (intOf i).toNat)
  case atStart=>exact⟨0,aI _,rfl,by rw[Za ct];rfl,Below.refl _ _⟩
  case round=>
    obtain⟨k,hk,rfl,rfl,bq⟩:=hrel;have bx:=Zb bq;have bs:=Zf cp bq;have cm:=Zb bs;by_cases bv:k<ni
    · have ag:k<I.length:=by rw[(Za HI).1];exact bv
      obtain⟨b,off,rfl,df,bu⟩:=(HI.later bs).2 (by omega);obtain⟨g1,g2,ka,kn,kc,g3,g4,_⟩:=bu k ag;have ac:=aw I[k] (aQ ag);have hS:=Pj h (I.take k) I[k];rw[<-aH ag] at hS
      have bh:(Xa h (I.take k)).size<=3000:=by
        have:=Vm h (I.take k) HG (λx hx=>aw x (List.mem_of_mem_take hx));rw[aV] at this;omega
      have aj:=Hd I[k] ac;obtain⟨x,hx⟩:=ZF (I[k]);rw[hx] at g1 g2 g4 ac hS aj;obtain⟨x1,x2,am⟩:=x;simp only at g1 g2 g3 g4;have hp:=(J9 _).1 ac.1;simp only at hp;obtain⟨T,hT⟩:=ZF (Xa h (I.take k));obtain⟨X,hX⟩:=ZF (Ty (x1,x2,am));rw[hT,hX] at hS;rw[hT] at bh ⊢;rw[hX] at aj;have HS:=Zb hS;have b1:=Zh wr (dA #[E J x1,E J x2,F ka kn kc] 90);have b2:=Zh (wr.alloc (dA #[E J x1,E J x2,F ka kn kc] 90)) (dA #[E J x1,E J x2] 3);have ad:=Zf b1 b2;have t2:=U5 (wr.alloc (dA #[E J x1,E J x2,F ka kn kc] 90)) (E J x1) (E J x2) 3;have be:(wr.alloc (dA #[E J x1,E J x2,F ka kn kc] 90)).heap.size=wr.heap.size+1:=(by simp);rw[be] at t2
      have PL:=Zb (Pb ka kn kc am inB (wr.heap.size+1) 0 2 2 [x1,x2] X ((wr.alloc (dA #[E J x1,E J x2,F ka kn kc] 90)).alloc (dA #[E J x1,E J x2] 3)) ((HE.later bs).later ad) (g4.later ad) ac.2 (by decide) (by decide) rfl (by simp) (λi hi=>by
        have e:i=0\/i=1:=by omega
        rcases e with rfl|rfl
        · exact t2.1
        · exact t2.2) (λz hz=>by simp at hz;omega) hX)
      have ar:=Zb ad;go_wp2_with fail;refine PL.mono ?_;rintro e w4 ⟨rfl,bo⟩;have au:=Zb (bx.trans ((Zf ar bo).mono bx.size));go_wp2;go_roundw
      case rel=>exact⟨k+1,by omega,by go_num,by rw[Za HS],Za au⟩
      case measure=>simp[intOf];omega
    · have e:k=ni:=by omega
      subst e;have HT:Hid (Xa h (I.take k)=Xa h I):=(by show _=_;rw[aM (by rw[(Za HI).1];exact aE _)]);have bh:=Vm h I HG aw;have dq:I.length<=6:=(by rw[(Za HI).1];exact dg);obtain⟨T1,cd⟩:=ZF (Xa h I);rw[cd] at HT bh;have cu:=Zb cd;have m2:=Ze bq cy;have s4:w.heap.size<wr.heap.size:=aC _ _ m2;rw[Za HT];go_wp2
      go_loopw [5,43] (λs i wz=>∃ j:Nat,j<=no/\i = E J j/\s = .string (Wb T1 (O.take j))/\ZD wr wz) (λ_ i _=>no - (intOf i).toNat)
      case atStart=>exact⟨0,aI _,rfl,rfl,Below.refl _ _⟩
      case round=>
        obtain⟨j,hj,rfl,rfl,cf⟩:=hrel;have bz:=Zb cf;have br:=Zf cm cf;have cl:=Zb br;by_cases bv:j<no
        · have ag:j<O.length:=by rw[(Za HO).1];exact bv
          obtain⟨b,off,rfl,df,bu⟩:=(HO.later br).2 (by omega);obtain⟨g1,ka,kn,kc,g3,g4,_⟩:=bu j ag;have ac:=ca O[j] (aQ ag);have hS:=Tc T1 (O.take j) O[j];rw[<-aH ag] at hS
          have dd:(Wb T1 (O.take j)).size<=6000:=by
            have:=Qv T1 (O.take j) (λx hx=>ca x (List.mem_of_mem_take hx));rw[aV] at this;omega
          have aj:=Pd O[j] ac;obtain⟨x,hx⟩:=ZF (O[j]);rw[hx] at g1 g4 ac hS aj;obtain⟨x1,am⟩:=x;simp only at g1 g3 g4;have hp:=ac.1;simp only at hp;obtain⟨T,hT⟩:=ZF (Wb T1 (O.take j));obtain⟨X,hX⟩:=ZF (Jo (x1,am));rw[hT,hX] at hS;rw[hT] at dd ⊢;rw[hX] at aj;have HS:=Zb hS;have b1:=Zh wr (dA #[E J x1,F ka kn kc] 92);have b2:=Zh (wr.alloc (dA #[E J x1,F ka kn kc] 92)) (dA #[E J x1] 3);have ad:=Zf b1 b2;have t2:=Jp (wr.alloc (dA #[E J x1,F ka kn kc] 92)) (E J x1) 3;have be:(wr.alloc (dA #[E J x1,F ka kn kc] 92)).heap.size=wr.heap.size+1:=(by simp);rw[be] at t2
          have PL:=Zb (Pb ka kn kc am Zpr (wr.heap.size+1) 0 1 1 [x1] X ((wr.alloc (dA #[E J x1,F ka kn kc] 92)).alloc (dA #[E J x1] 3)) ((HE.later br).later ad) (g4.later ad) ac.2 (by decide) (by decide) rfl (by simp) (λi hi=>by
            have e:i=0:=(by omega);subst e;exact t2) (λz hz=>by simp at hz;omega) hX)
          have ar:=Zb ad;go_wp2_with fail;refine PL.mono ?_;rintro e w4 ⟨rfl,bo⟩;have au:=Zb (bz.trans ((Zf ar bo).mono bz.size));go_wp2;go_roundw
          case rel=>exact⟨j+1,by omega,by go_num,by rw[Za HS],Za au⟩
          case measure=>simp[intOf];omega
        · have HF:Hid (Wb T1 (O.take j)=Zr (h,I,O)):=by
            show _=_;rw[aM (by rw[(Za HO).1];omega),<-Za cu];rfl
          go_wp2;go_ret2;exact⟨Cn HF,Za cl⟩
theorem Kx(h:Int)(ai ao ni ci no co I O)(t:ByteArray)(x:Int)(w:World)(hE:Env w)(hI:InsAt w ai ni I)(hO:OutsAt w ao no O)(sI:SlOk ai ni ci)(hx:Zp (h,I,O)=x)(ht:txT (h,I,O)=t) :
    ZH 115 #[.agg #[E J h,F ai ni ci,F ao no co]] w (dC #[.string t,E J x]):=by
  subst ht;by_cases h0:Zp (h,I,O)=0
  · rw[h0] at hx
    subst hx;unfold txT;rw[if_pos h0];exact Sm h ai ao ni ci no co I O w hE hI hO sI h0
  · unfold txT
    rw[if_neg h0];exact Br h ai ao ni ci no co I O x w hI hO sI hx (by rw[<-hx];exact h0)
def blockB:ByteArray:=⟨#[98,108,111,99,107]⟩
def Yv:List TxD->ByteArray
  | []=>⟨#[]⟩
  | t :: r=>Zr t++Yv r
def Xl(b:Zk):ByteArray:=(Va blockB [b.1,b.2.1,b.2.2.1,b.2.2.2.1]++⟨#[10]⟩)++Yv b.2.2.2.2
def Se(b:Zk):ByteArray:=if Yu b=0 then Xl b else ⟨#[]⟩
theorem Q8(h:Int):∀ (i:Nat) (T:List TxD),Yx h i T=0->∀ t∈T,Zp t=0
  | _,[],_,t,ht=>by cases ht
  | i,x :: r,e,t,ht=>by
    unfold Yx at e;split at e
    · rename_i q;exact absurd e q
    · rename_i q
      split at e
      · cases e
      · rcases aW.1 ht with rfl|ht
        · exact Classical.not_not.1 q
        · exact Q8 h (i+1) r e t ht
theorem Fi{p h k n:Int}(e:Xp p h k n=true):0<=p/\p<=120/\1<=h/\h<=1000/\1<=k/\k<=1000/\0<=n/\n<=1000000000:=by
  unfold Xp at e;rw[aX,aX,aX,aX,aX,aX,aX] at e;obtain⟨⟨a,b⟩,⟨c,d⟩,⟨e,f⟩,g,h⟩:=e;exact⟨of_decide_eq_true a,of_decide_eq_true b,of_decide_eq_true c,of_decide_eq_true d,of_decide_eq_true e,of_decide_eq_true f,of_decide_eq_true g,of_decide_eq_true h⟩
theorem Vi{p h k n:Int}{T:List TxD}(e:Yu (p,h,k,n,T)=0):Xp p h k n=true/\0<T.length/\T.length<=4/\Yx h 0 T=0/\(∀ t∈T,Zp t=0):=by
  unfold Yu at e;simp only at e;split at e
  · cases e
  rename_i q1;split at e
  · cases e
  rename_i q2;split at e
  · cases e
  rename_i q3;exact⟨by cases q:Xp p h k n with|true=>rfl|false=>exact absurd q q1,by omega,by omega,e,Q8 h 0 T e⟩
theorem J1{α : Type}:∀ (L:List (List α)),([]:List α).intercalate L=L.flatten
  | []=>rfl
  | [x]=>by simp[List.intercalate]
  | x :: y :: r=>by
    have:=J1 (y :: r);simp[List.intercalate] at this ⊢;exact this
theorem Bq(t)(h:Zp t=0):(Zr t).size<=6000:=by
  have ok:=TxOk.of h;have h1:=Qv (Xa t.1 t.2.1) t.2.2 ok.outs;have h2:=Vm t.1 t.2.1 ok.hgt ok.ins;have h3:=ok.ins6;have h4:=ok.outs6;unfold Zr;omega
theorem Uy:∀ (T:List TxD),(∀ t∈T,Zp t=0)->(Yv T).size<=6000*T.length
  | [],_=>by simp[Yv];rfl
  | t :: r,h=>by
    have h1:=Bq t (h t (List.mem_cons_self ..));have h2:=Uy r (λx hx=>h x (List.mem_cons_of_mem _ hx));rw[Yv,ByteArray.size_append,cK];omega
theorem Sk:∀ (T:List TxD),(Yv T).data.toList=((T.map Zr).map (·.data.toList)).flatten
  | []=>rfl
  | t :: r=>by
    rw[Yv,ByteArray.data_append,Array.toList_append,Sk r];rfl
theorem Ff(T:List TxD):(⟨(Lib.join ((T.map Zr).map (·.data.toList)) []).toArray⟩:ByteArray)=Yv T:=by
  refine Qy ?_;rw[Sk];show Lib.join _ _=_;unfold Lib.join;exact J1 _
def txV(T:List TxD)(i:Nat):Value:=.string (Zr (T.getD i (0,[],[])))
theorem Gw(b off m c:Nat)(T:List TxD)(w:World)(hE:Env w)(hz:T.length=m)(hm:m<=4)(aw:∀ t∈T,Zp t=0)(hc:∀ i (h:i<T.length),TxAt w b (off+i*3) T[i]) :
    Calls aB 79 #[F (dG ⟨b,off,aD⟩) m c] w λe w'=>e = dB (F (dG ⟨w.heap.size,0,aD⟩) m m)/\FillV w.heap.size 9 m (txV T) w w' m:=by
  obtain⟨i0,hi,bx,bz,ca⟩:=bX Tryz.info9;obtain⟨HE,HC,HZ,HK⟩:=kh4 hE hc hz aw;clear hE hc hz aw;go_enter func79,ntmps79
  go_wp2_with (at_make;refine wpList_make_full _ rfl _ _ 22 rfl w.heap.size 9 i0 (.string ⟨#[]⟩) 1 cU hi bx bz .i64 .i64 _ _ m rfl rfl rfl rfl (by rw[ca];omega) (by unfold aT;omega) (aE _) ?_;intro w2 bd ax)
  have be:FillV w.heap.size 9 m (txV T) w w2 0:=⟨⟨_,bd,λj hj=>absurd hj (by omega)⟩,(Below.refl _ _).grown ax (aE _) (λk h=>by cases h)⟩;have bs:=Zb be;clear be bd ax
  go_loopw [11] (λi wr=>∃ k:Nat,k<=m/\i = E J k/\FillV w.heap.size 9 m (txV T) w wr k) (λi _=>m - (intOf i).toNat)
  case atStart=>exact⟨0,aI _,rfl,Za bs⟩
  case round=>
    obtain⟨k,hk,rfl,af⟩:=hrel;have HF:=Zb af;have ac:ZD w wr:=af.bel;have cg:=Zb ac;by_cases ag:k<m
    · have az:k<T.length:=by rw[Za HZ];exact ag
      have ay:=TxAt.kept _ _ _ _ _ ac (HC k az);have hx:=HK T[k] (aQ _);have HQ:Hid (T.getD k (0,[],[])=T[k]):=(by show _=_;simp[az]);obtain⟨t,ht⟩:=ZF (T[k]);rw[ht] at ay hx HQ;obtain⟨t1,I,O⟩:=t;obtain⟨g0,⟨ai,ni,ci,g1,hI,sI⟩,ao,no,co,g2,hO,_⟩:=ay;simp only at g0 g1 g2 hI hO;obtain⟨Y,hY,aa,ar⟩:=ka00 wr [E J t1,F ai ni ci,F ao no co] 50;obtain⟨y0,y1,y2,yl⟩:=kc3 ar;have PO:=Zb (Sm t1 ai ao ni ci no co I O Y (HE.later (Zf ac aa)) (hI.later aa) (hO.later aa) sI hx);obtain⟨x,aj⟩:=ZG (Zr (t1,I,O));rw[<-aj] at PO;obtain⟨HX,bi⟩:=kh2 aj aa;clear af ac ht hx ar aa hI hO sI aj;go_wp2_with fail;rw[<-hY];clear hY;go_wp2_with fail;refine PO.mono ?_;rintro e w3 ⟨rfl,au⟩;have ab:=(HF.keep bi).keep au;obtain⟨v,cp⟩:=ab.old ag;have cj:=ab.free k;have cm:=ab.lt;have bq:=Zb ab;clear au ab y0 y1 y2 yl g0 g1 g2;go_wp2;go_roundw
      case rel=>
        refine⟨k+1,by omega,by go_num,bq.step ag ?_⟩;show cF x=txV T k;unfold txV;rw[Za HX,Za HQ]
      case measure=>simp[intOf];omega
    · skip
      have e:k=m:=(by omega);subst e;go_wp2;go_ret;exact⟨rfl,Za HF⟩
theorem Zkx(p h k n:Int)(e:Xp p h k n=true):(Va blockB [p,h,k,n]).size<=100:=by
  have:=Fi e
  have h1:=Vx blockB [p,h,k,n] (λz hz=>by
    simp only[aW,List.not_mem_nil,or_false] at hz
    rcases hz with rfl|rfl|rfl|rfl <;> omega)
  have h2:blockB.size=5:=rfl;simp only[cK,List.length_nil] at h1;omega
theorem Tk(p h k n:Int)(a m c T)(w:World)(hE:Env w)(hT:TxsAt w a m T)(hx:Yu (p,h,k,n,T)=0) :
    ZH 78 #[.agg #[E J p,E J h,E J k,E J n,F a m c]] w (dC #[.string (Xl (p,h,k,n,T)),E J 0]):=by
  obtain⟨f1,f2,f3,_,f5⟩:=Vi hx;have hz:T.length=m:=hT.1;have hr:=Fi f1;have cx:=Zkx p h k n f1;have cy:=Uy T f5;obtain⟨X,hX,aa,bi⟩:=ka00 w [E J p,E J h,E J k,E J n,F a m c] 33;obtain⟨C1,az,ca,HE⟩:=kh4 (U4 p h k n a m c T 0 X (hT.later aa) hx) bi aa (hE.later aa);obtain⟨b,off,rfl,_,bs⟩:=(hT.later aa).2 (by omega);have PT:=Zb (λW (hb:ZD X W)=>Gw b off m c T W (HE.later hb) hz (by omega) f5 (λi hi=>TxAt.kept _ _ _ _ _ hb (bs i hi)));have HO:=Zb (λW=>Fj p h k n (dG ⟨b,off,aD⟩) m c W);obtain⟨r,an⟩:=ZF (Va blockB [p,h,k,n]);obtain⟨s,ap⟩:=ZF (Yv T)
  have PR:=Zb (λW bh (hb:ZD X W) (hh:W.heap[bh]? = dG (dA [E J p,E J h,E J k,E J n].toArray 183 (0,0)))=>Qu blockB bh 0 4 4 [p,h,k,n] W (HE.later hb) (by decide) (by decide) rfl (aA hh) (λi hi=>by
    rcases (by omega:i=0\/i=1\/i=2\/i=3) with rfl|rfl|rfl|rfl
    · exact Zd hh 0 _ rfl
    · exact Zd hh 1 _ rfl
    · exact Zd hh 2 _ rfl
    · exact Zd hh 3 _ rfl) (λz hz=>by
    simp only[aW,List.not_mem_nil,or_false] at hz
    rcases hz with rfl|rfl|rfl|rfl <;> omega))
  have JN:=Zb (λW bt (hl:bt<W.heap.size) (cn:∀ i,i<m->W.cell? ⟨bt,i,aD⟩=dG (txV T i))=>(show Calls aB 114 #[F (dG ⟨bt,0,aD⟩) m m,.string ⟨#[]⟩] W λe w'=>e = dB (.string (Yv T))/\ZD W w' by
    have cq:(T.map Zr).length=m:=by rw[cO];exact hz
    have q:=Tryz.strings_Join bt 0 m (T.map Zr) ⟨#[]⟩ W (λj x hj=>by
      have bu:j<T.length:=by
        rcases Nat.lt_or_ge j T.length with h|h
        · exact h
        · rw[List.getElem?_eq_none (by simpa using h)] at hj;cases hj
      rw[bO,cn j (by omega)];simp[bu] at hj
      simp[txV,bu,hj]) hl (by omega) (by omega) (by
        have:(Lib.join ((T.map Zr).map (·.data.toList)) []).length=(Yv T).size:=(by rw[<-Ff T];rfl);show (Lib.join ((T.map Zr).map (·.data.toList)) []).length<=_;omega)
    rw[cq] at q
    change Calls _ _ _ _ λe w'=>e = dB (.string ⟨(Lib.join ((T.map Zr).map (·.data.toList)) []).toArray⟩)/\_ at q
    rw[Ff] at q;exact q))
  have ay:Hid (Xl (p,h,k,n,T)=(r++⟨#[10]⟩)++s):=by show _=_;unfold Xl;simp only;rw[an,ap]
  rw[an] at PR cx;rw[ap] at JN cy;have cw:(r++(⟨#[10]⟩:ByteArray)).size=r.size+1:=Qc r 10;clear an ap hE hT hx bi aa bs hr f1 f5 f2;obtain⟨r2,cu⟩:=ZF (r++(⟨#[10]⟩:ByteArray));rw[cu] at cw ay;go_enter func78,ntmps78;go_wp2_with fail;rw[<-hX];clear hX;refine C1.mono ?_;rintro e w1 ⟨rfl,ak⟩;have bv:=ZE ak az;obtain⟨c0,c1,c2,c3,c4,cl⟩:=kc5 bv;have bw:=Zb ak;clear ak bv C1;go_wp2_with fail;refine (HO _).mono ?_;rintro e w2 ⟨rfl,bo⟩;obtain⟨Y,hY,br,aj⟩:=ka00 w2 [E J p,E J h,E J k,E J n] 183;have af:=Zb (Zf (Zf bw bo) br);have ar:=ZE af az;obtain⟨-,-,-,-,d4,dl⟩:=kc5 ar;have yl:=aA aj;obtain⟨cc,cz⟩:=kh2 aj ar;clear bo br aj ar c0 c1 c2 c3 c4 cl;go_wp2_with fail;rw[<-hY];clear hY
  go_region_with (first
    | (go_at_call 113;refine (PR _ w2.heap.size (Zf af (Zj _)) cc).mono ?_;rintro e w3 ⟨rfl,al⟩;have e4:w3.cell? ⟨w.heap.size,4,aD⟩=dG (F (dG ⟨b,off,aD⟩) m c):=Ze al (Ze (Zj _) d4);have el:w.heap.size<w3.heap.size:=aC _ _ e4;have av:=Zb (Zf (Zf af (Zj _)) al);clear al)
    | (go_at_call 79;refine (PT _ av).mono ?_;rintro e w4 ⟨rfl,am⟩;have ax:=Zb am;have bx:=Zb (Zf av am.bel);clear am)
    | (go_at_call 114;refine (JN _ _ ax.lt (λi hi=>ax.cells (aE _) i hi)).mono ?_;rintro e w5 ⟨rfl,bq⟩;have bz:=Zb (Zf bx bq);clear bq))
  all_goals
    go_wp2;go_ret2;exact⟨by rw[Za ay];rfl,Zf ca bz⟩
theorem Px(p h k n:Int)(a m c T)(x:Int)(w:World)(hT:TxsAt w a m T)(hx:Yu (p,h,k,n,T)=x)(h0:x≠0) :
    ZH 78 #[.agg #[E J p,E J h,E J k,E J n,F a m c]] w (dC #[.string ⟨#[]⟩,E J x]):=by
  obtain⟨X,hX⟩:=ZG (w.alloc (dA #[E J p,E J h,E J k,E J n,F a m c] 33));have ab:ZD w X:=by rw[hX];exact Zh _ _
  obtain⟨C1,ag⟩:=kh2 (U4 p h k n a m c T x X (hT.later ab) hx) ab;have gx:(x != 0)=true:=by simp[h0]
  clear hT hx h0 ab;go_enter func78,ntmps78;go_wp2_with fail;rw[<-hX];clear hX;refine C1.mono ?_;rintro e w1 ⟨rfl,ac⟩;have af:=Zb (Zf ag ac);clear ac;go_wp2;go_ret2;exact⟨rfl,Za af⟩
theorem Zbk(p h k n:Int)(a m c T)(t:ByteArray)(x:Int)(w:World)(hE:Env w)(hT:TxsAt w a m T)(hx:Yu (p,h,k,n,T)=x)(ht:Se (p,h,k,n,T)=t) :
    ZH 78 #[.agg #[E J p,E J h,E J k,E J n,F a m c]] w (dC #[.string t,E J x]):=by
  unfold Se at ht;by_cases h0:x=0
  · subst h0
    rw[if_pos hx] at ht;subst ht;exact Tk p h k n a m c T w hE hT hx
  · rw[if_neg (by rw[hx];exact h0)] at ht
    subst ht;exact Px p h k n a m c T x w hT hx h0
namespace Bk
def place(s:ByteArray):List ByteArray->Nat
  | []=>0
  | x :: r=>if x=s then 1 else if place s r=0 then 0 else place s r+1
theorem place_zero{s:ByteArray}:∀ {L:List ByteArray},place s L=0↔s∉L
  | []=>by simp[place]
  | x :: r=>by
    unfold place;have ih:=place_zero (s:=s) (L:=r);by_cases h:x=s
    · simp[h]
    · have h':¬s=x:=λe=>h e.symm
      rw[if_neg h];by_cases hr:place s r=0
      · rw[if_pos hr];simp[h',ih.1 hr]
      · rw[if_neg hr]
        have:s∈r:=by
          rcases Classical.em (s∈r) with m|m
          · exact m
          · exact absurd (ih.2 m) hr
        simp[this]
theorem place_le(s:ByteArray):∀ L:List ByteArray,place s L<=L.length
  | []=>by simp[place]
  | x :: r=>by
    unfold place;have:=place_le s r;split
    · simp
    · split
      · simp
      · simp;exact this
theorem place_get{s:ByteArray}:∀ {L:List ByteArray} {n:Nat},place s L=n+1->L[n]? = dG s
  | [],n,h=>by simp[place] at h
  | x :: r,n,h=>by
    unfold place at h;by_cases hx:x=s
    · rw[if_pos hx] at h
      have:n=0:=(by omega);subst this;simp[hx]
    · rw[if_neg hx] at h
      by_cases hr:place s r=0
      · rw[if_pos hr] at h;omega
      · rw[if_neg hr] at h
        obtain⟨m,hm⟩:∃ m,place s r=m+1:=⟨place s r - 1,by omega⟩;have e:n=m+1:=(by omega);subst e;simpa using place_get hm
theorem Wp(s:ByteArray):∀ (L M:List ByteArray),place s (L++M)=if place s L=0 then (if place s M=0 then 0 else L.length+place s M) else place s L
  | [],M=>by
    have e:place s []=0:=rfl;rw[e,if_pos rfl,List.nil_append];by_cases hM:place s M=0
    · rw[if_pos hM];exact hM
    · rw[if_neg hM];simp
  | x :: r,M=>by
    have e1:place s (x :: r)=if x=s then 1 else if place s r=0 then 0 else place s r+1:=rfl
    have e2:place s ((x :: r)++M)=if x=s then 1 else if place s (r++M)=0 then 0 else place s (r++M)+1:=rfl
    rw[e2,Wp s r M];by_cases hx:x=s
    · rw[if_pos hx] at *
      rw[e1];simp
    · rw[if_neg hx] at *
      by_cases hr:place s r=0
      · rw[if_pos hr] at e1
        rw[e1,hr];by_cases hM:place s M=0
        · simp[hM]
        · simp only[hM,if_true,if_false,cK]
          rw[if_neg (by omega)];omega
      · rw[if_neg hr] at e1
        rw[e1,if_neg hr,if_neg hr,if_neg (by omega)]
theorem Lw{s:ByteArray}{L:List ByteArray}(h:s∉L):place s (L++[s])=L.length+1:=by
  rw[Wp,if_pos (place_zero.2 h)];simp[place]
theorem Ef{s t:ByteArray}(L)(h:s≠t):place s (L++[t])=place s L:=by
  rw[Wp];have e:place s [t]=0:=by rw[place_zero];simp[h]
  rw[e];split
  · rw[if_pos rfl];rename_i e2;exact e2.symm
  · rfl
theorem Jm(s:ByteArray):∀ (L:List ByteArray) (k:Nat),place s (L.take k)=if place s L<=k then place s L else 0
  | [],k=>by simp[place]
  | x :: r,0=>by
    have e:place s (List.take 0 (x :: r))=0:=rfl;rw[e];split <;> omega
  | x :: r,k+1=>by
    have e1:place s (x :: r)=if x=s then 1 else if place s r=0 then 0 else place s r+1:=rfl
    have e2:place s ((x :: r).take (k+1))=if x=s then 1 else if place s (r.take k)=0 then 0 else place s (r.take k)+1:=rfl
    rw[e2,Jm s r k];by_cases hx:x=s
    · rw[if_pos hx] at *
      rw[e1,if_pos (by omega)]
    · rw[if_neg hx] at *
      by_cases hr:place s r=0
      · rw[if_pos hr] at e1
        rw[e1,hr];simp
      · rw[if_neg hr] at e1
        rw[e1];by_cases hk:place s r<=k
        · rw[if_pos hk,if_neg hr,if_pos (by omega)]
        · rw[if_neg hk,if_pos rfl,if_neg (by omega)]
theorem place_at{L:List ByteArray}{k:Nat}(h:k<L.length):0<place L[k] L/\place L[k] L<=k+1:=by
  have h1:0<place L[k] L:=by
    rcases Nat.eq_zero_or_pos (place L[k] L) with e|e
    · exact absurd (aQ h) (place_zero.1 e)
    · exact e
  refine⟨h1,?_⟩;have h2:=Jm L[k] L (k+1);by_cases h3:place L[k] L<=k+1
  · exact h3
  · rw[if_neg h3,place_zero] at h2
    exact absurd (List.mem_take_iff_getElem.2 ⟨k,Nat.lt_min.2 ⟨Nat.lt_succ_self k,h⟩,rfl⟩) h2
def Rl(aa:List ByteArray):List ByteArray->Int
  | []=>0
  | s :: r=>if 4000<s.size then 2 else if place s aa≠0 then 6 else Rl (aa++[s]) r
def bkChk(L:List ByteArray):Int:=if 120<L.length then 2 else Rl [] L
theorem Zrl{L:List ByteArray}{k:Nat}(h:k<L.length):Rl (L.take k) (L.drop k)=if 4000<L[k].size then 2 else if place L[k] (L.take k)≠0 then 6 else Rl (L.take (k+1)) (L.drop (k+1)):=by
  rw[aK h,Rl,aH h]
theorem Znt{L:List ByteArray}{k:Nat}(h:L.length<=k):Rl (L.take k) (L.drop k)=0:=by
  rw[bA h];rfl
theorem F4:∀ (L aa:List ByteArray),Rl aa L=0->aa.Nodup->(aa++L).Nodup/\∀ s∈L,s.size<=4000
  | [],aa,_,hs=>by simpa using hs
  | s :: r,aa,h,hs=>by
    unfold Rl at h;by_cases h1:4000<s.size
    · rw[if_pos h1] at h;omega
    · rw[if_neg h1] at h
      by_cases h2:place s aa≠0
      · rw[if_pos h2] at h;omega
      · rw[if_neg h2] at h
        have h3:s∉aa:=place_zero.1 (by omega)
        have hn:(aa++[s]).Nodup:=by
          rw[List.nodup_append];exact⟨hs,by simp,λa ha b hb=>by simp at hb;subst hb;exact λe=>h3 (e ▸ ha)⟩
        have ih:=F4 r (aa++[s]) h hn;rw[List.append_assoc] at ih;refine⟨ih.1,λx hx=>?_⟩
        rcases aW.1 hx with rfl|hx
        · omega
        · exact ih.2 x hx
theorem Np:∀ (L aa:List ByteArray),(aa++L).Nodup->(∀ s∈L,s.size<=4000)->Rl aa L=0
  | [],_,_,_=>rfl
  | s :: r,aa,hn,hs=>by
    unfold Rl;have h1:¬4000<s.size:=by have:=hs s (by simp);omega
    have h2:s∉aa:=by
      intro hm;rw[List.nodup_append] at hn;exact hn.2.2 s hm s (by simp) rfl
    rw[if_neg h1,if_neg (by rw[place_zero.2 h2];decide)];refine Np r (aa++[s]) (by rw[List.append_assoc];exact hn) (λx hx=>hs x (by simp[hx]))
def Right(L:List ByteArray):Prop:=L.length<=120/\L.Nodup/\∀ s∈L,s.size<=4000
theorem right_iff(L):bkChk L=0↔Right L:=by
  unfold bkChk Right;by_cases h:120<L.length
  · rw[if_pos h];constructor
    · intro e;omega
    · intro ⟨e,_⟩;omega
  · rw[if_neg h]
    constructor
    · intro e
      have:=F4 L [] e List.nodup_nil;exact⟨by omega,this.1,this.2⟩
    · intro ⟨_,h1,h2⟩
      exact Np L [] h1 h2
def nm(L:List ByteArray)(s:ByteArray):List ByteArray×Int×Int:=
  if 4000<s.size then ([],0,2) else if place s L≠0 then (L,(place s L:Int),0) else if 120<=L.length then ([],0,12) else (L++[s],L.length+1,0)
def nmGo(L:List ByteArray)(N:List Int):List ByteArray->List ByteArray×List Int×Int
  | []=>(L,N,0)
  | s :: r=>if (nm L s).2.2=0 then nmGo (nm L s).1 (N++[(nm L s).2.1]) r else ([],[],(nm L s).2.2)
theorem nm_right{L}{s:ByteArray}(h:Right L)(h0:(nm L s).2.2=0):Right (nm L s).1:=by
  unfold nm at *;by_cases h1:4000<s.size
  · rw[if_pos h1] at h0;cases h0
  · rw[if_neg h1] at *
    by_cases h2:place s L≠0
    · rw[if_pos h2] at *;exact h
    · rw[if_neg h2] at *
      by_cases h3:120<=L.length
      · rw[if_pos h3] at h0;cases h0
      · rw[if_neg h3] at *
        have h4:s∉L:=place_zero.1 (by omega);refine⟨by simp;omega,?_,λx hx=>?_⟩
        · rw[List.nodup_append]
          exact⟨h.2.1,by simp,λa ha b hb=>by simp at hb;subst hb;exact λe=>h4 (e ▸ ha)⟩
        · rcases bM.1 hx with hx|hx
          · exact h.2.2 x hx
          · simp at hx;subst hx;omega
theorem nm_grows{L}{s:ByteArray}(h0:(nm L s).2.2=0):∃ M,(nm L s).1=L++M:=by
  unfold nm at *;by_cases h1:4000<s.size
  · rw[if_pos h1] at h0;cases h0
  · rw[if_neg h1] at *
    by_cases h2:place s L≠0
    · rw[if_pos h2];exact⟨[],by simp⟩
    · rw[if_neg h2] at *
      by_cases h3:120<=L.length
      · rw[if_pos h3] at h0;cases h0
      · rw[if_neg h3];exact⟨[s],rfl⟩
theorem nm_place{L}{s:ByteArray}(h0:(nm L s).2.2=0):(nm L s).2.1=(place s (nm L s).1:Int)/\0<place s (nm L s).1/\s.size<=4000:=by
  unfold nm at *;by_cases h1:4000<s.size
  · rw[if_pos h1] at h0;cases h0
  · rw[if_neg h1] at *
    by_cases h2:place s L≠0
    · rw[if_pos h2];exact⟨rfl,by show 0<place s L;omega,by omega⟩
    · rw[if_neg h2] at *
      by_cases h3:120<=L.length
      · rw[if_pos h3] at h0;cases h0
      · rw[if_neg h3]
        have h4:s∉L:=place_zero.1 (by omega);show (L.length:Int)+1=_/\_;simp only[Lw h4];exact⟨by simp,by omega,by omega⟩
theorem nm_there{L}{s:ByteArray}(hs:s.size<=4000)(h:0<place s L):nm L s=(L,(place s L:Int),0):=by
  unfold nm;rw[if_neg (by omega),if_pos (by omega)]
theorem nmGo_grows:∀ (l:List ByteArray) (L:List ByteArray) (N:List Int),(nmGo L N l).2.2=0->∃ M,(nmGo L N l).1=L++M
  | [],L,N,_=>⟨[],by simp[nmGo]⟩
  | s :: r,L,N,h=>by
    unfold nmGo at *;by_cases h0:(nm L s).2.2=0
    · rw[if_pos h0] at *
      obtain⟨M,hM⟩:=nm_grows h0;obtain⟨K,hK⟩:=nmGo_grows r _ _ h;exact⟨M++K,by rw[hK,hM,List.append_assoc]⟩
    · rw[if_neg h0] at *;exact absurd h h0
theorem nmGo_right:∀ (l:List ByteArray) (L:List ByteArray) (N:List Int),Right L->(nmGo L N l).2.2=0->Right (nmGo L N l).1
  | [],L,N,hR,_=>hR
  | s :: r,L,N,hR,h=>by
    unfold nmGo at *;by_cases h0:(nm L s).2.2=0
    · rw[if_pos h0] at *
      exact nmGo_right r _ _ (nm_right hR h0) h
    · rw[if_neg h0] at *;exact absurd h h0
theorem place_stays{s:ByteArray}{L}(M)(h:0<place s L):place s (L++M)=place s L:=by
  rw[Wp,if_neg (by omega)]
open Go.RowKit Go.Maps
theorem Zb{p:Prop}(h:p):Hid p:=h
theorem Za{p:Prop}(h:Hid p):p:=h
theorem Zf{w w1 w2:World}(h1:ZD w w1)(h2:ZD w1 w2):ZD w w2:=h1.trans (h2.mono h1.size)
theorem Zh(w:World)(o:Obj):ZD w (w.alloc o):=(Below.refl _ _).alloc (aE _) _
theorem Z9(w:World)(n:Nat):ZD w (w.drewN n):=⟨rfl,rfl,rfl,aE _,λ_ _=>rfl⟩
theorem Ze{w w':World}{p v}(hb:ZD w w')(h:w.cell? p=dG v):w'.cell? p=dG v:=by
  rw[hb.cell (p:=p) (aC _ _ h)];exact h
theorem Jp(w:World)(x)(t:aY):(w.alloc (dA #[x] t)).cell? ⟨w.heap.size,0,aD⟩=dG x:=by
  rw[World.cell?_alloc_at _ _ _ _ rfl];rfl
def TextsAt(w:World)(a:Option Addr)(len:Nat)(L:List ByteArray):Prop:=
  L.length=len/\(0<len->∃ b off,a=dG ⟨b,off,aD⟩/\∀ i (h:i<L.length),w.cell? ⟨b,off+i,aD⟩=dG (.string L[i]))
theorem TextsAt.later{w w':World}{a len L}(h:TextsAt w a len L)(hb:ZD w w'):TextsAt w' a len L:=by
  refine⟨h.1,λh0=>?_⟩;obtain⟨b,off,e,hc⟩:=h.2 h0;exact⟨b,off,e,λi hi=>Ze hb (hc i hi)⟩
theorem TextsAt.nil(w a):TextsAt w a 0 []:=⟨rfl,λh=>absurd h (by omega)⟩
theorem TextsAt.lt{w:World}{a len L}(h:TextsAt w a len L)(x:Addr)(hx:a=dG x)(h0:0<len):x.block<w.heap.size:=by
  obtain⟨b,off,e,hc⟩:=h.2 h0;have hz:=h.1;rw[hx] at e;cases e;exact aC _ _ (hc 0 (by omega))
theorem Qe{w:World}{base:Nat}{e:aY}{size:Nat}{v:Value}{n:Nat}{xs}(h:w.ownsRow base e size v n xs)(k:Nat)(hk:v.ownBlock=dG k):base<=k:=by
  rcases h.2 with ⟨rfl,_⟩|⟨g,cap,ac,rfl,hg,_⟩
  · cases hk
  · cases hk;exact hg
theorem Wv{w w':World}{base:Nat}{e:aY}{size:Nat}{v}{n:Nat}{xs}(h:w.ownsRow base e size v n xs)(hk:∀ (k:Nat) (cs:Array Value),base<=k->w.heap[k]? = dG (dA cs e (0,0))->w'.heap[k]? = w.heap[k]?):w'.ownsRow base e size v n xs:=by
  obtain⟨hl,h0|⟨g,cap,aa,hv,hg,hh,r⟩⟩:=h
  · exact⟨hl,.inl h0⟩
  · exact⟨hl,.inr ⟨g,cap,aa,hv,hg,(hk g aa hg hh).trans hh,r⟩⟩
theorem Gg{w w':World}{base:Nat}{e:aY}{size:Nat}{v:Value}{n:Nat}{xs}(h:w.ownsRow base e size v n xs)(hg:w.grownBy w' v.ownBlock)(k:Nat)(cs)(t:aY)(hk:w.heap[k]? = dG (dA cs t (0,0)))(ht:t≠e):w'.heap[k]? = w.heap[k]?:=by
  refine hg.block k (aA hk) (λe1=>?_);obtain⟨_,⟨rfl,_⟩|⟨g,cap,ag,rfl,_,hh,_⟩⟩:=h
  · cases e1
  · have e2:k=g:=by injection e1
    subst e2;rw[hk] at hh;injection hh with hh;injection hh with _ hh;exact ht hh
theorem Wn{w:World}{base:Nat}{v}{n:Nat}{L:List ByteArray}(h:w.ownsRow base 9 1 v n (L.map cF)):∃ a cap,v = F a n cap/\n<=cap/\cap<=aT/\(a=aD->n=0/\cap=0)/\TextsAt w a n L:=by
  have hl:L.length=n:=by have:=h.1;simpa using this
  rcases h.2 with ⟨rfl,rfl⟩|⟨g,cap,ab,rfl,_,_,h1,h2,_,_⟩
  · have e:L=[]:=aJ.1 hl
    subst e;exact⟨aD,0,rfl,aE _,by unfold aT;omega,λ_=>⟨rfl,rfl⟩,TextsAt.nil _ _⟩
  · refine⟨_,cap,rfl,h1,h2,λe=>(by cases e),hl,λ_=>⟨g,0,rfl,λi hi=>?_⟩⟩
    rw[bO,bH h i (by omega)];simp[hi]
theorem Y3(n lo hi:Int)(b:Bool)(w)(hb:b=(decide (lo<=n) && decide (n<=hi))) :
    Calls aB 117 #[E J n,E J lo,E J hi] w λe w'=>e = dB (dF b)/\w=w':=by
  by_cases h1:lo<=n
  · by_cases h2:n<=hi
    · have e:b=true:=by rw[hb];simp[h1,h2]
      subst e;clear hb;go_enter func117,ntmps117;go_wp2;go_ret;exact⟨rfl,rfl⟩
    · have e:b=false:=by rw[hb];simp[h2]
      have h4:decide (n<=hi)=false:=(by simp;omega);have h5:hi<n:=(by omega);subst e;clear hb h2;go_enter func117,ntmps117;go_wp2;go_ret;exact⟨rfl,rfl⟩
  · have e:b=false:=by rw[hb];simp[h1]
    have h5:n<lo:=(by omega);subst e;clear hb h1;go_enter func117,ntmps117;go_wp2;go_ret;exact⟨rfl,rfl⟩
theorem Tryz.info9:(Tryz.prog.info? 9).map (λi=>(i.zero,i.size,i.bytes))=dG (dG (.string ⟨#[]⟩),1,16):=by kernel_rfl
theorem Tryz.infoInt:(Tryz.prog.info? 3).map (λi=>(i.zero,i.size,i.bytes))=dG (dG (E J 0),1,8):=by kernel_rfl
theorem key9:Keyed aB 9:=string_keyed underlying9
theorem Dh(w):(zeroValue 3).run aB w = .ok (E J 0) w:=by kernel_rfl
open Go.RowKit Go.Maps
abbrev Aq(s:ByteArray):Lit:=.string s.data.toList
abbrev Gd(n:Int):cQ Unit:=.lit (.int .i64 n)
structure Wr(base p bm:Nat)(wr:World)(v:Value)(D:cQ Unit)(L:List ByteArray):Prop where
  box:wr.heap[p]? = dG (dA #[v,.map (dG bm)] 179 (0,0))
  pge:base<=p
  mge:base<=bm
  own:wr.ownsRow base 9 1 v L.length (L.map cF)
  map:wr.ownsMap aB 9 (plainElem (H:=Unit) aB 3) bm L.length D
  ism:IsMap D
  names:∀ s:ByteArray,D.atKey (Aq s) (Gd 0)=Gd (place s L:Nat)
def Far(w w':World):Prop:=∀ (k:Nat) (cs:Array Value) (t:aY),w.heap[k]? = dG (dA cs t (0,0))->t≠9->t≠179->w'.heap[k]? = w.heap[k]?
theorem Far.refl(w):Far w w:=λ_ _ _ _ _ _=>rfl
theorem Far.trans{a b c}(h:Far a b)(g:Far b c):Far a c:=λk cs t hk h1 h2=>(g k cs t ((h k cs t hk h1 h2).trans hk) h1 h2).trans (h k cs t hk h1 h2)
theorem Zqs{w w':World}(h:ZD w w'):Far w w':=λk _ _ hk _ _=>h.block k (aA hk)
theorem Wr.keep{base p bm:Nat}{w w':World}{v}{D:cQ Unit}{L}(h:Wr base p bm w v D L)(hb:ZD w w'):Wr base p bm w' v D L:=by
  refine⟨(hb.block p (aA h.box)).trans h.box,h.pge,h.mge,Wv h.own (λk cs _ hk=>hb.block k (aA hk)),?_,h.ism,h.names⟩;obtain⟨es,ab,h1,r⟩:=h.map;exact⟨es,ab,(hb.block bm (aA h1)).trans h1,r⟩
theorem Wr.cell0{base p bm:Nat}{w:World}{v}{D:cQ Unit}{L}(h:Wr base p bm w v D L):w.cell? ⟨p,0,aD⟩=dG v/\w.cell? ⟨p,1,aD⟩=dG (.map (dG bm))/\w.frozen? ⟨p,0,aD⟩=false:=by
  refine⟨?_,?_,?_⟩
  · simp[bF,h.box]
  · simp[bF,h.box]
  · simp[World.frozen?,h.box]
theorem Zhr{D:cQ Unit}{L:List ByteArray}{s:ByteArray}(hm:IsMap D)(h:∀ s:ByteArray,D.atKey (Aq s) (Gd 0)=Gd (place s L:Nat))(hs:s∉L) :
    ∀ x:ByteArray,(D.put (Aq s) (Gd ((L.length:Int)+1))).atKey (Aq x) (Gd 0)=Gd (place x (L++[s]):Nat):=by
  intro x;by_cases e:x=s
  · subst e
    rw[atKey_put_same hm (by simp[WideAt.IsKeyLit]),Lw hs];simp
  · have ab:Aq x≠Aq s:=by
      intro h2
      apply e
      have h3:x.data.toList=s.data.toList:=(by injection h2);have h4:x.data=s.data:=(by rw[<-Array.toList_inj];exact h3);cases x;cases s;simp_all
    rw[atKey_put_other ab,h x,Ef L e]
theorem Dg(w:World)(p:Nat)(x y v)(t:aY)(h:w.heap[p]? = dG (dA #[x,y] t (0,0))):(w.setCell ⟨p,0,aD⟩ v).heap[p]? = dG (dA #[v,y] t (0,0)):=by
  rw[heap_setCell_same w p 0 #[x,y] t v h];rfl
structure Mid(base p bm:Nat)(X Y:World)(v:Value)(D:cQ Unit)(L:List ByteArray)(s:ByteArray):Prop where
  box:Y.heap[p]? = dG (dA #[v,.map (dG bm)] 179 (0,0))
  own:Y.ownsRow base 9 1 v (L.length+1) ((L++[s]).map cF)
  map:Y.ownsMap aB 9 (plainElem (H:=Unit) aB 3) bm L.length D
  bel:Below base X Y
  far:Far X Y
theorem Wr.mid{base p bm:Nat}{X w3:World}{v v3:Value}{D:cQ Unit}{L:List ByteArray}{s:ByteArray}(h:Wr base p bm X v D L)
    (am:w3.ownsRow base 9 1 v3 (L.length+1) (L.map cF++[.string s])) (hg:X.grownBy w3 v.ownBlock):Mid base p bm X (w3.setCell ⟨p,0,aD⟩ v3) v3 D L s:=by
  have an:=aA h.box;have ak:base<=X.heap.size:=aO h.pge (Nat.le_of_lt an);have far:∀ (k:Nat) (cs:Array Value) (t:aY),X.heap[k]? = dG (dA cs t (0,0))->t≠9->w3.heap[k]? = X.heap[k]?:=λk cs t hk ht=>Gg h.own hg k cs t hk ht;have ae:w3.heap[p]? = dG (dA #[v,.map (dG bm)] 179 (0,0)):=(far _ _ _ h.box (by decide)).trans h.box;have ab:∀ (k:Nat),k≠p->(w3.setCell ⟨p,0,aD⟩ v3).heap[k]? = w3.heap[k]?:=λk hk=>heap_setCell_other w3 ⟨p,0,aD⟩ k v3 hk;refine⟨Dg w3 p v _ v3 _ ae,?_,?_,?_,?_⟩
  · rw[bN]
    refine Wv am (λk cs _ hk=>ab k (λe=>?_));subst e;rw[ae] at hk;injection hk with hk;injection hk with _ hk;exact absurd hk (by decide)
  · obtain⟨es,ag,h1,r⟩:=h.map
    have al:dG bm≠v.ownBlock:=by
      intro e;obtain⟨_,⟨rfl,_⟩|⟨g,cap,aq,rfl,_,hh,_⟩⟩:=h.own
      · cases e
      · have e2:bm=g:=by injection e
        subst e2;rw[h1] at hh;cases hh
    have h3:w3.heap[bm]? = X.heap[bm]?:=hg.block bm (aA h1) al
    have hp:bm≠p:=by
      intro e;subst e;rw[h.box] at h1;cases h1
    exact⟨es,ag,(ab bm hp).trans (h3.trans h1),r⟩
  · exact ((Below.refl base X).grown hg ak (λk hk=>Qe h.own k hk)).setCell h.pge _
  · intro k cs t hk h9 h50
    have hp:k≠p:=by
      intro e;subst e;rw[h.box] at hk;injection hk with hk;injection hk with _ hk;exact h50 hk.symm
    exact (ab k hp).trans (far k cs t hk h9)
theorem Mid.wr{base p bm:Nat}{X Y w4:World}{v}{D:cQ Unit}{L:List ByteArray}{s:ByteArray}(h:Mid base p bm X Y v D L s)(hm:IsMap D)(hp:base<=p)(hb:base<=bm)(hs:s∉L)
    (names:∀ s:ByteArray,D.atKey (Aq s) (Gd 0)=Gd (place s L:Nat))
    (al:w4.ownsMap aB 9 (plainElem (H:=Unit) aB 3) bm (L.length+1) (D.put (Aq s) (Gd ((L.length:Int)+1)))) (hg:Y.grownBy w4 (dG bm)) :
    Wr base p bm w4 v (D.put (Aq s) (Gd ((L.length:Int)+1))) (L++[s])/\Below base X w4/\Far X w4:=by
  have kept:∀ (k:Nat) (cs:Array Value) (t:aY),Y.heap[k]? = dG (dA cs t (0,0))->w4.heap[k]? = Y.heap[k]?:=λk cs t hk=>hg.block k (aA hk) (λe=>by
    have e2:k=bm:=(by injection e);subst e2;obtain⟨es,an,h1,_⟩:=h.map;rw[h1] at hk;cases hk)
  have hl:(L++[s]).length=L.length+1:=by simp
  have aj:base<=Y.heap.size:=aO hp (Nat.le_of_lt (aA h.box));refine⟨⟨(kept _ _ _ h.box).trans h.box,hp,hb,?_,?_,?_,Zhr hm names hs⟩,?_,?_⟩
  · rw[hl];exact Wv h.own (λk cs _ hk=>kept k cs _ hk)
  · rw[hl];exact al
  · obtain⟨es,rfl⟩:=hm
    exact⟨_,rfl⟩
  · exact h.bel.trans ((Below.refl base Y).grown hg aj (λk hk=>by injection hk with hk;omega))
  · exact λk cs t hk h9 h50=>(kept k cs t ((h.far k cs t hk h9 h50).trans hk)).trans (h.far k cs t hk h9 h50)
open Go.RowKit Go.Maps
theorem add_is(base p bm:Nat)(v)(D:cQ Unit)(L:List ByteArray)(s:ByteArray)(w)(hW:Wr base p bm w v D L)(hL:L.length<=120)(hs:s∉L)(hz:s.size<=4000) :
    Calls aB 143 #[.pointer (dG ⟨p,0,aD⟩),.string s] w λe w'=>e = dB (.int .i64 ((L.length:Int)+1))/\(∃ v' D',Wr base p bm w' v' D' (L++[s]))/\Below base w w'/\Far w w':=by
  obtain⟨i0,hi,bu,bv,bw⟩:=bX Tryz.info9;have bq:=aA hW.box;have bi:base<=w.heap.size:=aO hW.pge (Nat.le_of_lt bq);obtain⟨X,hX⟩:=ZG (w.alloc (dA #[.string s] 9));have aq:ZD w X:=by rw[hX];exact Zh _ _
  have bh:X.heap.size=w.heap.size+1:=by rw[hX];simp
  have bj:X.heap[w.heap.size]? = dG (dA #[.string s] 9 (0,0)):=by rw[hX];exact aG _ _
  have WX:=hW.keep aq;obtain⟨c0,c1,cf⟩:=hW.cell0;have az:=Zb (bI bj);obtain⟨a,cap,rfl,-,-,-,-⟩:=Wn hW.own;obtain⟨bd,HW,HL,HS,HZ,aj,HB,al⟩:=kh8 WX.own WX hL hs hz aq bi bh;subst hX;go_enter func143,ntmps143
  go_wp2_with (at_builtin;refine wpList_append_lies _ rfl _ _ 22 rfl base 9 i0 (.string ⟨#[]⟩) 1 16 cU hi bu bv bw rfl (by decide) _ _ _ rfl bd ⟨w.heap.size,0,aD⟩ 1 1 [.string s] rfl rfl az (λu hu=>by simp at hu;subst hu;rfl) (by decide) (by have:=Za HL;unfold aT;omega) (by have:=Za HL;omega) (by have:=Za HB;have:=Za al;omega) (w.heap.size+1) al ?_;intro g cap2 w3 au ag bo cg;have M:=HW.mid au ag;have af:=(Gg HW.own ag p _ _ HW.box (by decide)).trans HW.box;have d0:w3.cell? ⟨p,0,aD⟩=dG (F a L.length cap):=(by simp[bF,af]);have df:w3.frozen? ⟨p,0,aD⟩=false:=(by simp[World.frozen?,af]);have HM:=Zb M;clear M af au ag bo)
  obtain⟨Y,hY⟩:=ZG (w3.setCell ⟨p,0,aD⟩ (F (dG ⟨g,0,aD⟩) (L.length+1) cap2));rw[<-hY] at HM ⊢;have M:=Za HM;have e0:Y.cell? ⟨p,0,aD⟩=dG (F (dG ⟨g,0,aD⟩) (L.length+1) cap2):=by simp[bF,M.box]
  have e1:Y.cell? ⟨p,1,aD⟩=dG (.map (dG bm)):=by simp[bF,M.box]
  have hD:Y.drew.ownsMap aB 9 (plainElem (H:=Unit) aB 3) bm L.length D:=M.map.drew;obtain⟨w4,cj,av,ab⟩:=hD.update key9 underlying177 (by have:=Za HL;unfold aT;omega) (Go.WideMaps.keyOf_string_mk underlying9 (s:=s) (by have:=Za HZ;unfold aT;omega)) (plainElem_int (H:=Unit) aN (q:=.i64) (a:=(L.length:Int)+1) (by have:=Za HL;simp[Lit.wf,IntKind.min,IntKind.max,IntKind.signed,IntKind.bits];omega));have ar:Y.grownBy w4 (dG bm):=⟨ab.1,ab.2,ab.3,ab.4,ab.5⟩;have R:=Zb (M.wr HW.ism HW.pge HW.mge HS HW.names av ar);obtain⟨f0,f1,f2⟩:=R.1.cell0;clear hY M hD av ab ar d0 df
  go_region
  go_wp2;go_ret;exact⟨rfl,⟨_,_,R.1⟩,(aj.mono HB).trans R.2.1,(Zqs aj).trans R.2.2⟩
theorem Zqc{a b:Int}(h:Gd a=Gd b):a=b:=by
  injection h with h;injection h
theorem Wr.look{base p bm:Nat}{w v}{D:cQ Unit}{L}(h:Wr base p bm w v D L)(s:ByteArray)(hs:s.size<=4000) :
    Sem.run aB (Instr.lookup 177 (.map (dG bm)) (.string s) false) w = .ok (.int .i64 (place s L:Nat)) w:=by
  obtain⟨c,ab,aa,_⟩:=h.map.lookup_int key9 underlying177 aN (Dh w) (Go.WideMaps.keyOf_string_mk underlying9 (s:=s) (by unfold aT;omega))
  have e:c=(place s L:Nat):=by
    have h2:=h.names s;rw[h2] at aa;exact (Zqc aa).symm
  subst e;exact ab
theorem Zpy(base p bm:Nat)(v)(D:cQ Unit)(L M:List ByteArray)(s:ByteArray)(n e:Int)(w)(hW:Wr base p bm w v D L)(hL:L.length<=120)(hn:nm L s=(M,n,e)) :
    Calls aB 107 #[.pointer (dG ⟨p,0,aD⟩),.string s] w λx w'=>x = dB (.tuple #[.int .i64 n,.int .i64 e])/\(e=0->∃ v' D',Wr base p bm w' v' D' M)/\Below base w w'/\Far w w':=by
  obtain⟨c0,c1,cf⟩:=hW.cell0;have ah:=hW;obtain⟨a,cap,rfl,-,-,-,-⟩:=Wn hW.own;have HW:=Zb ah;clear hW ah;by_cases h1:4000<s.size
  · have e1:nm L s=([],0,2):=by unfold nm;rw[if_pos h1]
    rw[e1] at hn;obtain⟨rfl,ab⟩:=aR .. ▸ hn;obtain⟨rfl,rfl⟩:=aR .. ▸ ab;have g:(4000:Int)<(s.size:Int):=(by omega);clear hn ab e1 h1;go_enter func107,ntmps107;go_wp2;go_ret2;exact⟨rfl,λh=>absurd h (by decide),Below.refl _ _,Far.refl _⟩
  · have hz:s.size<=4000:=by omega
    have g:¬(4000:Int)<(s.size:Int):=(by omega);have am:=HW.look s hz;by_cases h2:place s L≠0
    · have e1:nm L s=(L,(place s L:Int),0):=by unfold nm;rw[if_neg h1,if_pos h2]
      rw[e1] at hn;obtain⟨rfl,ab⟩:=aR .. ▸ hn;obtain⟨rfl,rfl⟩:=aR .. ▸ ab;obtain⟨q,hq⟩:=ZF (place s L);rw[hq] at am h2 ⊢;have g2:((q:Int) != 0)=true:=(by simp;omega);clear hn ab e1 h1 h2 hq;go_enter func107,ntmps107;go_wp2;go_ret2
      first|exact⟨rfl,λ_=>⟨_,_,Za HW⟩,Below.refl _ _,Far.refl _⟩|exact⟨rfl,⟨_,_,Za HW⟩,Below.refl _ _,Far.refl _⟩
    · have h3:place s L=0:=by omega
      rw[h3] at am;by_cases h4:120<=L.length
      · have e1:nm L s=([],0,12):=by unfold nm;rw[if_neg h1,if_neg h2,if_pos h4]
        rw[e1] at hn;obtain⟨rfl,ab⟩:=aR .. ▸ hn;obtain⟨rfl,rfl⟩:=aR .. ▸ ab;have g2:((L.length:Int) == 120)=true:=(by simp;omega);clear hn ab e1 h1 h2 h3 h4;go_enter func107,ntmps107;go_wp2;go_ret2
        first|exact⟨rfl,λh=>absurd h (by decide),Below.refl _ _,Far.refl _⟩|exact⟨rfl,Below.refl _ _,Far.refl _⟩
      · have e1:nm L s=(L++[s],(L.length:Int)+1,0):=by unfold nm;rw[if_neg h1,if_neg h2,if_neg h4]
        rw[e1] at hn;obtain⟨rfl,ab⟩:=aR .. ▸ hn;obtain⟨rfl,rfl⟩:=aR .. ▸ ab;have g2:((L.length:Int) == 120)=false:=(by simp;omega);have A:=Zb (add_is base p bm _ D L s w HW hL (place_zero.1 h3) hz);clear hn ab e1 h1 h2 h3 h4;go_enter func107,ntmps107;go_wp2_with fail;refine A.mono ?_;rintro x w2 ⟨rfl,an,aj,ak⟩;obtain⟨H2,af,ag⟩:=kh3 an aj ak;clear an aj ak;go_wp2;go_ret2
        first|exact⟨rfl,λ_=>Za H2,Za af,Za ag⟩|exact⟨rfl,Za H2,Za af,Za ag⟩
open Go.RowKit Go.Maps
theorem Mh(n:Int)(w:World):(Instr.makeMap 177 (dG (E J n))).run aB w = .ok (.map (dG w.heap.size)) (w.alloc (.map #[] 0)):=by kernel_rfl
theorem Zjd(w:World)(base:Nat)(hb:base<=w.heap.size):Wr base (w.heap.size+1) w.heap.size ((w.alloc (.map #[] 0)).alloc (dA #[F aD 0 0,.map (dG w.heap.size)] 179)) (F aD 0 0) (.map []) []:=by
  have e:(w.alloc (.map #[] 0)).heap.size=w.heap.size+1:=by simp
  refine⟨?_,by omega,hb,⟨rfl,Or.inl ⟨rfl,rfl⟩⟩,?_,⟨[],rfl⟩,λs=>rfl⟩
  · have:=aG (w.alloc (.map #[] 0)) (dA #[F aD 0 0,.map (dG w.heap.size)] 179)
    rw[e] at this;exact this
  · exact (World.ownsMap_made w aB 9 (plainElem (H:=Unit) aB 3)).alloc _
theorem Zho(b off n c:Nat)(L:List ByteArray)(w:World)(hz:L.length=n)(h0:0<n)(h1:n<=120)(hb:b<w.heap.size)(hc:∀ i (h:i<L.length),w.cell? ⟨b,off+i,aD⟩=dG (.string L[i]))(x:Int)(hx:Rl [] L=x) :
    Calls aB 106 #[.agg #[F (dG ⟨b,off,aD⟩) n c]] w λe w'=>∃ v,e = dB (dC #[v,E J x])/\(x=0->∃ p bm v' D',v = dE (dG ⟨p,0,aD⟩)/\Wr w.heap.size p bm w' v' D' L)/\ZD w w':=by
  have ay:=Zh w (dA #[F (dG ⟨b,off,aD⟩) n c] 24);have bi:(w.alloc (dA #[F (dG ⟨b,off,aD⟩) n c] 24)).heap.size=w.heap.size+1:=by simp
  have W0:=Zjd (w.alloc (dA #[F (dG ⟨b,off,aD⟩) n c] 24)) w.heap.size (by omega);rw[bi] at W0;obtain⟨X,hX⟩:=ZG (((w.alloc (dA #[F (dG ⟨b,off,aD⟩) n c] 24)).alloc (.map #[] 0)).alloc (dA #[F aD 0 0,.map (dG (w.heap.size+1))] 179))
  have bd:ZD w X:=by
    rw[hX];exact Zf (Zf ay (Zh _ _)) (Zh _ _)
  have cX:X.cell? ⟨w.heap.size,0,aD⟩=dG (F (dG ⟨b,off,aD⟩) n c):=by
    rw[hX];exact Ze (Zf (Zh _ _) (Zh _ _)) (Jp w (F (dG ⟨b,off,aD⟩) n c) 24)
  rw[<-hX] at W0;obtain⟨av,aq,HC,HZ,HX⟩:=kh5 W0 bd hc hz hx;have bz:=Mh;have g:¬(120:Int)<(n:Int):=by omega
  go_enter func106,ntmps106;go_wp2;rw[<-hX]
  go_loopw [20] (λi wr=>∃ j:Nat,j<=n/\i = E J j/\ZD w wr/\(∃ v D,Hid (Wr w.heap.size (w.heap.size+2) (w.heap.size+1) wr v D (L.take j)))/\Hid (Rl (L.take j) (L.drop j)=x)) (λi _=>n - (intOf i).toNat)
  case atStart=>exact⟨0,aI _,rfl,Za aq,⟨_,_,av⟩,Za HX⟩
  case round=>
    obtain⟨j,hk,rfl,af,⟨v,D,HW⟩,A⟩:=hrel;have HB:=Zb af;by_cases bf:j<n
    · have ag:j<L.length:=by rw[Za HZ];exact bf
      have f:=(bU (af.block b hb)).trans (HC j ag);have bx:b<wr.heap.size:=aF hb af.size;obtain⟨c0,c1,cf⟩:=HW.cell0;have S:=Zrl ag;rw[Za A] at S;have bw:(L.take j).length=j:=(by rw[aV];omega);have TK:=Zb (aH ag);obtain⟨s,hs⟩:=ZF (L[j]);rw[hs] at f S TK;by_cases h2:4000<s.size
      · rw[if_pos h2] at S
        subst S;have g2:(4000:Int)<(s.size:Int):=(by omega);go_wp2;go_ret2
        first|exact⟨_,rfl,λh=>absurd h (by decide),Za HB⟩|exact⟨⟨_,rfl⟩,Za HB⟩
      · rw[if_neg h2] at S
        have g2:¬(4000:Int)<(s.size:Int):=(by omega);have hz:s.size<=4000:=(by omega);have al:=HW.look s hz;by_cases h3:place s (L.take j)≠0
        · rw[if_pos h3] at S
          subst S;obtain⟨q,hq⟩:=ZF (place s (L.take j));rw[hq] at al h3;have g3:((q:Int) != 0)=true:=(by simp;omega);go_wp2;go_ret2
          first|exact⟨_,rfl,λh=>absurd h (by decide),Za HB⟩|exact⟨⟨_,rfl⟩,Za HB⟩
        · rw[if_neg h3] at S
          have h4:place s (L.take j)=0:=(by omega);rw[h4] at al;have AD:=Zb (add_is w.heap.size (w.heap.size+2) (w.heap.size+1) v D (L.take j) s wr HW (by omega) (place_zero.1 h4) hz);have HS:Hid (Rl (L.take (j+1)) (L.drop (j+1))=x):=S.symm;go_wp2_with fail;refine AD.mono ?_;rintro e w2 ⟨rfl,bj,az,bu⟩;obtain⟨H2,ap⟩:=kh2 bj (HB.trans az);go_wp2;go_roundw
          case rel=>
            obtain⟨v',D',ah⟩:=Za H2;exact⟨j+1,by omega,by go_num,Za ap,⟨v',D',by rw[Za TK];exact ah⟩,HS⟩
          case measure=>simp[intOf];omega
    · have R:Hid (x=0):=by show _=_;rw[<-Za A];exact Znt (by rw[Za HZ];omega)
      have aw:Hid (∃ v' D',Wr w.heap.size (w.heap.size+2) (w.heap.size+1) wr v' D' L):=⟨v,D,by have:=Za HW;rw[aM (by rw[Za HZ];omega)] at this;exact this⟩;go_wp2;go_ret2;refine⟨dE (dG ⟨w.heap.size+2,0,aD⟩),?_,λ_=>?_,Za HB⟩
      · rw[Za R];rfl
      · obtain⟨v',D',ah⟩:=Za aw
        exact⟨_,_,v',D',rfl,ah⟩
theorem Zfa(a n c L)(w:World)(h:TextsAt w a n L)(x:Int)(hx:bkChk L=x) :
    Calls aB 106 #[.agg #[F a n c]] w λe w'=>∃ v,e = dB (dC #[v,E J x])/\(x=0->∃ p bm v' D',v = dE (dG ⟨p,0,aD⟩)/\Wr w.heap.size p bm w' v' D' L)/\ZD w w':=by
  have hz:=h.1;by_cases h1:120<n
  · have e:x=2:=by rw[<-hx];unfold bkChk;rw[if_pos (by omega)]
    subst e;have g:(120:Int)<(n:Int):=(by omega);have HB:=Zb (Zh w (dA #[F a n c] 24));go_enter func106,ntmps106;go_wp2;go_ret2
    first|exact⟨_,rfl,λh=>absurd h (by decide),Za HB⟩|exact⟨⟨_,rfl⟩,Za HB⟩
  · have ad:Rl [] L=x:=by rw[<-hx];unfold bkChk;rw[if_neg (by omega)]
    by_cases h0:n=0
    · subst h0
      have e:L=[]:=aJ.1 hz;subst e;have e:x=0:=(by rw[<-ad];rfl);subst e;have ag:(w.alloc (dA #[F a 0 c] 24)).heap.size=w.heap.size+1:=(by simp);have W0:=Zjd (w.alloc (dA #[F a 0 c] 24)) w.heap.size (by omega);rw[ag] at W0;obtain⟨af,HB⟩:=kh2 W0 (Zf (Zf (Zh w (dA #[F a 0 c] 24)) (Zh _ (.map #[] 0))) (Zh _ (dA #[F aD 0 0,.map (dG (w.heap.size+1))] 179)));have ah:=Mh;go_enter func106,ntmps106;go_wp2;refine wp_loop_rounds 1 ?_;rw[rounds_succ];go_wp2;go_ret2;refine⟨_,rfl,λ_=>⟨_,_,_,_,rfl,Za af⟩,Za HB⟩
    · obtain⟨b,off,rfl,hc⟩:=h.2 (by omega)
      exact Zho b off n c L w hz (by omega) (by omega) (aC _ _ (hc 0 (by omega))) hc x ad
open Go.RowKit Go.Maps
def allR(L l:List ByteArray):List ByteArray×List Int×Int:=if bkChk L=0 then nmGo L [] l else ([],[],bkChk L)
def IntsAt(w:World)(a:Option Addr)(len:Nat)(Z:List Int):Prop:=
  Z.length=len/\(0<len->∃ b off,a=dG ⟨b,off,aD⟩/\∀ i (h:i<Z.length),w.cell? ⟨b,off+i,aD⟩=dG (E J Z[i]))
theorem IntsAt.later{w w':World}{a len Z}(h:IntsAt w a len Z)(hb:ZD w w'):IntsAt w' a len Z:=by
  refine⟨h.1,λh0=>?_⟩;obtain⟨b,off,e,hc⟩:=h.2 h0;exact⟨b,off,e,λi hi=>Ze hb (hc i hi)⟩
theorem IntsAt.nil(w a):IntsAt w a 0 []:=⟨rfl,λh=>absurd h (by omega)⟩
def SlOk(a:Option Addr)(n c:Nat):Prop:=n<=c/\c<=aT/\(a=aD->n=0/\c=0)
theorem SlOk.nil:SlOk aD 0 0:=⟨aE _,by unfold aT;omega,λ_=>⟨rfl,rfl⟩⟩
theorem Wr.beside{base p bm g j:Nat}{w:World}{v u}{D:cQ Unit}{L}(h:Wr base p bm w v D L)(hg:∃ cs,w.heap[g]? = dG (dA cs 3 (0,0))):Wr base p bm (w.setCell ⟨g,j,aD⟩ u) v D L:=by
  obtain⟨cs,hg⟩:=hg;have far:∀ k,k≠g->(w.setCell ⟨g,j,aD⟩ u).heap[k]? = w.heap[k]?:=λk hk=>heap_setCell_other w ⟨g,j,aD⟩ k u hk;refine⟨?_,h.pge,h.mge,?_,?_,h.ism,h.names⟩
  · rw[far p (λe=>?_)]
    · exact h.box
    · subst e
      rw[h.box] at hg;injection hg with hg;injection hg with _ hg;exact absurd hg (by decide)
  · refine Wv h.own (λk ae _ hk=>far k (λe=>?_))
    subst e;rw[hk] at hg;injection hg with hg;injection hg with _ hg;exact absurd hg (by decide)
  · obtain⟨es,ac,h1,r⟩:=h.map
    refine⟨es,ac,(far bm (λe=>?_)).trans h1,r⟩;subst e;rw[h1] at hg;cases hg
def Filled(base g n:Nat)(N:List Int)(w:World):Prop:=∃ xs:List Value,w.ownsRow base 3 1 (F (dG ⟨g,0,aD⟩) n n) n xs/\∀ j (h:j<N.length),xs[j]? = dG (E J N[j])
theorem Filled.block{base g n:Nat}{N}{w:World}(h:Filled base g n N w):base<=g/\∃ cs,w.heap[g]? = dG (dA cs 3 (0,0)):=by
  obtain⟨xs,ho,_⟩:=h;obtain⟨_,⟨e,_⟩|⟨g',cap,aa,e,hg,hh,_⟩⟩:=ho
  · cases e
  · cases e;exact⟨hg,aa,hh⟩
theorem Filled.far{base g n:Nat}{N w w'}(h:Filled base g n N w)(hf:Far w w'):Filled base g n N w':=by
  obtain⟨xs,ho,hx⟩:=h;exact⟨xs,Wv ho (λk cs _ hk=>hf k cs _ hk (by decide) (by decide)),hx⟩
theorem Filled.old{base g n:Nat}{N}{w:World}(h:Filled base g n N w){k:Nat}(hk:k<n):(∃ v,w.cell? ⟨g,k,aD⟩=dG v)/\w.frozen? ⟨g,k,aD⟩=false/\g<w.heap.size:=by
  obtain⟨xs,ho,_⟩:=h;have hl:xs.length=n:=by simpa using ho.1
  exact⟨⟨xs[k]'(by omega),by rw[ho.cellAt k (by omega)];simp[hl,hk]⟩,ho.frozenAt k,(ho.lt g rfl).2⟩
theorem Filled.step{base g n:Nat}{N:List Int}{w:World}(h:Filled base g n N w)(hk:N.length<n)(x:Int):Filled base g n (N++[x]) (w.setCell ⟨g,N.length,aD⟩ (E J x)):=by
  obtain⟨xs,ho,hx⟩:=h;have hl:xs.length=n:=by simpa using ho.1
  refine⟨xs.set N.length (E J x),(ho.stored N.length _).1,λj hj=>?_⟩;by_cases e:j=N.length
  · subst e;simp[hl,hk]
  · have aa:j<N.length:=by simp at hj;omega
    rw[List.getElem?_set_ne (by omega),hx j aa];simp[aa]
theorem Filled.ints{base g n:Nat}{N:List Int}{w}(h:Filled base g n N w)(hn:N.length=n):IntsAt w (dG ⟨g,0,aD⟩) n N:=by
  obtain⟨xs,ho,hx⟩:=h;have hl:xs.length=n:=by simpa using ho.1
  refine⟨hn,λ_=>⟨g,0,rfl,λi hi=>?_⟩⟩;rw[bO,ho.cellAt i (by omega),hx i hi]
theorem Xh{fn:Func}{p u v:Tmp}{ty:aY}(h:fn.results=#[.cell p ty,.tmp u,.tmp v])(tmps:Array Value)(P:Program)(w) :
    (results fn tmps).run P w =
      ((asAddr (tmps.getD p undef)).run P w).andThen λa w₁=>((loadVar ty a).run P w₁).andThen λx w₂=>.ok (dC #[x,tmps.getD u undef,tmps.getD v undef]) w₂:=by
  simp only[results,h];simp[Sem.run_bind,Result.andThen]
theorem texts_own{w:World}{base n c:Nat}{a}{L:List ByteArray}(h:w.ownsRow base 9 1 (F a n c) n (L.map cF)):TextsAt w a n L:=by
  obtain⟨a',c',e,_,_,_,ht⟩:=Wn h;cases e;exact ht
theorem Zfc{l:List ByteArray}{j:Nat}(h:j<l.length)(L N):nmGo L N (l.drop j)=if (nm L l[j]).2.2=0 then nmGo (nm L l[j]).1 (N++[(nm L l[j]).2.1]) (l.drop (j+1)) else ([],[],(nm L l[j]).2.2):=by
  rw[aK h,nmGo]
theorem Ep{l:List ByteArray}{j:Nat}(h:l.length<=j)(L N):nmGo L N (l.drop j)=(L,N,0):=by
  rw[bA h];rfl
theorem Zrd(a al n c nl cl L)(w:World)(h:TextsAt w a n L)(x:Int)(hx:bkChk L=x)(h0:x≠0) :
    ZH 65 #[.agg #[F a n c],F al nl cl] w (dC #[.agg #[F aD 0 0],F aD 0 0,E J x]):=by
  have ah:=Zh w (dA #[F a n c] 24);have aa:=Zh (w.alloc (dA #[F a n c] 24)) (dA #[F aD 0 0] 24);have hb:=Zf ah aa;have aj:(w.alloc (dA #[F a n c] 24)).heap.size=w.heap.size+1:=by simp
  have c1:=aG (w.alloc (dA #[F a n c] 24)) (dA #[F aD 0 0] 24);rw[aj] at c1;obtain⟨O,HB,C1⟩:=kh3 (Zfa a n c L _ (h.later hb) x hx) hb c1;have g:(x != 0)=true:=by simp[h0]
  go_enter func65,ntmps65;go_wp2_with fail;refine O.mono ?_;rintro e w2 ⟨v,rfl,-,aa⟩;have ae:=Zb (Zf HB aa);have c1:=ZE aa C1;have d0:w2.cell? ⟨w.heap.size+1,0,aD⟩=dG (F aD 0 0):=by simp[bF,c1]
  have df:w2.frozen? ⟨w.heap.size+1,0,aD⟩=false:=by simp[World.frozen?,c1]
  have an:w.heap.size+1<w2.heap.size:=aA c1;go_wp2;refine aL (v:=dC #[.agg #[F aD 0 0],F aD 0 0,E J x]) ?_ rfl ⟨rfl,?_⟩
  · rw[Xh rfl]
    go_simp
  · exact ae.setCell (Nat.le_succ _) _
theorem Zeh(a al n c nl eu L l M N)(x:Int)(w:World)(h:TextsAt w a n L)(hl:TextsAt w al nl l)(du:nl<=17592186044416)(hR:Right L)(hx:nmGo L [] l=(M,N,x)) :
    Calls aB 65 #[.agg #[F a n c],F al nl eu] w λe w'=>(∃ a' n' c' a2 n2 c2,e = dB (dC #[.agg #[F a' n' c'],F a2 n2 c2,E J x])/\(∀ w2,Gr w' w2 (λk=>k<w.heap.size)->TextsAt w2 a' n' M)/\SlOk a' n' c'/\IntsAt w' a2 n2 N/\n2<=nl/\n2<=c2)/\ZD w w':=by
  obtain⟨i0,hi,eg,eh,ei⟩:=bX Tryz.infoInt;have di:=Zh w (dA #[F a n c] 24);have am:=Zh (w.alloc (dA #[F a n c] 24)) (dA #[F aD 0 0] 24);have hb:=Zf di am;have dz:(w.alloc (dA #[F a n c] 24)).heap.size=w.heap.size+1:=by simp
  have ea:((w.alloc (dA #[F a n c] 24)).alloc (dA #[F aD 0 0] 24)).heap.size=w.heap.size+2:=by simp
  have c1:=aG (w.alloc (dA #[F a n c] 24)) (dA #[F aD 0 0] 24);rw[dz] at c1;have O:=Zb (Zfa a n c L _ (h.later hb) 0 ((right_iff L).2 hR));rw[ea] at O;obtain⟨HB,C1,bo,br,HR,HX⟩:=kh6 hb c1 hl du hR hx;go_enter func65,ntmps65;go_wp2_with fail;refine O.mono ?_;rintro e w2 ⟨v,rfl,ae,am⟩;obtain⟨p,bm,v0,D0,rfl,be⟩:=ae (by trivial);have ec:w.heap.size+2<=w2.heap.size:=aO be.pge (Nat.le_of_lt (aA be.box));have c1:=(am.block _ (by omega)).trans C1;have cw:Hid (ZD w w2):=HB.trans (am.mono (by omega));obtain⟨HW,C2⟩:=kh2 be c1
  go_wp2_with (at_make;refine wpList_make_full _ rfl _ _ 25 rfl (w.heap.size+2) 3 i0 (E J 0) 1 cR hi eg eh .i64 .i64 _ _ nl rfl rfl rfl rfl (by rw[ei];have:=Za br;omega) (by have:=Za br;unfold aT;omega) ec ?_;intro w3 dw dr)
  have ax:ZD w2 w3:=(Below.refl _ _).grown dr (aE _) (λk h=>by cases h);have dc:=Zb (HW.keep ax);have bj:Hid (Filled (w.heap.size+2) w2.heap.size nl [] w3):=⟨_,dw,λj hj=>absurd hj (by simp)⟩;obtain⟨C3,ct⟩:=kh2 (ZE ax C2) (Zf cw ax);obtain⟨g,hg⟩:=ZF (w2.heap.size);rw[hg] at bj ⊢
  go_loopw [26] (λi wr=>∃ (j:Nat) (L':List ByteArray) (N':List Int),j<=nl/\i = E J j/\ZD w wr/\Hid (∃ v D,Wr (w.heap.size+2) p bm wr v D L')/\Hid (Filled (w.heap.size+2) g nl N' wr)/\Hid (N'.length=j/\Right L'/\nmGo L' N' (l.drop j)=(M,N,x))/\Hid (wr.heap[w.heap.size+1]? = dG (dA #[F aD 0 0] 24 (0,0)))) (λi _=>nl - (intOf i).toNat)
  case atStart=>exact⟨0,L,[],aI _,rfl,Za ct,⟨_,_,Za dc⟩,bj,⟨rfl,Za HR,Za HX⟩,C3⟩
  case round=>
    obtain⟨j,L',N',hk,rfl,ce,bs,HF,HN,HC⟩:=hrel;have ap:=Zb ce;by_cases cj:j<nl
    · obtain⟨hz,dl⟩:=Za bo
      obtain⟨b,off,rfl,hc⟩:=dl (by omega);have cg:j<l.length:=(by omega);have f:=Ze ce (hc j cg);obtain⟨v,D,ae⟩:=Za bs;obtain⟨q1,q2,q3⟩:=Za HN;rw[Zfc cg] at q3;obtain⟨s,hs⟩:=ZF (l[j]);rw[hs] at f q3;obtain⟨r,hr⟩:=ZF (nm L' s);rw[hr] at q3;obtain⟨M',n',e'⟩:=r;simp only at q3;have CN:=Zb (Zpy (w.heap.size+2) p bm v D L' M' s n' e' wr ae q2.1 hr)
      have NR:Hid (e'=0->Right M'):=λh=>by
        have:=nm_right (L:=L') (s:=s) q2;rw[hr] at this;exact this h
      by_cases he:e'=0
      · subst he
        rw[if_pos rfl] at q3;obtain⟨Q3,cl⟩:=kh2 q3 q1;go_wp2_with fail;refine CN.mono ?_;rintro y w5 ⟨rfl,bf,ak,az⟩;have F5:=HF.far az;obtain⟨⟨u,hu⟩,dm,dq⟩:=F5.old cj;have eo:=Zb F5;have hq:N'.length=j:=Za cl;have ST:=Zb (F5.step (by omega) n');rw[hq] at ST;have cu:=Zb (ap.trans (ak.mono (by omega)))
        have W5:Hid (∃ v D,Wr (w.heap.size+2) p bm (w5.setCell ⟨g,j,aD⟩ (E J n')) v D M'):=by
          obtain⟨v',D',h'⟩:=(by first|exact bf|exact bf rfl|exact bf (by trivial):∃ v' D',Wr (w.heap.size+2) p bm w5 v' D' M');exact⟨v',D',h'.beside F5.block.2⟩
        have C5:Hid ((w5.setCell ⟨g,j,aD⟩ (E J n')).heap[w.heap.size+1]? = dG (dA #[F aD 0 0] 24 (0,0))):=by
          show _=_;rw[heap_setCell_other _ _ _ _ (by show w.heap.size+1≠g;have:=F5.block.1;omega),ak.block _ (by omega)];exact Za HC
        have ag:=Zb (cu.setCell (p:=⟨g,j,aD⟩) (by show w.heap.size<=g;have:=F5.block.1;omega) (E J n'));go_wp2;go_roundw
        case rel=>exact⟨j+1,M',N'++[n'],by omega,by go_num,Za ag,W5,ST,⟨by simp;exact Za cl,NR (by trivial),Za Q3⟩,C5⟩
        case measure=>simp[intOf];omega
      · rw[if_neg he] at q3
        have e1:M=[]:=(by injection q3 with q3 _;exact q3.symm);have e2:N=[]:=(by injection q3 with _ q3;injection q3 with q3 _;exact q3.symm);have e3:x=e':=(by injection q3 with _ q3;injection q3 with _ q3;exact q3.symm);subst e1 e2 e3;have g5:(x != 0)=true:=(by simp[he]);go_wp2_with fail;refine CN.mono ?_;rintro y w5 ⟨rfl,-,ak,az⟩;have F5:=HF.far az;obtain⟨⟨u,hu⟩,dm,dq⟩:=F5.old cj;have eq:w.heap.size+2<=g:=F5.block.1
        have c5:(w5.setCell ⟨g,j,aD⟩ (E J n')).heap[w.heap.size+1]? = dG (dA #[F aD 0 0] 24 (0,0)):=by
          rw[heap_setCell_other _ _ _ _ (by show w.heap.size+1≠g;omega),ak.block _ (by omega)];exact Za HC
        obtain⟨Z,hZ⟩:=ZG (w5.setCell ⟨g,j,aD⟩ (E J n'));have ag:=Zb ((ap.trans (ak.mono (by omega))).setCell (p:=⟨g,j,aD⟩) (by show w.heap.size<=g;omega) (E J n'));rw[<-hZ] at c5 ag;have d0:Z.cell? ⟨w.heap.size+1,0,aD⟩=dG (F aD 0 0):=(by simp[bF,c5]);have df:Z.frozen? ⟨w.heap.size+1,0,aD⟩=false:=(by simp[World.frozen?,c5]);rw[hZ] at d0 df ag;go_wp2;refine aL (v:=dC #[.agg #[F aD 0 0],F aD 0 0,E J x]) ?_ rfl ⟨⟨_,_,_,_,_,_,rfl,λ_ _=>TextsAt.nil _ _,SlOk.nil,IntsAt.nil _ _,aI _,aE _⟩,?_⟩
        · rw[Xh rfl]
          go_simp
        · exact ag.setCell (Nat.le_succ _) _
    · have e:j=nl:=by omega
      subst e;obtain⟨q1,q2,q3⟩:=Za HN;rw[Ep (by rw[(Za bo).1];exact aE _)] at q3;have e1:M=L':=(by injection q3 with q3 _;exact q3.symm);have e2:N=N':=(by injection q3 with _ q3;injection q3 with q3 _;exact q3.symm);have e3:x=0:=(by injection q3 with _ q3;injection q3 with _ q3;exact q3.symm);subst e1 e2 e3;obtain⟨v,D,ae⟩:=Za bs;obtain⟨d1,d2,-⟩:=ae.cell0;have ho:=ae.own;obtain⟨a',c',rfl,s1,s2,s3,s4⟩:=Wn ae.own;have cy:Hid (SlOk a' M.length c'):=⟨s1,s2,s3⟩;have HT:Hid (∀ u w2,Gr (wr.setCell ⟨w.heap.size+1,0,aD⟩ u) w2 (λk=>k<w.heap.size)->TextsAt w2 a' M.length M):=λu w2 g2=>texts_own (Wv ho (λk cs dp hk=>(g2.block k (by simpa[World.setCell] using aA hk) (by omega)).trans (heap_setCell_other _ _ _ _ (by show k≠w.heap.size+1;omega))))
      have HI:Hid (∀ u,IntsAt (wr.setCell ⟨w.heap.size+1,0,aD⟩ u) (dG ⟨g,0,aD⟩) j N):=λu=>by
        obtain⟨xs,ef,ee⟩:=Za HF;exact Filled.ints ⟨xs,Wv ef (λk cs dp _=>heap_setCell_other _ _ _ _ (by show k≠w.heap.size+1;omega)),ee⟩ q1
      have c5:=Za HC;have d0:wr.cell? ⟨w.heap.size+1,0,aD⟩=dG (F aD 0 0):=(by simp[bF,c5]);have df:wr.frozen? ⟨w.heap.size+1,0,aD⟩=false:=(by simp[World.frozen?,c5]);have er:w.heap.size+1≠p:=(by have:=ae.pge;omega);go_wp2;refine aL (v:=dC #[.agg #[F a' M.length c'],F (dG ⟨g,0,aD⟩) j j,E J 0]) ?_ rfl ⟨⟨_,_,_,_,_,_,rfl,HT _,Za cy,HI _,aE _,aE _⟩,?_⟩
      · rw[Xh rfl]
        go_simp
      · exact ap.setCell (Nat.le_succ _) _
open Go.RowKit Go.Maps
def nameR(L:List ByteArray)(s:ByteArray):List ByteArray×Int×Int:=if bkChk L=0 then nm L s else ([],0,bkChk L)
theorem En(w:World)(s:ByteArray):TextsAt (w.alloc (dA #[.string s] 9)) (dG ⟨w.heap.size,0,aD⟩) 1 [s]:=
  ⟨rfl,λ_=>⟨w.heap.size,0,rfl,λi hi=>by
    have e:i=0:=(by simp at hi;omega);subst e;exact Jp w (.string s) 9⟩⟩
theorem Zrc(L)(s:ByteArray):allR L [s]=((nameR L s).1,(if (nameR L s).2.2=0 then [(nameR L s).2.1] else []),(nameR L s).2.2):=by
  unfold allR nameR;by_cases h0:bkChk L=0
  · rw[if_pos h0,if_pos h0]
    simp only[nmGo,List.nil_append];by_cases h1:(nm L s).2.2=0
    · rw[if_pos h1,if_pos h1];rw[h1]
    · rw[if_neg h1,if_neg h1]
      have:(nm L s).1=[]:=by
        unfold nm at *;by_cases h2:4000<s.size
        · rw[if_pos h2]
        · rw[if_neg h2] at *
          by_cases h3:place s L≠0
          · rw[if_pos h3] at h1;exact absurd rfl h1
          · rw[if_neg h3] at *
            by_cases h4:120<=L.length
            · rw[if_pos h4]
            · rw[if_neg h4] at h1;exact absurd rfl h1
      rw[this]
  · rw[if_neg h0,if_neg h0]
    simp[h0]
theorem Zma{L}{s:ByteArray}(h:(nameR L s).2.2≠0):(nameR L s).1=[]/\(nameR L s).2.1=0:=by
  unfold nameR at *;by_cases h0:bkChk L=0
  · rw[if_pos h0] at *
    unfold nm at *;by_cases h2:4000<s.size
    · rw[if_pos h2];exact⟨rfl,rfl⟩
    · rw[if_neg h2] at *
      by_cases h3:place s L≠0
      · rw[if_pos h3] at h;exact absurd rfl h
      · rw[if_neg h3] at *
        by_cases h4:120<=L.length
        · rw[if_pos h4];exact⟨rfl,rfl⟩
        · rw[if_neg h4] at h;exact absurd rfl h
  · rw[if_neg h0];exact⟨rfl,rfl⟩
end Bk
open Go.RowKit
def Yn(b:Zk):List ByteArray:=b.2.2.2.2.map Zr++[Xl b]
def Xk(L:List ByteArray)(b:Zk):List ByteArray×Int×List Int×Int:=
  if Yu b≠0 then ([],0,[],Yu b)
  else if (Bk.allR L (Yn b)).2.2≠0 then ([],0,[],(Bk.allR L (Yn b)).2.2)
  else ((Bk.allR L (Yn b)).1,(Bk.allR L (Yn b)).2.1.getD b.2.2.2.2.length 0,(Bk.allR L (Yn b)).2.1.take b.2.2.2.2.length,0)
def NmR(w w':World)(M:List ByteArray)(nm:Int)(N:List Int)(x:Int)(e:Ending):Prop:=
  ∃ a' n' c' a2 n2 c2,e = dB (dC #[.agg #[F a' n' c'],E J nm,F a2 n2 c2,E J x])/\Bk.TextsAt w' a' n' M/\Bk.SlOk a' n' c'/\Bk.IntsAt w' a2 n2 N/\n2<=c2/\ZD w w'
theorem NmR.drew{w w':World}{M}{nm:Int}{N}{x:Int}{e}(h:NmR w w' M nm N x e):NmR w w'.drew M nm N x e:=by
  obtain⟨a,n,c,a2,n2,c2,h1,h2,h3,h4,h5,h6⟩:=h;exact⟨a,n,c,a2,n2,c2,h1,h2,h3,h4,h5,Zf h6 (Zj _)⟩
theorem Ji{fn:Func}{p u v z:Tmp}{ty:aY}(h:fn.results=#[.cell p ty,.tmp u,.tmp v,.tmp z])(tmps:Array Value)(P:Program)(w) :
    (results fn tmps).run P w =
      ((asAddr (tmps.getD p undef)).run P w).andThen λa w₁=>((loadVar ty a).run P w₁).andThen λx w₂=>.ok (dC #[x,tmps.getD u undef,tmps.getD v undef,tmps.getD z undef]) w₂:=by
  simp only[results,h];simp[Sem.run_bind,Result.andThen]
theorem Xj(w:World)(a)(t:aY):(w.alloc (dA #[a] t)).heap[w.heap.size]? = dG (dA [a].toArray t (0,0)):=aG w _
theorem Zem{w:World}{base g cap m:Nat}{xs:List Value}{T:List TxD}{t:ByteArray}(ho:w.ownsRow base 9 1 (F (dG ⟨g,0,aD⟩) (m+1) cap) (m+1) (xs++[.string t]))(hz:T.length=m)(hl:xs.length=m)(hx:∀ j,j<m->xs[j]? = dG (txV T j)):Bk.TextsAt w (dG ⟨g,0,aD⟩) (m+1) (T.map Zr++[t]):=by
  refine⟨by simp[hz],λ_=>⟨g,0,rfl,λi hi=>?_⟩⟩;have ae:i<m+1:=by simpa[hz] using hi
  rw[bO,ho.cellAt i (by omega)];by_cases h:i<m
  · rw[List.getElem?_append_left (by omega),hx i h]
    rw[List.getElem_append_left (by simp;omega)];simp[txV,(by omega:i<T.length)]
  · have e:i=m:=by omega
    subst e;rw[List.getElem?_append_right (by omega),List.getElem_append_right (by simp;omega)];simp[hl,hz]
def OutOk(ty:aY)(o:Nat)(W:World):Prop:=∃ a n c,W.heap[o]? = dG (dA #[F a n c] ty (0,0))
theorem OutOk.later{ty:aY}{o:Nat}{W V:World}(h:OutOk ty o W)(hb:ZD W V):OutOk ty o V:=by
  obtain⟨a,n,c,h⟩:=h;exact⟨a,n,c,ZE hb h⟩
theorem OutOk.grown{ty:aY}{o B:Nat}{W V:World}(h:OutOk ty o W)(hg:W.grownBy V (dG B))(hn:o≠B):OutOk ty o V:=by
  obtain⟨a,n,c,h⟩:=h;exact⟨a,n,c,(hg.block _ (aA h) (λe=>hn (Option.some.inj e))).trans h⟩
theorem OutOk.put{ty:aY}{o:Nat}{W:World}(h:OutOk ty o W)(b:Nat)(e:b=o)(a' n' c'):OutOk ty o (W.setCell ⟨b,0,aD⟩ (F a' n' c')):=by
  subst e;obtain⟨a,n,c,h⟩:=h;exact⟨a',n',c',Uf h⟩
theorem OutOk.cell{ty:aY}{o:Nat}{W:World}(h:OutOk ty o W):∃ z,W.cell? ⟨o,0,aD⟩=dG z:=by
  obtain⟨a,n,c,h⟩:=h;exact⟨F a n c,by simp[bF,h]⟩
theorem OutOk.free{ty:aY}{o:Nat}{W:World}(h:OutOk ty o W):W.frozen? ⟨o,0,aD⟩=false:=by
  obtain⟨a,n,c,h⟩:=h;simp[World.frozen?,h]
theorem OutOk.other{ty:aY}{o b j:Nat}{W:World}{v u}(h:OutOk ty o W)(hc:W.cell? ⟨b,j,aD⟩=dG v)(hv:∀ a n c,v ≠ F a n c):(W.setCell ⟨o,0,aD⟩ u).cell? ⟨b,j,aD⟩=dG v:=by
  have ab:b≠o:=λe=>by
    subst e;obtain⟨a,n,c,h⟩:=h;cases j with
    | zero=>simp[bF,h] at hc;exact hv a n c hc.symm
    | succ i=>simp[bF,h] at hc
  rw[<-hc];exact bU (a:=⟨b,j,aD⟩) (Below.heap_setCell W ⟨o,0,aD⟩ u b (λe=>ab e))
theorem Zab{ty:aY}{o:Nat}{W:World}{a n N u}(h:Bk.IntsAt W a n N)(ho:OutOk ty o W):Bk.IntsAt (W.setCell ⟨o,0,aD⟩ u) a n N:=by
  refine⟨h.1,λh0=>?_⟩;obtain⟨b,off,e,hc⟩:=h.2 h0;exact⟨b,off,e,λi hi=>ho.other (hc i hi) (λ_ _ _ q=>by cases q)⟩
def NmS(ty:aY)(w1:World)(B:Nat)(v u:Value)(W:World):Prop:=Gr w1 W (λq=>q=B+2)/\W.cell? ⟨B,0,aD⟩=dG v/\W.cell? ⟨B+1,4,aD⟩=dG u/\OutOk ty (B+2) W
theorem Gr.grow2{w1 W V:World}{S:Nat->Prop}{B:Nat}(h:Gr w1 W S)(hg:W.grownBy V (dG B))(hB:w1.heap.size<=B):Gr w1 V S:=h.grown hg (λk e=>.inr (by injection e with e;omega))
theorem Ma:∀ (l:List ByteArray) (L:List ByteArray) (N:List Int) (M:List ByteArray) (N':List Int),Bk.nmGo L N l=(M,N',0)->N'.length=N.length+l.length
  | [],L,N,M,N',h=>by
    unfold Bk.nmGo at h;injection h with _ h;injection h with h _;subst h;rfl
  | s :: r,L,N,M,N',h=>by
    unfold Bk.nmGo at h;split at h
    · have:=Ma r _ _ M N' h
      rw[this,bL,cK,cK,List.length_nil];omega
    · rename_i q
      injection h with _ h;injection h with _ h;exact absurd h q
theorem Zbo{L l M:List ByteArray}{N:List Int}(h:Bk.allR L l=(M,N,0)):N.length=l.length:=by
  unfold Bk.allR at h;split at h
  · have:=Ma l L [] M N h
    rw[this];simp
  · rename_i q
    injection h with _ h;injection h with _ h;exact absurd h q
theorem Zeo:∀ (l:List Int) (s:Int),(sm s l).2=0->∀ x∈l,0<=x/\x<=1000000000
  | [],_,_=>by simp
  | y :: r,s,h=>by
    intro x hx;unfold sm at h;split at h
    · rename_i hy
      split at h
      · rcases aW.1 hx with rfl|hx
        · exact hy
        · exact Zeo r _ h x hx
      · cases h
    · cases h
theorem Xc{t:TxD}(h:Zp t=0):t.2.1.length<=6/\t.2.2.length<=6/\0<t.2.2.length/\Mq t=true/\Z8 [] t.2.1=0/\Z0 t.2.2=0/\(sm 0 (t.2.2.map (·.1))).2=0:=by
  unfold Zp at h;split at h
  · cases h
  rename_i h1;split at h
  · cases h
  rename_i h2;split at h
  · cases h
  rename_i h3;split at h
  · rename_i h4;exact absurd h h4
  rename_i h4;unfold Zx at h;split at h
  · rename_i h5
    exact⟨by omega,by omega,by omega,by simpa using h3,by simpa using h4,h5,h⟩
  · rename_i h5;exact absurd h h5
theorem Jn{t:TxD}(h:Zp t=0):∀ o∈t.2.2,0<=o.1/\o.1<=1000000000:=λo ho=>
  Zeo _ 0 (Xc h).2.2.2.2.2.2 o.1 (List.mem_map_of_mem ho)
theorem Zbd{L t}(h:Vq L t=0):Zy L/\Zp t=0:=by
  unfold Vq at h;split at h
  · rename_i h1;exact absurd h h1
  · rename_i h1;exact⟨(Z6 L).1 (by simpa using h1),h⟩
theorem Wq{L}{t:TxD}{name h:Int}(q:Xu L t name h=0):Zy L/\Zp t=0/\okN name=true/\okH h=true/\(t.2.1.length=0->t.1=h):=by
  unfold Xu at q;split at q
  · rename_i h1;exact absurd q h1
  rename_i h1;split at q
  · cases q
  rename_i h2;split at q
  · cases q
  rename_i h3;obtain⟨r1,r2⟩:=Zbd (by simpa using h1);rw[Bool.not_eq_false,aX] at h2;refine⟨r1,r2,h2.1,h2.2,λe=>?_⟩;refine Decidable.byContradiction λn=>h3 ⟨by unfold isR;exact decide_eq_true e,n⟩
theorem Zeg{L}{t:TxD}{name h x1 x2 x3 x4 x5:Int}{S2 M2 M4}(h1:Xu L t name h=x1)(h2:Zs h t.2.1 [] L=(x2,S2,M2))(h3:N7 S2 t=x3)(h4:Yp name h (isR t) 0 t.2.2 M2=(x4,M4))(h5:Zz M4=x5) :
    apD L t name h=if x1≠0 then (x1,[],[]) else if x2≠0 then (x2,[],[]) else if x3≠0 then (x3,[],[]) else if x4≠0 then (x4,[],[]) else if x5≠0 then (x5,[],[]) else (0,M4,S2):=by
  unfold apD;simp only[h1,h2,h3,h4,h5]
theorem Zry{L S:List Zi}{t:TxD}{name x1 x2 x3 x4:Int}{M2 M3}(h1:Vq L t=x1)(h2:Ua name 0 t.2.2 L=(x2,M2))(h3:Qd t.2.1 S M2=(x3,M3))(h4:Zz M3=x4) :
    rvD L t name S=if x1≠0 then (x1,[]) else if S.length≠t.2.1.length then (4,[]) else if x2≠0 then (x2,[]) else if x3≠0 then (x3,[]) else if x4≠0 then (x4,[]) else (0,M3):=by
  unfold rvD;simp only[h1,h2,h3,h4]
theorem Pv{l:List (Int×Int)}(h:chk l=0):l.length<=16:=by
  unfold chk at h;split at h
  · cases h
  · omega
namespace Bk
open Go.RowKit Go.Maps
theorem all_isF(a al n c nl cl L l M N)(x:Int)(w:World)(h:TextsAt w a n L)(hl:TextsAt w al nl l)(ap:nl<=17592186044416)(hx:allR L l=(M,N,x)) :
    Calls aB 65 #[.agg #[F a n c],F al nl cl] w λe w'=>(∃ a' n' c' a2 n2 c2,e = dB (dC #[.agg #[F a' n' c'],F a2 n2 c2,E J x])/\(∀ w2,Gr w' w2 (λk=>k<w.heap.size)->TextsAt w2 a' n' M)/\SlOk a' n' c'/\IntsAt w' a2 n2 N/\n2<=nl/\n2<=c2)/\ZD w w':=by
  unfold allR at hx;by_cases h0:bkChk L=0
  · rw[if_pos h0] at hx
    exact Zeh a al n c nl cl L l M N x w h hl ap ((right_iff L).1 h0) hx
  · rw[if_neg h0] at hx
    have e1:M=[]:=(by injection hx with hx _;exact hx.symm);have e2:N=[]:=(by injection hx with _ hx;injection hx with hx _;exact hx.symm);have e3:bkChk L=x:=(by injection hx with _ hx;injection hx with _ hx);subst e1 e2;refine (Zrd a al n c nl cl L w h x e3 (by rw[<-e3];exact h0)).mono ?_;rintro e w' ⟨rfl,hb⟩;exact⟨⟨_,_,_,_,_,_,rfl,λ_ _=>TextsAt.nil _ _,SlOk.nil,IntsAt.nil _ _,aI _,aE _⟩,hb⟩
theorem name_fresh(a n c L M)(s:ByteArray)(k x:Int)(w:World)(h:TextsAt w a n L)(hx:nameR L s=(M,k,x)) :
    Calls aB 206 #[.agg #[F a n c],.string s] w λe w'=>(∃ a' n' c',e = dB (dC #[.agg #[F a' n' c'],E J k,E J x])/\(∀ w2,Gr w' w2 (λk=>k<w.heap.size)->TextsAt w2 a' n' M)/\SlOk a' n' c')/\ZD w w':=by
  have br:=Zh w (dA #[F a n c] 24);have ae:=Zh (w.alloc (dA #[F a n c] 24)) (dA #[F aD 0 0] 24);have bv:(w.alloc (dA #[F a n c] 24)).heap.size=w.heap.size+1:=by simp
  have bw:((w.alloc (dA #[F a n c] 24)).alloc (dA #[F aD 0 0] 24)).heap.size=w.heap.size+1+1:=by simp
  have c1:=aG (w.alloc (dA #[F a n c] 24)) (dA #[F aD 0 0] 24);rw[bv] at c1;have aa:=Zh ((w.alloc (dA #[F a n c] 24)).alloc (dA #[F aD 0 0] 24)) (dA #[.string s] 9);have ht:=En ((w.alloc (dA #[F a n c] 24)).alloc (dA #[F aD 0 0] 24)) s;rw[bw] at ht;have hb:=Zf (Zf br ae) aa;have c2:=ZE aa c1;have ea:=Zrc L s;rw[hx] at ea;have ER:=Zma (L:=L) (s:=s);rw[hx] at ER;simp only at ea ER;obtain⟨AL,HB,C2⟩:=kh3 (all_isF a (dG ⟨w.heap.size+1+1,0,aD⟩) n c 1 1 L [s] M (if x=0 then [k] else []) x _ (h.later hb) ht (by decide) ea) hb c2;by_cases h0:x=0
  · subst h0
    rw[if_pos rfl] at AL;go_enter func206,ntmps206;go_wp2_with fail;refine AL.mono ?_;rintro e w2 ⟨⟨a',n',c',a2,n2,c2,rfl,t1,t2,t3,-⟩,ae⟩;obtain⟨t4,t5⟩:=t3;have e:n2=1:=(by rw[<-t4];rfl);subst e;obtain⟨b,off,rfl,hc⟩:=t5 (by decide);have f:=hc 0 (by simp);simp only[Nat.add_zero,List.getElem_cons_zero] at f;have af:=Zb (Zf HB ae);have c3:=ZE ae C2;have aa:=Zh w2 (dA #[F a' n' c'] 24);have c4:=ZE aa c3;have bh:=Zb t2;have bu:w.heap.size+1<w2.heap.size:=aA c3;have f2:=Ze aa f;have n0:=Jp w2 (F a' n' c') 24
    have bz:b≠w.heap.size+1:=by
      intro e;subst e;rw[cell_of_row _ _ _ _ _ _ c3] at f
      rcases off with _|off
      · simp at f
      · simp at f
    obtain⟨X,hX⟩:=ZG (w2.alloc (dA #[F a' n' c'] 24));rw[<-hX] at c4 f2 n0 aa;have au:=Zb (Zf af aa);have d0:X.cell? ⟨w.heap.size+1,0,aD⟩=dG (F aD 0 0):=(by simp[bF,c4]);have df:X.frozen? ⟨w.heap.size+1,0,aD⟩=false:=(by simp[World.frozen?,c4]);have bx:b<X.heap.size:=aC _ _ f2;have ca:¬w2.heap.size=w.heap.size+1:=(by omega);have TS:Hid (∀ u w2,Gr (X.setCell ⟨w.heap.size+1,0,aD⟩ u).drew w2 (λk=>k<w.heap.size)->TextsAt w2 a' n' M):=λu w2 g2=>t1 w2 (((((Gr.of aa).set (p:=⟨w.heap.size+1,0,aD⟩) (.inl (by simp)) u).draw).trans (g2.mono (λ_ _ hk=>aF hk (by simp;omega)))));clear t1 t2 ae aa c3 c4 f hc t4 t5;go_wp2;rw[<-hX];clear hX
    go_region
    go_wp2;refine aL (v:=dC #[.agg #[F a' n' c'],E J k,E J 0]) ?_ rfl ⟨⟨_,_,_,rfl,TS _,Za bh⟩,?_⟩
    · rw[Xh rfl]
      go_simp
    · exact (au.setCell (Nat.le_succ _) _).drew
  · rw[if_neg h0] at AL
    obtain⟨rfl,rfl⟩:=ER h0;have g:(x != 0)=true:=(by simp[h0]);go_enter func206,ntmps206;go_wp2_with fail;refine AL.mono ?_;rintro e w2 ⟨⟨a',n',c',a2,n2,c2,rfl,t1,t2,t3,-⟩,ae⟩;have af:=Zb (Zf HB ae);have c3:=ZE ae C2;have aa:=Zh w2 (dA #[F a' n' c'] 24);have c4:=ZE aa c3;have au:=Zb (Zf af aa);have bu:w.heap.size+1<w2.heap.size:=aA c3;have d0:w2.cell? ⟨w.heap.size+1,0,aD⟩=dG (F aD 0 0):=(by simp[bF,c3]);have df:w2.frozen? ⟨w.heap.size+1,0,aD⟩=false:=(by simp[World.frozen?,c3]);go_wp2;refine aL (v:=dC #[.agg #[F aD 0 0],E J 0,E J x]) ?_ rfl ⟨⟨_,_,_,rfl,λ_ _=>TextsAt.nil _ _,SlOk.nil⟩,?_⟩
    · rw[Xh rfl]
      go_simp
    · exact (af.setCell (Nat.le_succ _) _).alloc (by have:=af.size;simp;omega) _
end Bk
open Go.RowKit
def Um:List (Int×Int)->List Value
  | []=>[]
  | o :: r=>E J o.1 :: E J o.2 :: Um r
theorem Vz:∀ l:List (Int×Int),(Um l).length=l.length*2
  | []=>rfl
  | _ :: r=>by simp only[Um,cK,Vz r];omega
theorem Mt:∀ (l:List (Int×Int)) (i:Nat),i<l.length->(Um l)[i*2]? = dG (E J (l.getD i (0,0)).1)/\(Um l)[i*2+1]? = dG (E J (l.getD i (0,0)).2)
  | [],_,h=>absurd h (by simp)
  | o :: r,0,_=>⟨rfl,rfl⟩
  | o :: r,i+1,h=>by
    have:=Mt r i (by simpa using h);rw[show (i+1)*2=i*2+2 by omega];simpa[Um] using this
theorem Gh:∀ (l:List (Int×Int)) (u:Value),u∈Um l->u.oneCell'=true
  | [],u,h=>by cases h
  | o :: r,u,h=>by
    simp only[Um,aW] at h
    rcases h with rfl|rfl|h
    · rfl
    · rfl
    · exact Gh r u h
theorem Hh{w:World}{b off n:Nat}{l:List (Int×Int)}(hz:l.length=n)(hc:∀ i,i<n->w.cell? ⟨b,off+i*2,aD⟩=dG (E J (l.getD i (0,0)).1)/\w.cell? ⟨b,off+i*2+1,aD⟩=dG (E J (l.getD i (0,0)).2))(j:Nat)(u)(hj:(Um l)[j]? = dG u):w.cell? ⟨b,off+j,aD⟩=dG u:=by
  have ae:j<l.length*2:=by rw[<-Vz];exact (cD.1 hj).1
  obtain⟨f0,f1⟩:=Mt l (j / 2) (by omega);obtain⟨c0,c1⟩:=hc (j / 2) (by omega)
  rcases (show j % 2=0\/j % 2=1 by omega) with q|q
  · have e:j=j / 2*2:=by omega
    rw[<-e] at f0 c0;rw[f0] at hj;rw[c0,<-hj]
  · have e:j=j / 2*2+1:=by omega
    rw[<-e] at f1;rw[show off+j / 2*2+1=off+j by omega] at c1;rw[f1] at hj;rw[c1,<-hj]
theorem Pe{w:World}{base:Nat}{v}{n:Nat}{l}(h:w.ownsRow base 139 2 v n (Um l)):∃ a c,v = F a n c/\OpsAt w a n l/\SlOk a n c/\(∀ ad,a=dG ad->base<=ad.block):=by
  have hl:l.length=n:=by have:=h.1;rw[Vz] at this;omega
  rcases h.2 with ⟨rfl,rfl⟩|⟨g,cap,af,rfl,hg,hh,h1,h2,h3,h4⟩
  · exact⟨aD,0,rfl,⟨hl,λh=>absurd h (by omega)⟩,⟨aE _,aI _,λ_=>⟨rfl,rfl⟩⟩,λad e=>by cases e⟩
  · refine⟨_,cap,rfl,⟨hl,λ_=>⟨g,0,rfl,λi hi=>?_⟩⟩,⟨h1,h2,λe=>by cases e⟩,λad e=>by cases e;exact hg⟩
    obtain⟨f0,f1⟩:=Mt l i (by omega);rw[bO,bH h _ (by omega),bH h _ (by omega)];exact⟨f0,f1⟩
theorem Tryz.infoOpC:(Tryz.prog.info? 139).map (λi=>(i.zero,i.size,i.bytes))=dG (dG (.agg #[E J 0,E J 0]),2,16):=by kernel_rfl
theorem Zay(w):Calls aB 186 #[F aD 0 0] w λe w'=>e = dB (F aD 0 0)/\w=w':=by
  have he:=λw=>Lib.run_eql_slice_nil (P:=aB) w 88 139 aD 0 0 0 0 underlying88;go_enter func186,ntmps186;go_wp2;go_ret;exact⟨rfl,rfl⟩
theorem A7(ad:Addr)(n c:Nat)(l:List (Int×Int))(w:World)(hn:n<=8796093022208)(hz:l.length=n)(hc:∀ j u,(Um l)[j]? = dG u->w.cell? (ad.add j)=dG u) :
    Calls aB 186 #[F (dG ad) n c] w λe w'=>∃ v,e = dB v/\w'.ownsRow w.heap.size 139 2 v n (Um l)/\ZD w w':=by
  obtain⟨i0,hi,ap,aq,ar⟩:=bX Tryz.infoOpC;have hb:=Zh w (dA #[] 139);have HC:Hid (∀ j u,(Um l)[j]? = dG u->(w.alloc (dA #[] 139)).cell? (ad.add j)=dG u):=λj u hj=>Ze hb (hc j u hj);obtain⟨HB,HZ,HO⟩:=kh3 hb hz (U1 w 139 2);have he:=λw=>Lib.run_eql_slice_nil (P:=aB) w 88 139 (dG ad) n c 0 0 underlying88;clear hc hb hz;go_enter func186,ntmps186
  go_wp2_with (at_builtin;refine wpList_append_own _ rfl _ _ 88 rfl w.heap.size 139 i0 (.agg #[E J 0,E J 0]) 2 16 underlying88 hi ap aq ar rfl (by decide) _ _ _ rfl HO ad n c (Um l) rfl (by rw[Vz,Za HZ]) HC (Gh l) (by unfold aT;omega) (by omega) HB.size ?_;intro v2 w3 ag af _)
  have HW:Hid (w3.ownsRow w.heap.size 139 2 v2 n (Um l)):=by show cP _ _ _ _ _ _ _;simpa using ag
  have aj:=Zb (HB.grown af HB.size (Xz HO));clear ag af;go_wp2;go_ret;exact⟨v2,rfl,Za HW,Za aj⟩
theorem Hl(a)(n c:Nat)(l)(w:World)(hn:n<=8796093022208)(h:OpsAt w a n l)(hs:SlOk a n c) :
    Calls aB 186 #[F a n c] w λe w'=>∃ v,e = dB v/\w'.ownsRow w.heap.size 139 2 v n (Um l)/\ZD w w':=by
  obtain⟨hl,hc⟩:=h;cases a with
  | none=>
    obtain⟨rfl,rfl⟩:=hs.2.2 rfl;have e:l=[]:=aJ.1 hl;subst e;exact (Zay w).mono λe w' ⟨x,y⟩=>⟨_,x,y ▸ ⟨rfl,.inl ⟨rfl,rfl⟩⟩,y ▸ Below.refl _ _⟩
  | some ad=>
    refine A7 ad n c l w hn hl λj u hj=>?_;have ag:j<l.length*2:=(by rw[<-Vz];exact (cD.1 hj).1);obtain⟨b,off,e,ae⟩:=hc (by omega);cases e;rw[Addr.add_lit];exact Hh hl ae j u hj
theorem cloneOp_any(a)(n c:Nat)(l)(w:World)(hn:n<=8796093022208)(h:OpsAt w a n l)(hs:SlOk a n c) :
    Calls aB 186 #[F a n c] w λe w'=>∃ a' c',e = dB (F a' n c')/\OpsAt w' a' n l/\SlOk a' n c'/\(∀ ad,a'=dG ad->w.heap.size<=ad.block)/\ZD w w':=by
  refine (Hl a n c l w hn h hs).mono ?_;rintro e w' ⟨v,rfl,x,y⟩;obtain⟨a',c',rfl,h1,h2,h3⟩:=Pe x;exact⟨a',c',rfl,h1,h2,h3,y⟩
theorem Ta{fn:Func}{p:Tmp}{ty:aY}(h:fn.results=#[.cell p ty])(tmps:Array Value)(P:Program)(w) :
    (results fn tmps).run P w=((asAddr (tmps.getD p undef)).run P w).andThen λa w₁=>(loadVar ty a).run P w₁:=by
  simp only[results,h];simp[Sem.run_bind,Result.andThen]
theorem OpsAt.gr{w w'}{S:Nat->Prop}{a n l}(h:OpsAt w a n l)(g:Gr w w' S)(hn:∀ ad,a=dG ad->¬S ad.block):OpsAt w' a n l:=by
  refine⟨h.1,λh0=>?_⟩;obtain⟨b,off,rfl,hc⟩:=h.2 h0;refine⟨b,off,rfl,λi hi=>?_⟩;obtain⟨c0,c1⟩:=hc i hi;have hb:=g.block b (aC _ _ c0) (hn _ rfl);exact⟨(bU (a:=⟨b,off+i*2,aD⟩) hb).trans c0,(bU (a:=⟨b,off+i*2+1,aD⟩) hb).trans c1⟩
theorem Tu(x:Int)(a)(n c:Nat)(l)(w:World)(hn:n<=4096)(h:OpsAt w a n l)(hs:SlOk a n c) :
    Calls aB 191 #[.agg #[E J x,F a n c]] w λe w'=>∃ a' c',e = dB (.agg #[E J x,F a' n c'])/\OpsAt w' a' n l/\SlOk a' n c'/\(∀ ad,a'=dG ad->w.heap.size<=ad.block)/\ZD w w':=by
  obtain⟨X,hX⟩:=ZG ((w.alloc (dA #[E J x,F a n c] 92)).alloc (dA #[E J 0,F aD 0 0] 92));have al:ZD w X:=by rw[hX];exact Zf (Zh _ _) (Zh _ _)
  have x0:X.cell? ⟨w.heap.size,0,aD⟩=dG (E J x):=by rw[hX];exact Ze (Zh _ _) (Yo w _ _ _).1
  have x1:X.cell? ⟨w.heap.size,1,aD⟩=dG (F a n c):=by rw[hX];exact Ze (Zh _ _) (Yo w _ _ _).2
  have ap:X.heap[w.heap.size+1]? = dG (dA [E J 0,F aD 0 0].toArray 92 (0,0)):=by
    rw[hX];have:=aG (w.alloc (dA #[E J x,F a n c] 92)) (dA #[E J 0,F aD 0 0] 92);rw[show (w.alloc (dA #[E J x,F a n c] 92)).heap.size=w.heap.size+1 by simp] at this;exact this
  obtain⟨C,aj,an⟩:=kh3 (cloneOp_any a n c l X.drew (aO hn (by decide)) (h.later (Zf al (Zj X))) hs) ap al;go_enter func191,ntmps191;go_wp2_with fail;rw[<-hX];clear hX
  go_region_with (go_at_call 186;refine C.mono ?_;rintro e w3 ⟨a',c',rfl,ag,ah,ae,ac⟩;have o2:w3.cell? ⟨w.heap.size,0,aD⟩=dG (E J x):=Ze ac (Ze (Zj _) x0);have af:=ZE ac aj;have c0:=Zd af 0 _ rfl;have c1:=Zd af 1 _ rfl;have f0:=Zg af 0;have f1:=Zg af 1;have H3:Hid (OpsAt w3 a' n l/\SlOk a' n c'/\(∀ ad,a'=dG ad->X.heap.size<=ad.block)/\Below X.drew.heap.size X.drew w3):=⟨ag,ah,ae,ac⟩;clear ag ah ae ac af)
  all_goals
    go_wp2;obtain⟨ag,ah,ae,ac⟩:=Za H3;have hG:=((Gr.refl w3 (λq=>q=w.heap.size+1)).one (w.heap.size+1) 0 (.inl rfl) (E J x)).one (w.heap.size+1) 1 (.inl rfl) (F a' n c');have ax:=aA aj;refine aL (v:=.agg #[E J x,F a' n c']) ?_ rfl ⟨a',c',rfl,ag.gr hG (λad e q=>?_),ah,λad e=>?_,?_⟩
    · rw[Ta rfl]
      go_simp
    · have:=ae ad e;omega
    · have:=ae ad e;omega
    · have ay:X.heap.size<=w3.heap.size:=ac.size
      exact hG.below (Zf (Zf an (Zj _)) ac) (by omega) (λk hk=>by omega)
theorem Zas(x:Zi)(a)(n c:Nat)(w:World)(hn:n<=4096)(h:OpsAt w a n (ck x))(hs:SlOk a n c) :
    Calls aB 205 #[cnV x a n c] w λe w'=>∃ a' c',e = dB (cnV x a' n c')/\OpsAt w' a' n (ck x)/\SlOk a' n c'/\(∀ ad,a'=dG ad->w.heap.size<=ad.block)/\ZD w w':=by
  unfold cnV;obtain⟨X,hX⟩:=ZG ((w.alloc (dA #[E J x.1,E J x.2.1,E J (cv x),F a n c,E J (ch x),dF (cr x)] 162)).alloc (dA #[E J 0,E J 0,E J 0,F aD 0 0,E J 0,dF false] 162));have al:ZD w X:=by rw[hX];exact Zf (Zh _ _) (Zh _ _)
  have ak:X.heap[w.heap.size]? = dG (dA [E J x.1,E J x.2.1,E J (cv x),F a n c,E J (ch x),dF (cr x)].toArray 162 (0,0)):=by
    rw[hX,bJ _ _ _ (by simp)];exact Vk _ _ _ _ _ _ _ _
  have ar:X.heap[w.heap.size+1]? = dG (dA zeroCs.toArray 162 (0,0)):=by
    rw[hX];have:=aG (w.alloc (dA #[E J x.1,E J x.2.1,E J (cv x),F a n c,E J (ch x),dF (cr x)] 162)) (dA zeroCs.toArray 162);rw[show (w.alloc (dA #[E J x.1,E J x.2.1,E J (cv x),F a n c,E J (ch x),dF (cr x)] 162)).heap.size=w.heap.size+1 by simp] at this;exact this
  obtain⟨C,ap,ah,an⟩:=kh4 (Tu (cv x) a n c (ck x) X hn (h.later al) hs) ak ar al;obtain⟨-,-,x2,x3,-⟩:=kc4 ak;go_enter func205,ntmps205;go_wp2_with fail;rw[<-hX];refine C.mono ?_;rintro e w3 ⟨a',c',rfl,af,ag,ae,ac⟩;have h0:=ZE ac ap;have h1:=ZE ac ah;obtain⟨c0,c1,c2,c3,c4,c5,-,-,f2,f3,-,-,-⟩:=kf6 h0;obtain⟨z0,z1,z2,z3,z4,z5,y0,y1,y2,y3,y4,y5,-⟩:=kf6 h1;have aq:Hid (w.heap.size+1<X.heap.size):=aA ah;have H3:Hid (OpsAt w3 a' n (ck x)/\SlOk a' n c'/\(∀ ad,a'=dG ad->X.heap.size<=ad.block)/\ZD X w3):=⟨af,ag,ae,ac⟩;go_wp2;obtain⟨af,ag,ae,ac⟩:=Za H3;have be:=Za aq;have hG:=(((Gr.refl w3 (λq=>q=w.heap.size\/q=w.heap.size+1)).one w.heap.size 2 (.inl (.inl rfl)) (E J (cv x))).one w.heap.size 3 (.inl (.inl rfl)) (F a' n c')).six (w.heap.size+1) (.inl (.inr rfl)) (E J x.1) (E J x.2.1) (E J (cv x)) (F a' n c') (E J (ch x)) (dF (cr x));refine aL (v:=.agg #[E J x.1,E J x.2.1,E J (cv x),F a' n c',E J (ch x),dF (cr x)]) ?_ rfl ⟨a',c',rfl,af.gr hG (λad e q=>?_),ag,λad e=>?_,?_⟩
  · rw[Ta rfl]
    go_simp
  · have:=ae ad e;rcases q with q|q <;> omega
  · have:=ae ad e;omega
  · exact hG.below (Zf an ac) (Nat.le_of_lt (aF (by omega) ac.size)) (λk hk=>by rcases hk with q|q <;> omega)
def LkIn(w:World)(s:Nat)(x:CV):Prop:=LkAt w x/\∀ ad,x.2.1=dG ad->s<=ad.block
theorem LkIn.later{w w':World}{s:Nat}{x:CV}(h:LkIn w s x)(hb:ZD w w'):LkIn w' s x:=⟨h.1.later hb,h.2⟩
def Fresh(B:Nat)(w:World)(Q:World->Prop):Prop:=∀ w2,Gr w w2 (λk=>k<B)->Q w2
theorem Lz{w:World}{base:Nat}{e:aY}{size:Nat}{v}{n:Nat}{xs}(h:w.ownsRow base e size v n xs):∃ a c,v = F a n c/\SlOk a n c/\(0<n->∃ g,a=dG ⟨g,0,aD⟩/\base<=g/\g<w.heap.size):=by
  rcases h.2 with ⟨rfl,rfl⟩|⟨g,cap,ac,rfl,hg,hh,h1,h2,h3,h4⟩
  · exact⟨aD,0,rfl,⟨aE _,aI _,λ_=>⟨rfl,rfl⟩⟩,λh=>absurd h (by omega)⟩
  · exact⟨_,cap,rfl,⟨h1,h2,λe=>by cases e⟩,λ_=>⟨g,rfl,hg,aA hh⟩⟩
theorem Jw(a)(n c:Nat)(L)(w:World)(hn:n<=4096)(h:CoinsAt w a n L)(cu:SlOk a n c)(hk:∀ x∈L,(ck x).length<=4096) :
    Calls aB 161 #[F a n c] w λe w'=>∃ a' c',e = dB (F a' n c')/\Fresh w.heap.size w' (λw2=>CoinsAt w2 a' n L)/\SlOk a' n c'/\ZD w w':=by
  obtain⟨C1,HZ,HK⟩:=kh3 (Ti a n c L w hn h cu) h.1 hk;clear h hk cu;go_enter func161,ntmps161;go_wp2_with fail;refine C1.mono ?_;rintro e w2 ⟨v,K,rfl,hK,an,aw,bj⟩;have bg:K.length=n:=by rw[<-Za HZ,<-hK,cO]
  rw[bg] at aw;obtain⟨a1,c1,rfl,cq,bq⟩:=Lz aw;obtain⟨G,hG⟩:=ZF (w2.heap.size);rw[hG] at bq;obtain⟨cy,dg,dc,bz,dd⟩:=kh5 bq cq hK bg an;have ST:Hid (w2.ownsRow w.heap.size 162 6 (F a1 n c1) n (Zl ([]++K.drop 0))):=aw;have cw:=Zb bj;have cz:Hid (G<=w2.heap.size):=Nat.le_of_eq hG.symm;have cd:Hid (w.heap.size<=G):=by rw[<-hG];exact bj.size
  clear aw bj hK an cq bq C1 hG bg;go_wp2_with fail
  go_loopw [9] (λi wr=>∃ (k:Nat) (T:List CV),k<=n/\i = E J k/\Hid (T.map (·.1)=L.take k)/\Hid (T.length=k)/\Hid (wr.ownsRow w.heap.size 162 6 (F a1 n c1) n (Zl (T++K.drop k)))/\Hid (∀ z∈T,LkIn wr G z)/\Hid (ZD w wr)/\Hid (G<=wr.heap.size)) (λi _=>n - (intOf i).toNat)
  case atStart=>exact⟨0,[],aI _,rfl,rfl,rfl,ST,(λz hz=>(by cases hz):∀ z∈([]:List CV),LkIn w2 G z),cw,cz⟩
  case round=>
    obtain⟨k,T,hk,rfl,HT,az,HO,ap,HB,da⟩:=hrel;by_cases cm:k<n
    · have an:k<L.length:=by rw[Za HZ];exact cm
      have cl:k<K.length:=(by rw[Za bz];exact cm);obtain⟨g,rfl,dy,dx⟩:=cy (by omega)
      have bh:(K[k]).1=L[k]:=by
        have:=Za dc;subst this;rw[List.getElem_map]
      have av:=HK _ (aQ an);have ce:=(dd _ (aQ cl)).later HB;have ay:Hid (L.take (k+1)=L.take k++[L[k]]):=aH an
      have cb:Hid (T++K.drop k=T++K[k] :: K.drop (k+1)):=by
        show _=_;rw[aK cl]
      obtain⟨z,hz⟩:=ZF (K[k]);rw[hz] at bh cb ce;rw[<-bh] at ay av;obtain⟨x,la,ln,lc⟩:=z;simp only at ay av;obtain⟨aq,bu⟩:=ce;simp only at aq bu;have dt:ln<=4096:=(by rw[<-aq.1];exact av);have au:=Za az;have ar:=Za HO;rw[Za cb] at ar
      have ag:∀ j,j<6->wr.cell? ⟨g,k*6+j,aD⟩=(Ce (x,la,ln,lc))[j]?:=λj hj=>by
        rw[bH ar _ (by omega),<-au,Jv _ _ _ j hj]
      have g0:wr.cell? ⟨g,k*6,aD⟩=dG (E J x.1):=(ag 0 (by decide)).trans rfl;have g1:wr.cell? ⟨g,k*6+1,aD⟩=dG (E J x.2.1):=(ag 1 (by decide)).trans rfl;have g2:wr.cell? ⟨g,k*6+2,aD⟩=dG (E J (cv x)):=(ag 2 (by decide)).trans rfl;have g3:wr.cell? ⟨g,k*6+3,aD⟩=dG (F la ln lc):=(ag 3 (by decide)).trans rfl;have g4:wr.cell? ⟨g,k*6+4,aD⟩=dG (E J (ch x)):=(ag 4 (by decide)).trans rfl;have g5:wr.cell? ⟨g,k*6+5,aD⟩=dG (dF (cr x)):=(ag 5 (by decide)).trans rfl;obtain⟨X,hX⟩:=ZG (wr.alloc (dA #[E J x.1,E J x.2.1,E J (cv x),F la ln lc,E J (ch x),dF (cr x)] 162));have bo:ZD wr X:=(by rw[hX];exact Zh _ _);have C:=Zas x la ln lc X dt (aq.later bo) bu;unfold cnV at C;obtain⟨HC,bx⟩:=kh2 C bo;have dz:(k:Int)<(n:Int):=(by omega);have de:=Zb ar;clear C bo aq bu av ar ag bh hz;go_wp2_with fail;rw[<-hX];clear hX g0 g1 g2 g3 g4 g5;refine HC.mono ?_;rintro e w5 ⟨a5,c5,rfl,cn,ct,cj,cg⟩;have am:=Zf bx cg;have ad:=(Gr.of (S:=λ_=>False) am).own de (λ_ _ q=>q)
      have ah:∀ j,j<6->w5.cell? ⟨g,k*6+j,aD⟩=(Ce (x,la,ln,lc))[j]?:=λj hj=>by
        rw[bH ad _ (by omega),<-au,Jv _ _ _ j hj]
      have t0:w5.cell? ⟨g,k*6,aD⟩=dG (E J x.1):=(ah 0 (by decide)).trans rfl;have t1:w5.cell? ⟨g,k*6+1,aD⟩=dG (E J x.2.1):=(ah 1 (by decide)).trans rfl;have t2:w5.cell? ⟨g,k*6+2,aD⟩=dG (E J (cv x)):=(ah 2 (by decide)).trans rfl;have t3:w5.cell? ⟨g,k*6+3,aD⟩=dG (F la ln lc):=(ah 3 (by decide)).trans rfl;have t4:w5.cell? ⟨g,k*6+4,aD⟩=dG (E J (ch x)):=(ah 4 (by decide)).trans rfl;have t5:w5.cell? ⟨g,k*6+5,aD⟩=dG (dF (cr x)):=(ah 5 (by decide)).trans rfl;have z0:=ad.frozenAt (k*6);have z1:=ad.frozenAt (k*6+1);have z2:=ad.frozenAt (k*6+2);have z3:=ad.frozenAt (k*6+3);have z4:=ad.frozenAt (k*6+4);have z5:=ad.frozenAt (k*6+5);have ec:g<w5.heap.size:=(ad.lt _ rfl).2
      have di:Hid (∃ T':List CV,Hid (T'.map (·.1)=L.take (k+1))/\Hid (T'.length=k+1)/\Hid (((((((w5.setCell ⟨g,k*6,aD⟩ (E J x.1)).setCell ⟨g,k*6+1,aD⟩ (E J x.2.1)).setCell ⟨g,k*6+2,aD⟩ (E J (cv x))).setCell ⟨g,k*6+3,aD⟩ (F a5 ln c5)).setCell ⟨g,k*6+4,aD⟩ (E J (ch x))).setCell ⟨g,k*6+5,aD⟩ (dF (cr x))).ownsRow w.heap.size 162 6 (F (dG ⟨g,0,aD⟩) n c1) n (Zl (T'++K.drop (k+1)))) /\
          Hid (∀ z∈T',LkIn ((((((w5.setCell ⟨g,k*6,aD⟩ (E J x.1)).setCell ⟨g,k*6+1,aD⟩ (E J x.2.1)).setCell ⟨g,k*6+2,aD⟩ (E J (cv x))).setCell ⟨g,k*6+3,aD⟩ (F a5 ln c5)).setCell ⟨g,k*6+4,aD⟩ (E J (ch x))).setCell ⟨g,k*6+5,aD⟩ (dF (cr x))) G z) /\
          Hid (ZD w ((((((w5.setCell ⟨g,k*6,aD⟩ (E J x.1)).setCell ⟨g,k*6+1,aD⟩ (E J x.2.1)).setCell ⟨g,k*6+2,aD⟩ (E J (cv x))).setCell ⟨g,k*6+3,aD⟩ (F a5 ln c5)).setCell ⟨g,k*6+4,aD⟩ (E J (ch x))).setCell ⟨g,k*6+5,aD⟩ (dF (cr x)))) /\
          Hid (G<=((((((w5.setCell ⟨g,k*6,aD⟩ (E J x.1)).setCell ⟨g,k*6+1,aD⟩ (E J x.2.1)).setCell ⟨g,k*6+2,aD⟩ (E J (cv x))).setCell ⟨g,k*6+3,aD⟩ (F a5 ln c5)).setCell ⟨g,k*6+4,aD⟩ (E J (ch x))).setCell ⟨g,k*6+5,aD⟩ (dF (cr x))).heap.size)):=by
        have hG:=(Gr.refl w5 (λq=>q=g)).sixAt g (k*6) (.inl rfl) (E J x.1) (E J x.2.1) (E J (cv x)) (F a5 ln c5) (E J (ch x)) (dF (cr x));have cf:=Zen ad (k*6) (E J x.1) (E J x.2.1) (E J (cv x)) (F a5 ln c5) (E J (ch x)) (dF (cr x));have bv:=Tf T (K.drop (k+1)) (x,la,ln,lc) (x,a5,ln,c5);rw[au] at bv;simp only at bv;rw[bv] at cf;have dw:wr.heap.size<=X.heap.size:=bx.size;have du:=Za da;have ea:=am.size;have eb:=hG.size;refine⟨T++[(x,a5,ln,c5)],?_,?_,?_,?_,?_,?_⟩
        · show _=_;rw[bN,Za HT,Za ay];rfl
        · show _=_;rw[bL,au];rfl
        · show cP _ _ _ _ _ _ _
          rw[List.append_assoc];exact cf
        · intro z hz
          rcases bM.1 hz with hz|hz
          · have h1:=(ap z hz).later am
            exact⟨⟨h1.1.1.gr hG (λeq e q=>by have:=h1.2 eq e;omega),h1.1.2⟩,h1.2⟩
          · rw[List.mem_singleton.1 hz]
            have h3:∀ eq,a5=dG eq->G<=eq.block:=λeq e=>by have:=cj eq e;omega
            exact⟨⟨cn.gr hG (λeq e q=>by have:=h3 eq e;omega),ct⟩,h3⟩
        · exact hG.below (Zf HB am) (by have:=Za cd;omega) (λq hq=>by omega)
        · show _<=_;omega
      clear cn ct cj cg am ad ah;go_wp2;go_roundw
      case rel=>
        obtain⟨T',f1,f2,f3,f4,f5,f6⟩:=Za di;exact⟨k+1,T',by omega,by go_num,f1,f2,f3,f4,f5,f6⟩
      case measure=>simp[intOf];omega
    · have e:k=n:=by omega
      subst e
      have HR:Hid (Fresh w.heap.size wr (λw2=>CoinsAt w2 a1 k L)/\SlOk a1 k c1):=by
        have h1:=Za HO;have dv:=Za bz;rw[bA (by omega),List.append_nil,<-Za az] at h1
        have hF:Fresh w.heap.size wr (λw2=>CoinsAt w2 a1 k L):=λw2 hG=>by
          have h2:=hG.own h1 (λq hq=>by have:=(h1.lt q hq).1;omega);obtain⟨a',c',e,h3,_⟩:=Yr h2 (λz hz=>⟨(ap z hz).1.1.gr hG (λeq e q=>by have:=(ap z hz).2 eq e;have:=Za cd;omega),(ap z hz).1.2⟩);cases e;rw[Za HT,aM (by rw[Za HZ];exact aE _)] at h3;rw[Za az] at h3;exact h3
        exact⟨hF,Za dg⟩
      go_wp2;go_ret;obtain⟨h1,h2⟩:=Za HR;exact⟨_,_,rfl,h1,h2,Za HB⟩
def NmF(w w':World)(M:List ByteArray)(nm:Int)(N:List Int)(x:Int)(e:Ending):Prop:=
  ∃ a' n' c' a2 n2 c2,e = dB (dC #[.agg #[F a' n' c'],E J nm,F a2 n2 c2,E J x])/\Fresh w.heap.size w' (λw2=>Bk.TextsAt w2 a' n' M)/\Bk.SlOk a' n' c'/\Bk.IntsAt w' a2 n2 N/\n2<=c2/\ZD w w'
theorem NmF.drew{w w':World}{M}{nm:Int}{N}{x:Int}{e}(h:NmF w w' M nm N x e):NmF w w'.drew M nm N x e:=by
  obtain⟨a,n,c,a2,n2,c2,h1,h2,h3,h4,h5,h6⟩:=h;exact⟨a,n,c,a2,n2,c2,h1,λw2 g=>h2 w2 ((Gr.of (Zj _)).trans g),h3,h4,h5,Zf h6 (Zj _)⟩
theorem Zcw(ka kn kc)(p h k n:Int)(a m c T)(x:Int)(w)(hT:TxsAt w a m T)(hx:Yu (p,h,k,n,T)=x)(h0:x≠0) :
    Calls aB 39 #[.agg #[F ka kn kc],.agg #[E J p,E J h,E J k,E J n,F a m c]] w λe w'=>NmF w w' [] 0 [] x e:=by
  obtain⟨X,hX⟩:=ZG (((w.alloc (dA #[F ka kn kc] 24)).alloc (dA #[E J p,E J h,E J k,E J n,F a m c] 33)).alloc (dA #[F aD 0 0] 24));have ac:ZD w X:=by rw[hX];exact Zf (Zf (Zh _ _) (Zh _ _)) (Zh _ _)
  have ad:X.heap[w.heap.size+2]? = dG (dA [F aD 0 0].toArray 24 (0,0)):=by
    rw[hX];have:=Xj ((w.alloc (dA #[F ka kn kc] 24)).alloc (dA #[E J p,E J h,E J k,E J n,F a m c] 33)) (F aD 0 0) 24;rw[show ((w.alloc (dA #[F ka kn kc] 24)).alloc (dA #[E J p,E J h,E J k,E J n,F a m c] 33)).heap.size=w.heap.size+2 by simp] at this;exact this
  obtain⟨C1,aj,ah⟩:=kh3 (Px p h k n a m c T x X (hT.later ac) hx h0) ad ac;have gx:(x != 0)=true:=by simp[h0]
  clear hT hx h0 ad ac;go_enter func39,ntmps39;go_wp2_with fail;rw[<-hX];clear hX;refine C1.mono ?_;rintro e w1 ⟨rfl,ab⟩;have h3:=ZE ab aj;obtain⟨z0,zf,zl⟩:=kf1 h3;have ag:=Zb (Zf ah ab);clear ab h3;go_wp2;(try simp only[Exit.inBlock,Exit.then]);refine aL (v:=dC #[.agg #[F aD 0 0],E J 0,F aD 0 0,E J x]) ?_ rfl ⟨_,_,_,_,_,_,rfl,λ_ _=>Bk.TextsAt.nil _ _,Bk.SlOk.nil,Bk.IntsAt.nil _ _,aE _,?_⟩
  · rw[Ji rfl]
    go_simp
  · exact ag.setCell (p:=⟨w.heap.size+2,0,aD⟩) (by simp) _
theorem G5(ka kn kc L)(p h k n:Int)(a m c T M)(N:List Int)(x:Int)(w)(hE:Env w)(hL:Bk.TextsAt w ka kn L)(hT:TxsAt w a m T)(hx:Yu (p,h,k,n,T)=0)(hA:Bk.allR L (Yn (p,h,k,n,T))=(M,N,x))(hN:x=0->N.length=m+1)(M')(nm:Int)(N')(hR:(if x=0 then (M,N.getD m 0,N.take m) else (([]:List ByteArray),(0:Int),([]:List Int)))=(M',nm,N')) :
    Calls aB 39 #[.agg #[F ka kn kc],.agg #[E J p,E J h,E J k,E J n,F a m c]] w λe w'=>NmF w w' M' nm N' x e:=by
  obtain⟨i0,ii,eh,ei,ej⟩:=bX Tryz.info9;obtain⟨f1,f2,f3,_,f5⟩:=Vi hx;have hz:T.length=m:=hT.1;obtain⟨X,hX⟩:=ZG (((w.alloc (dA #[F ka kn kc] 24)).alloc (dA #[E J p,E J h,E J k,E J n,F a m c] 33)).alloc (dA #[F aD 0 0] 24));have br:ZD w X:=by rw[hX];exact Zf (Zf (Zh _ _) (Zh _ _)) (Zh _ _)
  have dv:X.heap[w.heap.size]? = dG (dA [F ka kn kc].toArray 24 (0,0)):=by
    rw[hX,bJ _ _ _ (by simp;omega),bJ _ _ _ (by simp)];exact Xj _ _ _
  have dw:X.heap[w.heap.size+1]? = dG (dA [E J p,E J h,E J k,E J n,F a m c].toArray 33 (0,0)):=by
    rw[hX,bJ _ _ _ (by simp)];have:=Zw (w.alloc (dA #[F ka kn kc] 24)) (E J p) (E J h) (E J k) (E J n) (F a m c) 33;rw[show (w.alloc (dA #[F ka kn kc] 24)).heap.size=w.heap.size+1 by simp] at this;exact this
  have dx:X.heap[w.heap.size+2]? = dG (dA [F aD 0 0].toArray 24 (0,0)):=by
    rw[hX];have:=Xj ((w.alloc (dA #[F ka kn kc] 24)).alloc (dA #[E J p,E J h,E J k,E J n,F a m c] 33)) (F aD 0 0) 24;rw[show ((w.alloc (dA #[F ka kn kc] 24)).alloc (dA #[E J p,E J h,E J k,E J n,F a m c] 33)).heap.size=w.heap.size+2 by simp] at this;exact this
  obtain⟨C1,es,et,dh,eo,HE⟩:=kh6 (Tk p h k n a m c T X (hE.later br) (hT.later br) hx) dv dw dx br hE;obtain⟨b,off,rfl,_,dz⟩:=hT.2 (by omega)
  have PT:=Zb (λW (hb:ZD w W)=>(show Calls aB 79 #[F (dG ⟨b,off,aD⟩) m c] W λe w'=>∃ (B:Nat) (xs:List Value),e = dB (F (dG ⟨B,0,aD⟩) m m)/\w'.ownsRow B 9 1 (F (dG ⟨B,0,aD⟩) m m) m xs/\xs.length=m/\(∀ j,j<m->xs[j]? = dG (txV T j))/\B<w'.heap.size/\W.heap.size<=B/\ZD W w' from
    (Gw b off m c T W (HE.later hb) hz (by omega) f5 (λi hi=>TxAt.kept _ _ _ _ _ hb (dz i hi))).mono λe w' ⟨h1,h2⟩=>by
      obtain⟨xs,ho,hx⟩:=h2.ex;exact⟨W.heap.size,xs,h1,ho,by simpa using ho.1,hx,h2.lt,aE _,h2.bel⟩))
  have gd:m<=4:=by omega
  have HZ:=Zb hz;obtain⟨t,ht⟩:=ZF (Xl (p,h,k,n,T));have dp:Bk.allR L (T.map Zr++[t])=(M,N,x):=by rw[<-ht];exact hA
  rw[ht] at C1;have AL:=Zb (λW al gp (hb:ZD w W) (hl:Bk.TextsAt W al (m+1) (T.map Zr++[t]))=>Bk.all_isF ka al kn kc (m+1) gp L (T.map Zr++[t]) M N x W (hL.later hb) hl (by omega) dp);obtain⟨HN,HR⟩:=kh2 hN hR;clear hE hL hT hx hA hN hR dv dw dx br dz f1 f2 f3 f5 hz dp ht;go_enter func39,ntmps39;go_wp2_with fail;rw[<-hX];clear hX;refine C1.mono ?_;rintro e w1 ⟨rfl,af⟩;have h1:=ZE af es;have h2:=ZE af et;have h3:=ZE af dh;have k0:=Zd h1 0 _ rfl;have b4:=Zd h2 4 _ rfl;obtain⟨z0,zf,-⟩:=kf1 h3;have l1:=aA h1;have l2:=aA h2;have l3:=aA h3;have fu:=Zb af;have gj:X.heap.size<=w1.heap.size:=af.size;have gg:w.heap.size+3<=X.heap.size:=by have:=aA dh;omega
  have GB:Hid (∀ W,Gr w1 W (λq=>q=w.heap.size+2)->ZD w W):=λW g=>g.below (Zf eo af) (by omega) (λk e=>by rw[e];omega)
  have KS:Hid (∀ W,Gr w1 W (λq=>q=w.heap.size+2)->OutOk 24 (w.heap.size+2) W->NmS 24 w1 (w.heap.size) (F ka kn kc) (F (dG ⟨b,off,aD⟩) m c) W):=
    λW g o=>⟨g,Zd (g.heap h1 (by omega)) 0 _ rfl,Zd (g.heap h2 (by omega)) 4 _ rfl,o⟩
  have O1:Hid (OutOk 24 (w.heap.size+2) w1):=⟨_,_,_,h3⟩
  have ev:=Zb (λW (g:Gr w1 W (λq=>q=w.heap.size+2))=>(show Calls aB 79 #[F (dG ⟨b,off,aD⟩) m c] W λe w'=>∃ (B:Nat) (xs:List Value),e = dB (F (dG ⟨B,0,aD⟩) m m)/\w'.ownsRow B 9 1 (F (dG ⟨B,0,aD⟩) m m) m xs/\xs.length=m/\(∀ j,j<m->xs[j]? = dG (txV T j))/\B<w'.heap.size/\w1.heap.size<=B/\ZD W w' from
    (PT W (GB W g)).mono λe w' ⟨B,xs,q1,q2,q3,q4,q5,q6,q7⟩=>⟨B,xs,q1,q2,q3,q4,q5,aO g.size q6,q7⟩))
  have en:=Zb (λW al gp (g:Gr w1 W (λq=>q=w.heap.size+2)) (hl:Bk.TextsAt W al (m+1) (T.map Zr++[t]))=>(AL W al gp (GB W g) hl).mono (R':=λe w'=>(∃ a' n' c' a2 n2 c2,e = dB (dC #[.agg #[F a' n' c'],F a2 n2 c2,E J x])/\(∀ w2,Gr w' w2 (λk=>k<w.heap.size+3)->Bk.TextsAt w2 a' n' M)/\Bk.SlOk a' n' c'/\Bk.IntsAt w' a2 n2 N/\n2<=m+1/\n2<=c2)/\ZD W w') λe w' ⟨⟨a',n',c',a2,n2,c2,q1,q2,q3⟩,q4⟩=>⟨⟨a',n',c',a2,n2,c2,q1,λw2 g2=>q2 w2 (g2.mono (λk _ hk=>by have hk:k<w.heap.size+3:=hk;have:=g.size;show k<W.heap.size;omega)),q3⟩,q4⟩);have l0:w.heap.size+2<w1.heap.size:=l3;clear af h1 h2 h3 C1 PT AL z0 zf;go_wp2_with fail
  go_region_held3 (λW=>Gr w1 W (λq=>q=w.heap.size+2)/\W.cell? ⟨w.heap.size,0,aD⟩=dG (F ka kn kc)/\W.cell? ⟨w.heap.size+1,4,aD⟩=dG (F (dG ⟨b,off,aD⟩) m c)/\OutOk 24 (w.heap.size+2) W)
    (first
    | exact KS _ (Gr.refl _ _).draw O1
    | (go_split_ands;exact KS _ (Gr.new (by assumption) _) (OutOk.later (by assumption) (Zh _ _)))
    | (go_split_ands;exact KS _ (Gr.on (by assumption) aj) (OutOk.later (by assumption) aj))
    | (go_split_ands;exact KS _ (Gr.grow2 (by assumption) ak fb) (OutOk.grown (by assumption) ak eb))
    | exact KS _ (de.one (w.heap.size+1+1) 0 (.inl rfl) _) (OutOk.put ag (w.heap.size+1+1) rfl _ _ _))
    (first
    | (refine step_append_lies _ (by rfl) _ _ _ (by rfl) B4 9 i0 _ 1 16 cU ii eh ei ej rfl (by omega) (F (dG ⟨B4,0,aD⟩) m m) m el (by rfl) (ed.alloc _) ⟨w4.heap.size,0,aD⟩ 1 1 [.string t] (by rfl) (by rfl) (bI (cs:=#[.string t]) (t:=9) (fr:=(0,0)) (aG w4 _)) (by simp[Value.oneCell']) (by omega) (by unfold aT;omega) (by omega) (by simp;omega) (w4.heap.size+1) (by simp) ?_;intro gq cap w5 ar aq cp ff;have TX:=Zb (Zem ar HZ ea ee);have ak:=aq;change World.grownBy _ _ (dG B4) at ak;(have eb:w.heap.size+2≠B4:=by omega);clear ar cp aq)
    | (refine step_append_lies _ (by rfl) _ _ _ (by rfl) B4 9 i0 _ 1 16 cU ii eh ei ej rfl (by omega) (F (dG ⟨B4,0,aD⟩) m m) m el (by rfl) ed ⟨w1.heap.size,0,aD⟩ 1 1 [.string t] (by rfl) (by rfl) (bI (cs:=#[.string t]) (t:=9) (fr:=(0,0)) fh) (by simp[Value.oneCell']) (by omega) (by unfold aT;omega) (by omega) (by omega) w4.heap.size (by rfl) ?_;intro gq cap w5 ar aq cp ff;have TX:=Zb (Zem ar HZ ea ee);have ak:=aq;change World.grownBy _ _ (dG B4) at ak;(have eb:w.heap.size+2≠B4:=by omega);clear ar cp aq)
    | (go_at_call 79
       refine (ev _ ?_).mono ?_
       · go_split_ands
         assumption
       rintro e w4 ⟨B4,el,rfl,ed,ea,ee,fw,fb,aj⟩
       try have fh:=(aj.block w1.heap.size (by simp)).trans (aG w1 (dA #[.string t] 9)))
    | (go_at_call 65
       refine (en _ _ _ ?_ TX).mono ?_
       · go_split_ands
         assumption
       rintro e w6 ⟨⟨a6,n6,c6,a7,n7,c7,rfl,du,ek,dq,fg,dy⟩,aj⟩;obtain⟨dg,er,df,ep,ag,de⟩:=kh6 du ek dq dy (OutOk.later (by go_split_ands;assumption) aj) (Gr.on (by go_split_ands;assumption) aj);obtain⟨zz,z6⟩:=ag.cell;have ft:=ag.free;clear du ek dq dy ak fg))
  all_goals
    rename_i hH;obtain⟨bj,-,fd,bo⟩:=hH;have cn:∀ w2,Gr (w6.setCell ⟨w.heap.size+1+1,0,aD⟩ (F a6 n6 c6)) w2 (λk=>k<w.heap.size+3)->Bk.TextsAt w2 a6 n6 M:=λw2 g2=>dg w2 (((Gr.refl w6 (λk=>k<w.heap.size+3)).one (w.heap.size+1+1) 0 (.inl (by show w.heap.size+1+1<w.heap.size+3;omega)) _).trans g2);have cl:Bk.IntsAt (w6.setCell ⟨w.heap.size+1+1,0,aD⟩ (F a6 n6 c6)) a7 n7 N:=Zab df ag
    have fi:(w6.setCell ⟨w.heap.size+1+1,0,aD⟩ (F a6 n6 c6)).cell? ⟨w.heap.size+2,0,aD⟩=dG (F a6 n6 c6):=by
      obtain⟨q1,q2,q3,q⟩:=Za ag;have:=Uf (u:=F a6 n6 c6) q;simp[bF,this]
    have fe:=bo.free;obtain⟨Q,hQ⟩:=ZG (w6.setCell ⟨w.heap.size+1+1,0,aD⟩ (F a6 n6 c6));rw[<-hQ] at bj fd bo cn cl fi fe ⊢;have gc:w.heap.size+2<Q.heap.size:=aF l0 bj.size;obtain⟨cc,be,ce,bd⟩:=kh4 bj bo cn cl;clear hQ bj bo cn cl dg df ag de z6 ft TX;by_cases bs:x=0
    · subst bs
      have cm:=HN rfl;have gf:m+1=n7:=(by rw[<-cm];exact bd.1);have fx:n7<=c7:=Za ep;obtain⟨b7,o7,rfl,ct⟩:=bd.2 (by omega);have cq:=ct m (by omega);have HG:Hid (N.getD m 0=N[m]):=(by show _=_;simp[cm]);have hr:=Za HR;rw[if_pos rfl] at hr;injection hr with r1 r2;injection r2 with r2 r3;rw[Za HG] at r2;rw[r2] at cq;subst r1 r3;have l7:=aC _ _ cq;have fy:(Q.setCell ⟨w.heap.size+1+1,0,aD⟩ (F a6 n6 c6)).cell? ⟨b7,o7+m,aD⟩=dG (E J nm):=be.other cq (λ_ _ _ q=>by cases q);have fz:(0:Int)<=(m:Int):=(by omega);have ga:(m:Int)<(n7:Int):=(by omega);have gb:(m:Int)<=(c7:Int):=by omega
      have HF:Hid (NmF w (Q.setCell ⟨w.heap.size+2,0,aD⟩ (F a6 n6 c6)) M nm (N.take m) 0 (dB (dC #[.agg #[F a6 n6 c6],E J nm,F (dG ⟨b7,o7,aD⟩) m c7,E J 0]))):=
        ⟨a6,n6,c6,dG ⟨b7,o7,aD⟩,m,c7,rfl,λw2 g2=>ce w2 (((Gr.refl Q (λk=>k<w.heap.size+3)).one (w.heap.size+2) 0 (.inl (by show w.heap.size+2<w.heap.size+3;omega)) _).trans (g2.mono (λk _ hk=>by omega))),Za er,Zab ⟨by rw[aV];omega,λ_=>⟨b7,o7,rfl,λi hi=>by
          have:=ct i (by rw[aV] at hi;omega);rw[List.getElem_take];exact this⟩⟩ be,by omega,GB _ (cc.one (w.heap.size+2) 0 (.inl rfl) _)⟩
      clear ct cm r2 bd ce be HG HN HR;go_wp2_with fail
      go_region
      all_goals
        go_wp2;(try simp only[Exit.inBlock,Exit.then]);refine aL (v:=dC #[.agg #[F a6 n6 c6],E J nm,F (dG ⟨b7,o7,aD⟩) m c7,E J 0]) ?_ rfl ?_
        · rw[Ji rfl]
          go_simp
        · exact HF.drew
    · have gx:(x != 0)=true:=by simp[bs]
      have hr:=Za HR;rw[if_neg bs] at hr;injection hr with r1 r2;injection r2 with r2 r3;subst r1 r2 r3;have HF:Hid (ZD w (Q.setCell ⟨w.heap.size+1+1,0,aD⟩ (F aD 0 0))):=GB _ (cc.one (w.heap.size+1+1) 0 (.inl rfl) _);clear bs HN ce bd be cc HR;go_wp2;(try simp only[Exit.inBlock,Exit.then]);refine aL (v:=dC #[.agg #[F aD 0 0],E J 0,F aD 0 0,E J x]) ?_ rfl ⟨_,_,_,_,_,_,rfl,λ_ _=>Bk.TextsAt.nil _ _,Bk.SlOk.nil,Bk.IntsAt.nil _ _,aE _,?_⟩
      · rw[Ji rfl]
        go_simp
      · exact Za HF
theorem Md(ka kn kc L)(p h k n:Int)(a m c T M)(nm:Int)(N)(x:Int)(w)(hE:Env w)(hL:Bk.TextsAt w ka kn L)(hT:TxsAt w a m T)(hx:Xk L (p,h,k,n,T)=(M,nm,N,x)) :
    Calls aB 39 #[.agg #[F ka kn kc],.agg #[E J p,E J h,E J k,E J n,F a m c]] w λe w'=>NmF w w' M nm N x e:=by
  have hz:T.length=m:=hT.1;unfold Xk at hx;by_cases h0:Yu (p,h,k,n,T)=0
  · rw[if_neg (by rw[h0];decide)] at hx
    obtain⟨⟨M',N',x'⟩,hr⟩:=ZF (Bk.allR L (Yn (p,h,k,n,T)));rw[hr] at hx;simp only[hz] at hx
    have am:x'=0->N'.length=m+1:=λe=>by
      subst e;rw[Zbo hr];unfold Yn;simp[hz]
    by_cases ag:x'=0
    · subst ag
      rw[if_neg (by decide)] at hx;injection hx with e1 e2;injection e2 with e2 e3;injection e3 with e3 e4;subst e1 e2 e3 e4;exact G5 ka kn kc L p h k n a m c T M' N' 0 w hE hL hT h0 hr am _ _ _ (if_pos rfl)
    · rw[if_pos ag] at hx
      injection hx with e1 e2;injection e2 with e2 e3;injection e3 with e3 e4;subst e1 e2 e3 e4;exact G5 ka kn kc L p h k n a m c T M' N' x' w hE hL hT h0 hr am _ _ _ (if_neg ag)
  · rw[if_pos h0] at hx
    injection hx with e1 e2;injection e2 with e2 e3;injection e3 with e3 e4;subst e1 e2 e3;exact Zcw ka kn kc p h k n a m c T x w hT e4 (by rw[<-e4];exact h0)
theorem NmF.plain{w w' M}{nm:Int}{N}{x:Int}{e}(h:NmF w w' M nm N x e):NmR w w' M nm N x e:=by
  obtain⟨a,n,c,a2,n2,c2,h1,h2,h3⟩:=h;exact⟨a,n,c,a2,n2,c2,h1,h2 _ (Gr.refl _ _),h3⟩
theorem Zhs(ka kn kc L)(p h k n:Int)(a m c T M)(nm:Int)(N)(x:Int)(w)(hE:Env w)(hL:Bk.TextsAt w ka kn L)(hT:TxsAt w a m T)(hx:Xk L (p,h,k,n,T)=(M,nm,N,x)) :
    Calls aB 39 #[.agg #[F ka kn kc],.agg #[E J p,E J h,E J k,E J n,F a m c]] w λe w'=>NmR w w' M nm N x e:=
  (Md ka kn kc L p h k n a m c T M nm N x w hE hL hT hx).mono λ_ _ q=>q.plain
def nfD(K:List ByteArray)(C:List Zi)(b:Zk):List Int×Int:=if Zz C≠0 then ([],Zz C) else ((Xk K b).2.2.1,(Xk K b).2.2.2)
def NfR(w w':World)(N:List Int)(x:Int)(e:Ending):Prop:=∃ a n c,e = dB (dC #[F a n c,E J x])/\Bk.IntsAt w' a n N/\n<=c/\ZD w w'
theorem Ew(ka kn kc L la ln lc C)(p h k n:Int)(a m c T N)(x:Int)(w)(hE:Env w)(hL:Bk.TextsAt w ka kn L)(hC:CoinsAt w la ln C)(hT:TxsAt w a m T)(hx:nfD L C (p,h,k,n,T)=(N,x)) :
    Calls aB 120 #[.agg #[F ka kn kc],F la ln lc,.agg #[E J p,E J h,E J k,E J n,F a m c]] w λe w'=>NfR w w' N x e:=by
  obtain⟨X,hX⟩:=ZG ((w.alloc (dA #[F ka kn kc] 24)).alloc (dA #[E J p,E J h,E J k,E J n,F a m c] 33));have ad:ZD w X:=by rw[hX];exact Zf (Zh _ _) (Zh _ _)
  have bj:X.heap[w.heap.size]? = dG (dA [F ka kn kc].toArray 24 (0,0)):=by
    rw[hX,bJ _ _ _ (by simp)];exact Xj _ _ _
  have bo:X.heap[w.heap.size+1]? = dG (dA [E J p,E J h,E J k,E J n,F a m c].toArray 33 (0,0)):=by
    rw[hX];have:=Zw (w.alloc (dA #[F ka kn kc] 24)) (E J p) (E J h) (E J k) (E J n) (F a m c) 33;rw[show (w.alloc (dA #[F ka kn kc] 24)).heap.size=w.heap.size+1 by simp] at this;exact this
  obtain⟨y,hy⟩:=ZF (Zz C);obtain⟨CK,ay,az,ap⟩:=kh4 (Vw la ln lc C y X (hC.later ad) hy) bj bo ad;unfold nfD at hx;rw[hy] at hx;by_cases aj:y=0
  · subst aj
    rw[if_neg (by decide)] at hx;obtain⟨⟨M,nm,N',x'⟩,hr⟩:=ZF (Xk L (p,h,k,n,T));rw[hr] at hx;injection hx with e1 e2;simp only at e1 e2;subst e1 e2;have NA:=Zb (λW (hb:ZD X W)=>Zhs ka kn kc L p h k n a m c T M nm N' x' W ((hE.later ad).later hb) ((hL.later ad).later hb) ((hT.later ad).later hb) hr);go_enter func120,ntmps120;go_wp2_with fail;rw[<-hX];refine CK.mono ?_;rintro e w1 ⟨rfl,ab⟩;have h1:=ZE ab ay;have h2:=ZE ab az;have k0:=Zd h1 0 _ rfl;obtain⟨b0,b1,b2,b3,b4,-⟩:=kc5 h2;have l1:=aA h1;have l2:=aA h2;obtain⟨N1,ax⟩:=kh2 (NA w1 ab) (Zf ap ab);go_wp2_with fail;refine N1.mono ?_;rintro e w2 ⟨a',n',c',a2,n2,c2,rfl,_,_,hI,hc,bq⟩;have HF:Hid (NfR w (w2.alloc (dA #[F a' n' c'] 24)) N' x' (dB (dC #[F a2 n2 c2,E J x']))):=⟨a2,n2,c2,rfl,hI.later (Zh _ _),hc,Zf (Zf ax bq) (Zh _ _)⟩;go_wp2;go_ret2;exact Za HF
  · rw[if_pos aj] at hx
    injection hx with e1 e2;subst e1 e2;have gy:(y != 0)=true:=(by simp[aj]);go_enter func120,ntmps120;go_wp2_with fail;rw[<-hX];refine CK.mono ?_;rintro e w1 ⟨rfl,ab⟩;have HF:Hid (NfR w w1 [] y (dB (dC #[F aD 0 0,E J y]))):=⟨aD,0,0,rfl,Bk.IntsAt.nil _ _,aE _,Zf ap ab⟩;go_wp2;go_ret2;exact Za HF
def Bs(m i:Nat):Value:=E J (((i+1) % m:Nat):Int)
theorem Zjn(m:Nat)(w:World)(h0:0<m)(hm:m<=4) :
    Calls aB 121 #[E J m] w λe w'=>e = dB (F (dG ⟨w.heap.size,0,aD⟩) m m)/\FillV w.heap.size 3 m (Bs m) w w' m:=by
  obtain⟨i0,hi,ap,aq,ar⟩:=bX Tryz.infoInt;go_enter func121,ntmps121
  go_wp2_with (at_make;refine wpList_make_full _ rfl _ _ 25 rfl w.heap.size 3 i0 (E J 0) 1 cR hi ap aq .i64 .i64 _ _ m rfl rfl rfl rfl (by rw[ar];omega) (by unfold aT;omega) (aE _) ?_;intro w2 af ae)
  have ag:FillV w.heap.size 3 m (Bs m) w w2 0:=⟨⟨_,af,λj hj=>absurd hj (by omega)⟩,(Below.refl _ _).grown ae (aE _) (λk h=>by cases h)⟩;have aj:=Zb ag;clear ag af ae
  go_loopw [8] (λi wr=>∃ k:Nat,k<=m/\i = E J k/\FillV w.heap.size 3 m (Bs m) w wr k) (λi _=>m - (intOf i).toNat)
  case atStart=>exact⟨0,aI _,rfl,Za aj⟩
  case round=>
    obtain⟨k,hk,rfl,aa⟩:=hrel;have HF:=Zb aa;by_cases ab:k<m
    · obtain⟨v,az⟩:=aa.old ab
      have av:=aa.free k;have aw:=aa.lt;have ay:(m:Int)≠0:=by omega
      have an:((k:Int)+1).tmod (m:Int)=(((k+1) % m:Nat):Int):=by
        rw[show ((k:Int)+1)=((k+1:Nat):Int) by omega];rfl
      have am:(k+1) % m<m:=Nat.mod_lt _ h0;obtain⟨q,hq⟩:=ZF ((k+1) % m);rw[hq] at an am;have HQ:=Zb hq;clear aa hq;go_wp2;go_roundw
      case rel=>
        refine⟨k+1,by omega,by go_num,HF.step ab ?_⟩;unfold Bs;rw[Za HQ]
      case measure=>simp[intOf];omega
    · clear aa
      have e:k=m:=(by omega);subst e;clear hk ab;go_wp2;go_ret;exact⟨rfl,Za HF⟩
def rwN:Nat->Nat
  | 0=>64
  | n+1=>rwN n / 2
theorem Tp:∀ n,rwN n<=64
  | 0=>aE _
  | n+1=>by
    have:=Tp n;unfold rwN;omega
def rwD(h:Int):Int×Int:=if (decide (1<=h) && decide (h<=1000))=true then ((rwN ((h - 1).toNat / 8):Nat),0) else (0,3)
theorem Dq(h r x:Int)(w:World)(hx:rwD h=(r,x)) :
    ZH 140 #[E J h] w (dC #[E J r,E J x]):=by
  unfold rwD at hx;cases q:(decide ((1:Int)<=h) && decide (h<=1000)) with
  | false=>
    rw[q,if_neg (by decide)] at hx;injection hx with e1 e2;subst e1 e2;have CC:=Zb (Ja h 1 1000 false w q);clear q;go_enter func140,ntmps140;go_wp2_with fail;refine CC.mono ?_;rintro e w1 ⟨rfl,ab⟩;have HB:=Zb ab;clear ab;go_wp2;go_ret2;exact⟨rfl,Za HB⟩
  | true=>
    rw[q,if_pos rfl] at hx;injection hx with e1 e2;subst e2;have CC:=Zb (Ja h 1 1000 true w q);rw[aX,decide_eq_true_eq,decide_eq_true_eq] at q;obtain⟨k,rfl⟩:∃ k:Nat,h=(k:Int)+1:=⟨(h - 1).toNat,by omega⟩;have hk:k<1000:=(by omega);rw[show (((k:Int)+1 - 1).toNat)=k by omega] at e1;obtain⟨n,hn⟩:=ZF (k / 8);have hq:((k:Int)).tdiv 8=(n:Int):=(by rw[<-hn];rfl);have aw:n<=125:=(by omega);rw[hn] at e1;have HR:=Zb e1;clear q e1 hn;go_enter func140,ntmps140;go_wp2_with fail;refine CC.mono ?_;rintro e w1 ⟨rfl,ab⟩;have HB:=Zb ab;clear ab;go_wp2
    go_loopw [4,11] (λv i wr=>∃ j:Nat,j<=n/\v = E J (rwN j:Nat)/\i = E J j/\Hid (ZD w wr)) (λ_ i _=>n - (intOf i).toNat)
    case atStart=>exact⟨0,aI _,rfl,rfl,HB⟩
    case round=>
      obtain⟨j,hj,rfl,rfl,aj⟩:=hrel;have an:=Tp j;by_cases av:j<n
      · have hd:((rwN j:Nat):Int).tdiv 2=((rwN (j+1):Nat):Int):=rfl
        have ap:=Tp (j+1);obtain⟨a,ha⟩:=ZF (rwN j);obtain⟨b,hb⟩:=ZF (rwN (j+1));rw[ha,hb] at hd;rw[ha] at an;rw[hb] at ap;rw[ha];have ak:=Zb hb;clear ha hb;go_wp2;go_roundw
        case rel=>exact⟨j+1,by omega,by rw[Za ak],by go_num,aj⟩
        case measure=>simp[intOf];omega
      · have e:j=n:=by omega
        subst e;go_wp2;go_ret2;exact⟨by rw[Za HR];rfl,Za aj⟩
theorem Gr.trans2{w w1 w2:World}{S T:Nat->Prop}(h:Gr w w1 S)(k:Gr w1 w2 T)(hT:∀ k,k<w.heap.size->T k->S k):Gr w w2 S:=
  ⟨k.os.trans h.os,k.tape.trans h.tape,k.output.trans h.output,aO h.size k.size,λi hi hn=>(k.block i (aF hi h.size) (λq=>hn (hT i hi q))).trans (h.block i hi hn)⟩
theorem Rg(h:Int)(ai ao)(ni ci no co:Nat)(r:Bool)(w:World)(hr:decide (ni=0)=r) :
    ZH 201 #[.agg #[E J h,F ai ni ci,F ao no co]] w (dF r):=by
  have HB:=Zb (Zh w (dA #[E J h,F ai ni ci,F ao no co] 50));by_cases h0:ni=0
  · have e:r=true:=by rw[<-hr];exact decide_eq_true h0
    subst e;subst h0;go_enter func201,ntmps201;go_wp2;go_ret;exact⟨rfl,Za HB⟩
  · have e:r=false:=by rw[<-hr];exact decide_eq_false h0
    subst e;have g:((ni:Int) == 0)=false:=(by simp[h0]);go_enter func201,ntmps201;go_wp2;go_ret;exact⟨rfl,Za HB⟩
theorem Fm{name h:Int}{r:Bool}{O:List Yd}{k:Nat}(hk:k<O.length)(L)(hf:We (name,(k:Int)) L=false):Yp name h r k (O.drop k) L=Yp name h r (k+1) (O.drop (k+1)) (J2 (R6 name k O[k] h r) L):=by
  rw[aK hk,Yp,if_neg (by rw[hf];decide)]
theorem Fl{name h:Int}{r:Bool}{O:List Yd}{k:Nat}(hk:k<O.length)(L)(hf:We (name,(k:Int)) L=true):Yp name h r k (O.drop k) L=(6,[]):=by
  rw[aK hk,Yp,if_pos hf]
theorem Ms{name h:Int}{r:Bool}{O:List Yd}{k:Nat}(hk:O.length<=k)(L):Yp name h r k (O.drop k) L=(0,L):=by
  rw[bA hk,Yp]
def Given(w0 w w':World)(p:Nat)(v:Value)(n:Nat)(M:List Zi):Prop:=
  ∃ (v':Value) (K':List CV),K'.map (·.1)=M/\Srt M/\K'.length<=n/\Pu w0 w' p v' K'/\Gr w w' (PuS p v)
theorem Zgo{w:World}{b:Nat}{t:aY}(h:w.heap[b]? = dG (dA zeroCs.toArray t (0,0)))(a0 a1 a2 a3 a4 a5):((((((w.setCell ⟨b,0,aD⟩ a0).setCell ⟨b,1,aD⟩ a1).setCell ⟨b,2,aD⟩ a2).setCell ⟨b,3,aD⟩ a3).setCell ⟨b,4,aD⟩ a4).setCell ⟨b,5,aD⟩ a5).heap[b]? = dG (dA [a0,a1,a2,a3,a4,a5].toArray t (0,0)):=by
  have one:∀ {w:World} {X:Array Value} (i:Nat) (a:Value),w.heap[b]? = dG (dA X t (0,0))->(w.setCell ⟨b,i,aD⟩ a).heap[b]? = dG (dA (X.setIfInBounds i a) t (0,0)):=fun {w X} i a hw=>by
    rw[setCell_eq_setRow w b i X t (0,0) a hw];exact setRow_heap w b _ _ t _ hw
  exact one 5 a5 (one 4 a4 (one 3 a3 (one 2 a2 (one 1 a1 (one 0 a0 h)))))
def Zom(wr:World)(name h y1:Int)(k:Nat)(la:Option Addr)(ln lc:Nat)(r:Bool)(ad ae:Value)(wx:World):Prop:=
  ∃ m:Nat,ad = dE (dG ⟨m,0,aD⟩)/\ae = E J k/\Hid (ZD wr wx)/\m<wx.heap.size/\wx.cell? ⟨m,0,aD⟩=dG (E J name)/\wx.cell? ⟨m,1,aD⟩=dG (E J k)/\wx.cell? ⟨m,2,aD⟩=dG (E J y1)/\wx.cell? ⟨m,3,aD⟩=dG (F la ln lc)/\wx.cell? ⟨m,4,aD⟩=dG (E J h)/\wx.cell? ⟨m,5,aD⟩=dG (dF r)
theorem cut_a{wr w3:World}{name h y1:Int}{k:Nat}{la}{ln lc:Nat}{r:Bool}(hb:ZD wr w3) :
    Zom wr name h y1 k la ln lc r (dE (dG ⟨w3.heap.size,0,aD⟩)) (E J k) (w3.alloc (dA #[E J name,E J k,E J y1,F la ln lc,E J h,dF r] 162)):=by
  obtain⟨c0,c1,c2,c3,c4,c5⟩:=Kf w3 (E J name) (E J k) (E J y1) (F la ln lc) (E J h) (dF r) 162;exact⟨w3.heap.size,rfl,rfl,Zf hb (Zh _ _),by simp,c0,c1,c2,c3,c4,c5⟩
theorem Ziv{B:Nat}{a w:World}(h:Below B a w)(b:Nat)(hb:B<=b)(a0 a1 a2 a3 a4 a5):Below B a ((((((w.setCell ⟨b,0,aD⟩ a0).setCell ⟨b,1,aD⟩ a1).setCell ⟨b,2,aD⟩ a2).setCell ⟨b,3,aD⟩ a3).setCell ⟨b,4,aD⟩ a4).setCell ⟨b,5,aD⟩ a5):=
  (((((h.setCell (p:=⟨b,0,aD⟩) hb a0).setCell (p:=⟨b,1,aD⟩) hb a1).setCell (p:=⟨b,2,aD⟩) hb a2).setCell (p:=⟨b,3,aD⟩) hb a3).setCell (p:=⟨b,4,aD⟩) hb a4).setCell (p:=⟨b,5,aD⟩) hb a5
theorem cut_b{wr w3:World}{name h y1:Int}{k:Nat}{la}{ln lc:Nat}{r:Bool}{b:Nat}(hb:ZD wr w3)(hz:w3.heap[b]? = dG (dA zeroCs.toArray 162 (0,0)))(hl:wr.heap.size<=b) :
    Zom wr name h y1 k la ln lc r (dE (dG ⟨b,0,aD⟩)) (E J k) ((((((w3.setCell ⟨b,0,aD⟩ (E J name)).setCell ⟨b,1,aD⟩ (E J k)).setCell ⟨b,2,aD⟩ (E J y1)).setCell ⟨b,3,aD⟩ (F la ln lc)).setCell ⟨b,4,aD⟩ (E J h)).setCell ⟨b,5,aD⟩ (dF r)):=by
  have hq:=Zgo hz (E J name) (E J k) (E J y1) (F la ln lc) (E J h) (dF r);exact⟨b,rfl,rfl,Ziv hb b hl _ _ _ _ _ _,aA hq,Zd hq 0 _ rfl,Zd hq 1 _ rfl,Zd hq 2 _ rfl,Zd hq 3 _ rfl,Zd hq 4 _ rfl,Zd hq 5 _ rfl⟩
theorem Zqq(w0 w:World)(p:Nat)(v)(K:List CV)(ht:Int)(ai ao)(ni ci no co:Nat)(O)(name h:Int)(r:Bool)(x:Int)(M)(hP:Pu w0 w p v K)(hs:Srt (K.map (·.1)))(hn:K.length+no<=4096)(hO:OutsAt w0 ao no O)(fc:no<=6)(hr:decide (ni=0)=r)(hx:Yp name h r 0 O (K.map (·.1))=(x,M)) :
    Calls aB 160 #[dE (dG ⟨p,0,aD⟩),.agg #[E J ht,F ai ni ci,F ao no co],E J name,E J h] w λe w'=>e = dB (E J x)/\ZD w0 w'/\(x=0->Given w0 w w' p v (K.length+no) M):=by
  have hB:w0.heap.size<=w.heap.size:=hP.bel.size;have fd:p<w.heap.size:=hP.lt;obtain⟨X0,cq,bj,bi⟩:=ka00 w [E J ht,F ai ni ci,F ao no co] 50;have x2:=Zd bi 2 _ rfl;have ST:Hid (Pu w0 X0 p v K):=hP.kept bj;have IR:=Zb (λw=>Rg ht ai ao ni ci no co r w hr);have de:=Zb (λk hk=>(hP.own.lt k hk).2);obtain⟨HS,HO,HZ,HX,dg,db⟩:=kh6 hs hO hO.1 hx bi bj;clear hP hs hO hr hx bi bj;go_enter func160,ntmps160;go_wp2;rw[<-cq];clear cq
  go_loopw [15] (λi wr=>∃ (k:Nat) (K':List CV) (v':Value),k<=no/\i = E J k/\Hid (Yp name h r 0 O (K.map (·.1))=Yp name h r k (O.drop k) (K'.map (·.1)))/\Hid (Srt (K'.map (·.1)))/\K'.length<=K.length+k/\Hid (Pu w0 wr p v' K')/\Hid (Gr w wr (PuS p v))/\Hid (v'.ownBlock=v.ownBlock\/∀ k,v'.ownBlock=dG k->w.heap.size<=k) /\
    Hid (wr.heap[w.heap.size]? = dG (dA [E J ht,F ai ni ci,F ao no co].toArray 50 (0,0)))/\Hid (v'.ownBlock≠dG w.heap.size)) (λi _=>no - (intOf i).toNat)
  case atStart=>exact⟨0,K,v,aI _,rfl,rfl,HS,aE _,ST,Gr.of db,Or.inl rfl,dg,(λe=>by have:=de _ e;omega:v.ownBlock≠dG w.heap.size)⟩
  case round=>
    obtain⟨k,K',v',hk,rfl,A,av,dr,ah,HG,HV,HT,cc⟩:=hrel;clear x2;obtain⟨t0,t1,t2,-⟩:=kc3 HT;have dx:w.heap.size<wr.heap.size:=aA HT;by_cases dw:k<no
    · have br:k<O.length:=by rw[Za HZ];exact dw
      obtain⟨b,off,rfl,ez,du⟩:=HO.2 (by omega);have ct:=du k br;obtain⟨E1,E2⟩:=kh2 (Fl (name:=name) (h:=h) (r:=r) br (K'.map (·.1))) (Fm (name:=name) (h:=h) (r:=r) br (K'.map (·.1)));obtain⟨y,hy⟩:=ZF (O[k]);rw[hy] at ct E2;obtain⟨y1,lk⟩:=y;obtain⟨cj,la,ln,lc,cl,g4,g5⟩:=ct;have g1:=Ze ah.bel cj;have g2:=Ze ah.bel cl;simp only at g1 g2 g4
      have dj:Hid (∀ W,ZD wr W->(We (name,(k:Int)) (K'.map (·.1))=true->Calls aB 204 #[dE (dG ⟨p,0,aD⟩),.agg #[E J name,E J k,E J y1,F la ln lc,E J h,dF r]] W λe w'=>e = dB (dF false)/\ZD W w') /\
          (We (name,(k:Int)) (K'.map (·.1))=false->Calls aB 204 #[dE (dG ⟨p,0,aD⟩),.agg #[E J name,E J k,E J y1,F la ln lc,E J h,dF r]] W λe w'=>∃ (aq:Value) (ae:List CV),e = dB (dF true)/\ae.map (·.1)=J2 (R6 name k (y1,lk) h r) (K'.map (·.1))/\ae.length=K'.length+1/\Pu w0 w' p aq ae/\Gr W w' (PuS p v')/\(aq.ownBlock=v'.ownBlock\/∀ k,aq.ownBlock=dG k->W.heap.size<=k))):=by
        intro W hW;have cp:=ah.kept hW;constructor
        · intro hf
          exact Zpl w0 W p v' K' ((name,(k:Int),y1,lk,h,r),la,ln,lc) cp av (by omega) hf
        · intro hf
          refine (Zlg w0 W p v' K' ((name,(k:Int),y1,lk,h,r),la,ln,lc) cp av (by omega) hf ⟨g4,g5⟩).mono ?_;rintro e w' ⟨aq,ae,h1,h2,_,h3,h4,h5,h6⟩;exact⟨aq,ae,h1,h2,h3,h4,h5,h6⟩
      obtain⟨X,hX⟩:=ZG (wr.alloc (dA #[E J y1,F la ln lc] 92));have an:ZD wr X:=(by rw[hX];exact Zh _ _);obtain⟨o0,o1⟩:=Yo wr (E J y1) (F la ln lc) 92;rw[<-hX] at o0 o1;have s0:=Ze an t0;have s1:=Ze an t1;have s2:=Ze an t2;have dt:wr.heap.size<X.heap.size:=aC _ _ o0;have ey:w.heap.size<X.heap.size:=(by omega);have ca:=Zb an;clear an cj cl g4 g5 hy
      go_upto_region 4 with fail
      rw[<-hX];clear hX t0 t1 t2 g1 g2
      go_cut [11,15] from 15 to 32 (λei ej wx=>Zom wr name h y1 k la ln lc r ei ej wx)
      case first=>
        go_region_with (go_at_call 201;refine (IR _).mono ?_;rintro e w3 ⟨rfl,ac⟩;first
          | (have aa:w3.heap[X.heap.size]? = dG (dA zeroCs.toArray 162 (0,0)):=(ac.block X.heap.size (by simp)).trans (aG X _);have c0:=Zd aa 0 _ rfl;have c1:=Zd aa 1 _ rfl;have c2:=Zd aa 2 _ rfl;have c3:=Zd aa 3 _ rfl;have c4:=Zd aa 4 _ rfl;have c5:=Zd aa 5 _ rfl;have f0:=Zg aa 0;have f1:=Zg aa 1;have f2:=Zg aa 2;have f3:=Zg aa 3;have f4:=Zg aa 4;have f5:=Zg aa 5;have dv:=aA aa;have o2:w3.cell? ⟨wr.heap.size,0,aD⟩=dG (E J y1):=Ze ac (Ze (Zj _) (Ze (Zh X _) o0));have o3:w3.cell? ⟨wr.heap.size,1,aD⟩=dG (F la ln lc):=Ze ac (Ze (Zj _) (Ze (Zh X _) o1));have az:Hid (ZD wr w3):=Zf (Zf (Zf ca (Zh X _)) (Zj _)) ac;have bq:wr.heap.size<w3.heap.size:=aC _ _ o2;have dh:=Zb aa;clear aa ac)
          | (have o2:w3.cell? ⟨wr.heap.size,0,aD⟩=dG (E J y1):=Ze ac (Ze (Zj _) o0);have o3:w3.cell? ⟨wr.heap.size,1,aD⟩=dG (F la ln lc):=Ze ac (Ze (Zj _) o1);have dv:X.heap.size<=w3.heap.size:=ac.size;have az:Hid (ZD wr w3):=Zf (Zf ca (Zj _)) ac;have bq:wr.heap.size<w3.heap.size:=aC _ _ o2;clear ac))
        all_goals
          go_wp2_with fail;go_meet
          case rel=>
            first|exact cut_b (w3:=w3) (b:=X.heap.size) az dh (Nat.le_of_lt dt)|exact cut_a (w3:=w3) az
      case rest=>
        obtain⟨m,rfl,rfl,al,fb,m0,m1,m2,m3,m4,m5⟩:=hcut;have PW:=Zb (dj wc al);have TC:Hid (wc.heap[w.heap.size]? = dG (dA [E J ht,F ai ni ci,F (dG ⟨b,off,aD⟩) no co].toArray 50 (0,0))):=(al.block _ dx).trans HT;have GC:=Zb (HG.on al);have fe:wr.heap.size<=wc.heap.size:=al.size;have fa:(k:Int)<(no:Int):=(by omega);clear o0 o1 s0 s1 s2;cases hf:We (name,(k:Int)) (K'.map (·.1)) with
        | true=>
          have R:Hid (x=6):=by
            have e:=Za A;rw[(Za E1) hf,Za HX] at e;injection e
          have C:=Zb (PW.1 hf);have bz:=Zb (ah.kept al).bel;clear E1 E2 A hf;go_wp2_with fail;refine C.mono ?_;rintro e w4 ⟨rfl,bo⟩;have dc:Hid (ZD w0 w4):=Zf bz (bo.mono bz.size |> λq=>⟨q.os,q.tape,q.output,q.size,bo.block⟩);clear bo;go_wp2;go_ret;exact⟨by rw[Za R];rfl,Za dc,λe=>absurd e (by rw[Za R];decide)⟩
        | false=>
          have C:=Zb (PW.2 hf)
          have A2:Hid (∀ ae:List CV,ae.map (·.1)=J2 (R6 name k (y1,lk) h r) (K'.map (·.1))->Yp name h r 0 O (K.map (·.1))=Yp name h r (k+1) (O.drop (k+1)) (ae.map (·.1))):=λae hK=>by
            rw[Za A,(Za E2) hf,hK]
          clear E1 E2 A hf;go_wp2_with fail;refine C.mono ?_;rintro e w4 ⟨v4,K4,rfl,bg,bq,cn,bf,bs⟩
          have cw:¬PuS p v' w.heap.size:=by
            rintro (e|e)
            · omega
            · exact cc e
          have R:Hid (Hid (Yp name h r 0 O (K.map (·.1))=Yp name h r (k+1) (O.drop (k+1)) (K4.map (·.1)))/\Hid (Srt (K4.map (·.1)))/\K4.length<=K.length+(k+1)/\Hid (Pu w0 w4 p v4 K4)/\Hid (Gr w w4 (PuS p v))/\Hid (v4.ownBlock=v.ownBlock\/∀ k,v4.ownBlock=dG k->w.heap.size<=k) /\
              Hid (w4.heap[w.heap.size]? = dG (dA [E J ht,F ai ni ci,F (dG ⟨b,off,aD⟩) no co].toArray 50 (0,0)))/\Hid (v4.ownBlock≠dG w.heap.size)):=by
            refine⟨A2 K4 bg,?_,by omega,cn,?_,?_,bf.heap TC cw,?_⟩
            · show Srt _;rw[bg];exact J8 av
            · refine GC.trans2 bf (λq hq hT=>?_)
              rcases hT with e|e
              · exact .inl e
              · rcases Za HV with f|f
                · exact .inr (by rw[<-f];exact e)
                · have:=f q e;omega
            · rcases bs with f|f
              · rcases Za HV with g|g
                · exact .inl (by rw[f,g])
                · exact .inr (λq hq=>g q (by rw[<-f];exact hq))
              · exact .inr (λq hq=>by have:=f q hq;omega)
            · intro e
              rcases bs with f|f
              · exact cc (by rw[<-f];exact e)
              · have:=f _ e;omega
          clear bg bq cn bf bs cw;go_wp2;go_roundw
          case rel=>
            obtain⟨r1,r2,r3,r4,r5,r6,r7,r8⟩:=Za R;exact⟨k+1,K4,v4,by omega,by go_num,r1,r2,r3,r4,r5,r6,r7,r8⟩
          case measure=>simp[intOf];omega
    · have e:k=no:=by omega
      subst e;have R:=Za A;rw[Ms (by rw[Za HZ];exact aE _),Za HX] at R;have R1:Hid (x=0):=(by show _=_;injection R);have R2:M=K'.map (·.1):=(by injection R);subst R2;clear R A t0 t1 t2;go_wp2;go_ret;exact⟨by rw[Za R1];rfl,ah.bel,λ_=>⟨v',K',rfl,Za av,dr,Za ah,Za HG⟩⟩
