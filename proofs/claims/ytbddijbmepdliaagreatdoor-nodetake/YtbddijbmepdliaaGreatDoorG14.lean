import Derived.Test.YtbddijbmepdliaaGreatDoorH
import Derived.Test.YtbddijbmepdliaaGreatDoorG13
import Derived.Deep.SlicePairs
import Derived.HandedShaped
import Derived.LaidMore
import Derived.Stop.Joined
import Derived.LaidOnce
open Option renaming none->aD,some->dG
open Go.Proofs.Tryz
open Go renaming heap_alloc_new->aG,info_parts->bX,maxLen->aT,bodyPost_ret->aL,wp_region_held_drew->bC,wpAnyH_done->bZ,lt_of_block->aA,TypeId->aY,DataW->cQ,MemPlace->cJ
open Go.DataW renaming trod->bE,trod_int->bK
open Go.Ending renaming returned->dB
open Go.IntKind renaming wrap_i64->aP,i64->J
open Go.Obj renaming cells->dA
open Go.Proofs.Tryz renaming prog->aB,underlying3->aN,underlying25->cR
open Go.Value renaming slice->bW,int->aU,string->cF,int->E,slice->F,bool->dF
open Go.World renaming size_alloc->cS,block_lt_of_cell?->aC,news_of_block->bI,ownsRow->cP
open List renaming getElem_mem->aQ,take_succ_eq_append_getElem->aH,take_of_length_le->aM,getElem?_eq_getElem->bR,length_take->aV,mem_append->bM,mem_cons->aW
open List.cons renaming injEq->cE
open Nat renaming zero_le->aI,le_trans->aO,le_refl->aE,lt_of_lt_of_le->aF
set_option maxHeartbeats 12800000
namespace Go.Proofs.YtbddijbmepdliaaGreatDoor.Tr
open Go.RowKit
def Zrq(w w':World)(p h k o:Int)(L:List TxD)(e:Ending):Prop:=
 ∃ a n c,e = dB (.agg #[E J p,E J h,E J k,E J o,F a n c])/\(∀ W,Gr w' W (λq=>q<w.heap.size)->TxsAt W a n L)/\SlOk a n c/\ZD w w'
set_option maxRecDepth 10000 in
theorem Zhj(p h k0 o:Int)(a n c L w)(hL:TxsAt w a n L)(hs:BlkSmall (p,h,k0,o,L)) :
  Calls aB 13 #[.agg #[E J p,E J h,E J k0,E J o,F a n c]] w λe w'=>Zrq w w' p h k0 o L e:=by
 have⟨X,hX⟩:=ZG ((w.alloc (dA #[E J p,E J h,E J k0,E J o,F a n c] 33)).alloc (dA #[E J 0,E J 0,E J 0,E J 0,F aD 0 0] 33));have hb:ZD w X:=by rw[hX];exact Zf (Zh _ _) (Zh _ _)
 have ev:X.heap.size=w.heap.size+2:=by rw[hX];simp
 have ap:Hid (X.heap[w.heap.size]? = dG (dA [E J p,E J h,E J k0,E J o,F a n c].toArray 33 (0,0))):=by rw[hX];exact ((Zh _ _).block _ (by simp)).trans (aG _ _)
 have be:Hid (X.heap[w.heap.size+1]? = dG (dA [E J 0,E J 0,E J 0,E J 0,F aD 0 0].toArray 33 (0,0))):=by
  rw[hX];have:=aG (w.alloc (dA #[E J p,E J h,E J k0,E J o,F a n c] 33)) (dA #[E J 0,E J 0,E J 0,E J 0,F aD 0 0] 33);rwa [cS] at this
 have⟨HB,HL,de⟩:=kh3 hb hL hs.2;have hn:n<=2513169434916:=by rw[<-hL.1];exact hs.1
 have⟨dz,ea,eb,ec,ed,tl⟩:=cl5 ap;clear hL hs hb;go_enter func13,ntmps13
 go_upto_region 1 with fail
 rw[<-hX];clear hX;go_wp2_with fail
 go_loopw [3,9] (λlv iv U=>∃ (k:Nat) (v:Value) (K:List (List Value)),k<=n/\v=lv/\iv = E J (k:Int)/\Hid (U.ownsRow X.heap.size 50 3 v k K.flatten)/\Hid (∀ W,Gr U W (Sv v X.heap.size)->AllC txR W K (L.take k))/\Hid (ZD X U)) (λ_ iv _=>n - (intOf iv).toNat)
 case atStart=>exact⟨0,F aD 0 0,[],aI _,rfl,rfl,⟨rfl,.inl ⟨rfl,rfl⟩⟩,λW _=>⟨by simp,λi h1 _=>absurd h1 (by simp)⟩,Below.refl _ _⟩
 case round=>
  obtain⟨k,v,K,hk,rfl,rfl,HR,HV,HG⟩:=hrel;have HW:=Zb (Zf HB HG);have cg:=HG.size;by_cases cq:k<n
  case pos=>
   have ez:(k:Int)<(n:Int):=(by omega);have bj:k<L.length:=(by rw[(Za HL).1];exact cq);obtain⟨ib,io,rfl,_,hc⟩:=(HL.later HW).2 (by omega);have cp:=hc k bj;have bq:=de _ (aQ bj);have ct:=aH bj;have⟨⟨th,I,O⟩,hx⟩:=ZF (L[k]);rw[hx] at cp bq ct;have⟨c0,⟨ai,ni,ci,c1,bf,dx⟩,ao,no,co,c2,bh,dy⟩:=cp;simp only at c0 c1 c2 bf bh;have⟨W1,aq⟩:=ZG (wr.alloc (dA #[E J th,F ai ni ci,F ao no co] 50));have aw:ZD wr W1:=(by rw[aq];exact Zh _ _);have X1:Hid (W1.heap[wr.heap.size]? = dG (dA [E J th,F ai ni ci,F ao no co].toArray 50 (0,0))):=(by show _=_;rw[aq];exact aG _ _);have fc:W1.heap.size=wr.heap.size+1:=(by rw[aq];simp);have C:=Zb (Ei th ai ao ni ci no co I O W1 (bf.later aw) (bh.later aw) bq);have fj:=aC _ _ c0;have db:=Zb aw;clear hc hx bf bh dx dy aw bq
   go_upto_region 5 with fail
   rw[<-aq];clear aq;have⟨ef,eg,eh,xl⟩:=cl3 X1;go_wp2_with fail;refine C.mono ?_;rintro e w3 ⟨a1,n1,ad,a2,n2,ae,rfl,hF,s1,s2,cl⟩;simp only at hF;have⟨i0,hi,dq,dr,ds⟩:=bX Tryz.infoTxC;have cm:=Zh w3 (dA #[E J th,F a1 n1 ad,F a2 n2 ae] 50);have bi:=Zf (Zf db cl) cm;have⟨dh,dg⟩:=kh2 ((Gr.of (S:=λ_=>False) bi).own HR (λ_ _ q=>q)) (bI (aG w3 (dA #[E J th,F a1 n1 ad,F a2 n2 ae] 50)));have br:∀ q,v.ownBlock=dG q->X.heap.size<=q/\q<wr.heap.size:=λq e=>HR.lt q e;have dm:X.heap.size<=(w3.alloc (dA #[E J th,F a1 n1 ad,F a2 n2 ae] 50)).heap.size:=aO cg bi.size;have fd:=cl.size;have⟨dc,bx,HF,cb⟩:=kh4 cm bi hF (And.intro s1 s2)
   go_wp2_with (at_builtin;refine wpList_append_lies _ rfl _ _ 29 rfl X.heap.size 50 i0 (.agg #[E J 0,F aD 0 0,F aD 0 0]) 3 56 underlying29 hi dq dr ds rfl (by decide) _ _ _ rfl dh ⟨w3.heap.size,0,aD⟩ 1 1 [E J th,F a1 n1 ad,F a2 n2 ae] rfl rfl dg (λu hu=>by simp at hu;rcases hu with rfl|rfl|rfl <;> rfl) (by decide) (by unfold aT;omega) (by omega) dm _ rfl ?_;intro g cap w6 fa dn dp ew)
   have ca:Hid (w6.ownsRow X.heap.size 50 3 (F (dG ⟨g,0,aD⟩) (k+1) cap) (k+1) (K++[([E J th,F a1 n1 ad,F a2 n2 ae]:List Value)]).flatten):=by
    show cP _ _ _ _ _ _ _;rwa [List.flatten_append,List.flatten_singleton]
   have G6:Gr (w3.alloc (dA #[E J th,F a1 n1 ad,F a2 n2 ae] 50)) w6 (λq=>v.ownBlock=dG q):=(Gr.refl _ _).grown dn (λq e=>.inl e);have GW:Gr wr w6 (Sv v X.heap.size):=Ya (Gr.of bx) G6 (λq _ e=>.inl e)
   have cw:∀ q,(bW (dG ⟨g,0,aD⟩) (k+1) cap).ownBlock=dG q->v.ownBlock=dG q\/w3.heap.size+1<=q:=λq e=>by
    obtain rfl:g=q:=by injection e
    rcases dp with e|e
    ·exact .inl e
    ·right;rw[e];simp
   have cc:Hid (∀ W,Gr w6 W (Sv (F (dG ⟨g,0,aD⟩) (k+1) cap) X.heap.size)->AllC txR W (K++[([E J th,F a1 n1 ad,F a2 n2 ae]:List Value)]) (L.take (k+1))):=by
    rw[ct];refine Pm HV GW (λq e=>(cw q e).imp id (λe=>by omega)) (λW g2=>?_)
    have bw:=HF W (Ya (Ya (Gr.of dc) G6 (λq _ e=>by have:=br q e;show q<W1.heap.size;omega)) g2 (λq hq e=>by
     show q<W1.heap.size
     rcases e with e|e
     ·rcases cw q e with e|e
      ·have:=br q e;omega
      ·omega
     ·omega))
    exact⟨a1,n1,ad,a2,n2,ae,rfl,bw.1,cb.1,bw.2,cb.2⟩
   have bz:Hid (ZD X w6):=(Ya (Gr.of bx) G6 (λq _ e=>e)).below HG cg (λq e=>(br q e).1);have fe:IntKind.i64.wrap ((k:Int)+1)=((k:Int)+1):=(by rw[aP];omega);go_wp2;go_roundw
   case rel=>first|exact⟨k+1,_,_,by omega,rfl,by go_num,ca,cc,bz⟩|((repeat apply Exists.intro);refine⟨?_,rfl⟩;exact⟨k+1,_,_,by omega,rfl,by go_num,ca,cc,bz⟩)
   case measure=>simp[intOf];omega
  case neg=>
   obtain rfl:n=k:=(by omega);have AO:=HV wr (Gr.refl _ _);rw[aM (by rw[(Za HL).1];exact aE _)] at AO;obtain⟨a2,c2,rfl,_,s2⟩:=rows_of_own txR HR AO HL.1;have ap:=mvd HG ap;have be:=mvd HG be;have⟨V,hV⟩:=ZG (wr.setCell ⟨w.heap.size,4,aD⟩ (F a2 n c2));have G0:Gr wr V (λq=>q=w.heap.size):=(by rw[hV];exact (Gr.refl wr (λq=>q=w.heap.size)).one _ _ (.inl rfl) _);have df:Hid (V.heap[w.heap.size]? = dG (dA [E J p,E J h,E J k0,E J o,F a2 n c2].toArray 33 (0,0))):=(by show _=_;rw[hV];exact set_cells ap 4 _);have aj:=Zb (G0.heap be (λe=>by have e:w.heap.size+1=w.heap.size:=e;omega));obtain⟨-,-,-,-,cx,-,-,-,-,fx,lx⟩:=kf5 ap
   have cy:Hid (∀ W,Gr V W (λq=>q=w.heap.size+1)->Zrq w W p h k0 o L (dB (.agg #[E J p,E J h,E J k0,E J o,F a2 n c2]))):=λW g=>by
    have g1:Gr wr W (λq=>q<X.heap.size):=(G0.mono (λq _ e=>by have e:q=w.heap.size:=e;show q<X.heap.size;omega)).trans (g.mono (λq _ e=>by have e:q=w.heap.size+1:=e;show q<X.heap.size;omega));refine⟨a2,n,c2,rfl,λW2 g2=>?_,s2,?_⟩
    ·have gg:Gr wr W2 (λq=>q<X.heap.size):=Ya g1 g2 (λq _ e=>by have e:q<w.heap.size:=e;show q<X.heap.size;omega);have bv:=HV W2 (gg.mono (λq _ e=>.inr e));rw[aM (by rw[(Za HL).1];exact aE _)] at bv;have⟨_,_,e,r,_⟩:=rows_of_own txR (gg.own HR (λq e e2=>by have:=(HR.lt q e).1;have e2:q<X.heap.size:=e2;omega)) bv HL.1;cases e;exact r
    ·exact ((G0.mono (λq _ e=>Or.inl e)).trans (g.mono (λq _ e=>(Or.inr e:q=w.heap.size\/q=w.heap.size+1)))).below HW HW.size (λq e=>by omega)
   clear AO cq dz ea eb ec ed tl
   go_upto_region 8 with fail
   rw[<-hV];clear hV fx cx lx G0;have⟨ef,eg,eh,fh,fi,xl⟩:=cl5 df;have⟨ek,el,en,eo,ep,fk⟩:=cl5 aj;have f0:=Zg aj 0;have f1:=Zg aj 1;have f2:=Zg aj 2;have f3:=Zg aj 3;have f4:=Zg aj 4;go_wp2;refine aL (v:=.agg #[E J p,E J h,E J k0,E J o,F a2 n c2]) ?_ rfl ?_
   ·rw[Yb rfl];go_simp
   ·exact cy _ ((((((Gr.refl V (λq=>q=w.heap.size+1)).one _ _ (.inl rfl) _).one _ _ (.inl rfl) _).one _ _ (.inl rfl) _).one _ _ (.inl rfl) _).one _ _ (.inl rfl) _)
def Zrp(w w':World)(N:List Int)(T:List Zk)(P:List TxD)(nn bn pn:Nat)(tip:Int)(e:Ending):Prop:=
 ∃ na nc ba bc pa pc,e = dB (.agg #[F na nn nc,F ba bn bc,F pa pn pc,E J tip])/\IntsAt w' na nn N/\BlksAt w' ba bn T/\TxsAt w' pa pn P/\SlOk na nn nc/\SlOk ba bn bc/\SlOk pa pn pc/\ZD w w'
set_option maxRecDepth 10000 in
theorem ownNode_is(na ba pa nn nc bn bc pn pc N T P)(tip:Int)(w)(hN:IntsAt w na nn N)(hT:BlksAt w ba bn T)(hP:TxsAt w pa pn P)(sN:SlOk na nn nc)(hn:nn<=17592186044416)(hm:bn<=2513169434916)(hp:pn<=2513169434916)(ga:∀ b∈T,BlkSmall b)(fz:∀ t∈P,TxSmall t) :
  Calls aB 4 #[.agg #[F na nn nc,F ba bn bc,F pa pn pc,E J tip]] w λe w'=>Zrp w w' N T P nn bn pn tip e:=by
 have⟨X,hX⟩:=ZG ((w.alloc (dA #[F na nn nc,F ba bn bc,F pa pn pc,E J tip] 31)).alloc (dA #[F aD 0 0,F aD 0 0,F aD 0 0,E J 0] 31));have hb:ZD w X:=by rw[hX];exact Zf (Zh _ _) (Zh _ _)
 have fw:X.heap.size=w.heap.size+2:=by rw[hX];simp
 have es:Hid (X.heap[w.heap.size]? = dG (dA [F na nn nc,F ba bn bc,F pa pn pc,E J tip].toArray 31 (0,0))):=by rw[hX];exact ((Zh _ _).block _ (by simp)).trans (aG _ _)
 have cj:Hid (X.heap[w.heap.size+1]? = dG (dA [F aD 0 0,F aD 0 0,F aD 0 0,E J 0].toArray 31 (0,0))):=by
  rw[hX];have:=aG (w.alloc (dA #[F na nn nc,F ba bn bc,F pa pn pc,E J tip] 31)) (dA #[F aD 0 0,F aD 0 0,F aD 0 0,E J 0] 31);rwa [cS] at this
 have⟨HB,HT,HP,gh,gg⟩:=kh5 hb hT hP ga fz;have C:=Zb (λU (hu:ZD X U)=>U2 na nn nc N U hn ((hN.later hb).later hu) sN);have iv:N.length=nn:=hN.1
 have KS:Hid (∀ U,Gr X U (λq=>X.heap.size<=q)->U.cell? ⟨w.heap.size,0,aD⟩=dG (F na nn nc)/\U.cell? ⟨w.heap.size,3,aD⟩=dG (E J tip)/\w.heap.size+1<U.heap.size):=λU g=>by
  have⟨a0,_,_,a3,_⟩:=cl4 (Zb (g.heap es (λe=>by have e:X.heap.size<=w.heap.size:=e;omega)));have:=g.size;exact⟨a0,a3,by omega⟩
 clear hN hT hP sN ga fz hb;go_enter func4,ntmps4
 go_upto_region 1 with fail
 rw[<-hX];clear hX;refine bC (S:=λU=>U.cell? ⟨w.heap.size,0,aD⟩=dG (F na nn nc)/\U.cell? ⟨w.heap.size,3,aD⟩=dG (E J tip)/\w.heap.size+1<U.heap.size) (by kernel_rfl) (KS _ (Gr.of (Zj _))) (λaa=>?_);refine tkL 0 rfl aa ?_;refine tkL 1 rfl aa ?_;refine tkL 2 rfl aa ?_;refine tkL 3 rfl aa ?_;refine tkL 4 rfl aa ?_;refine wpAnyH_ready (rs:=[5,8]) (by kernel_rfl) (by simp) ?_;refine rdC rfl (λKQ hK=>?_) (rdC rfl (λKQ hK=>?_) AllReadyH.nil);refine Zq (by kernel_rfl) 12 #[F na nn nc] (by kernel_rfl) (C _ (Zj _)) ?_;rintro e w3 ⟨v,rfl,ca,ac⟩;refine⟨_,rfl,?_⟩;obtain⟨xa,xc,rfl,sx,_⟩:=ints_of_own ca;have ac:=Zf (Zj X) ac;have cx:=ac.size;clear aa;refine hK.out _ _ (KS _ (Gr.of ac)) (λaa=>?_);clear hK KQ;refine tkL 6 rfl aa ?_;refine tkL 7 rfl aa ?_;clear aa;refine rdY 8 rfl (λKQ hK=>?_);go_simp;refine hK.out _ _ (KS _ (Gr.of (Zf ac (Zh _ _)))) (λaa=>?_);clear hK KQ;have⟨V0,df⟩:=ZG (w3.alloc (dA #[F aD 0 0,F aD 0 0,F aD 0 0,E J 0] 31));have HZ:Hid (V0.heap[w3.heap.size]? = dG (dA [F aD 0 0,F aD 0 0,F aD 0 0,E J 0].toArray 31 (0,0))):=by show _=_;rw[df];exact aG _ _
 have ed:Hid (ZD X V0):=by rw[df];exact Zf ac (Zh _ _)
 have ee:Hid (∀ W,Gr V0 W (λq=>q=w3.heap.size\/q<X.heap.size)->IntsAt W xa nn N):=λW g=>by
  have o:V0.ownsRow X.heap.size 3 1 (F xa nn xc) nn (N.map (aU .i64)):=by rw[df];exact (Gr.of (S:=λ_=>False) (Zh w3 _)).own ca (λ_ _ q=>q)
  have⟨_,_,e,_,r⟩:=ints_of_own (g.own o (λq e e2=>by have:=ca.lt q e;have e3:X.heap.size<=q:=this.1;rcases e2 with e2|e2 <;> omega));cases e;exact r
 rw[<-df];rw[<-df] at aa;have⟨ob,dy⟩:=ZG (w3.heap.size);rw[<-dy] at HZ ee cx ⊢;clear df ca ac dy;rotate_left;go_simp;refine hK.out _ _ (KS _ (Gr.of (Zf (Zj X) (Zh _ _)))) (λaa=>?_);clear hK KQ;refine rdS 5 rfl (C _ (Zf (Zj X) (Zh _ _))) ?_;rintro e V0 ⟨v,rfl,ca,ac⟩;have fx:=ac;obtain⟨xa,xc,rfl,sx,_⟩:=ints_of_own ca;have ac:=Zf (Zf (Zj X) (Zh _ _)) ac;have cx:X.heap.size<=w.heap.size+2:=Nat.le_of_eq fw;refine⟨_,rfl,KS _ (Gr.of ac),λaa=>?_⟩;refine tkL 6 rfl aa ?_;refine tkL 7 rfl aa ?_;have HZ:Hid (V0.heap[w.heap.size+2]? = dG (dA [F aD 0 0,F aD 0 0,F aD 0 0,E J 0].toArray 31 (0,0))):=by rw[<-fw];exact Zb ((fx.block _ (by simp)).trans (aG _ _))
 have ed:=Zb ac
 have ee:Hid (∀ W,Gr V0 W (λq=>q=w.heap.size+2\/q<X.heap.size)->IntsAt W xa nn N):=λW g=>by
  have⟨_,_,e,_,r⟩:=ints_of_own (g.own ca (λq e e2=>by have:=(ca.lt q e).1;have e3:X.heap.size+1<=q:=(by simpa using this);rcases e2 with e2|e2 <;> omega));cases e;exact r
 have⟨ob,dy⟩:=ZG (w.heap.size+2);rw[<-dy] at HZ ee cx ⊢;clear ca ac fx dy;rotate_left
 all_goals
  have gn:=Zg HZ 0;have gp:=Zg HZ 1;have gq:=Zg HZ 2;have gs:=Zg HZ 3;have⟨ig,ih,ii,ij,zl⟩:=cl4 HZ;refine rdY 9 rfl (λKQ hK=>?_);go_simp;have⟨V1,ej⟩:=ZG ((((V0.setCell ⟨ob,0,aD⟩ (F xa nn xc)).setCell ⟨ob,1,aD⟩ (F aD 0 0)).setCell ⟨ob,2,aD⟩ (F aD 0 0)).setCell ⟨ob,3,aD⟩ (E J tip));rw[<-ej];have g1:Gr V0 V1 (λq=>q=ob):=by rw[ej];exact ((((Gr.refl V0 (λq=>q=ob)).one _ 0 (.inl rfl) _).one _ 1 (.inl rfl) _).one _ 2 (.inl rfl) _).one _ 3 (.inl rfl) _
  have cm:Hid (V1.heap[ob]? = dG (dA [F xa nn xc,F aD 0 0,F aD 0 0,E J tip].toArray 31 (0,0))):=by show _=_;rw[ej];exact set_cells (set_cells (set_cells (set_cells HZ 0 _) 1 _) 2 _) 3 _
  have G1:Gr X V1 (λq=>X.heap.size<=q):=(Gr.of ed).trans (g1.mono (λq _ e=>by have e:q=ob:=e;show X.heap.size<=q;omega));have ay:Hid (ZD X V1):=(g1.mono (λq _ e=>e)).below ed ed.size (λq e=>by have e:q=ob:=e;omega);have ep:Hid (∀ W,Gr V1 W (λq=>q=ob\/q<X.heap.size)->IntsAt W xa nn N):=λW g=>ee W ((g1.mono (λq _ e=>Or.inl e)).trans g);clear aa gn gp gq gs ig ih ii ij zl ej g1;refine hK.out _ _ (KS _ G1) (λaa=>?_);clear hK KQ aa G1;refine bZ (by kernel_rfl) ?_ _;have fu:=onb HB ay;have HB:=fu;have fy:=aA cm;have et:=mvd ay es;have⟨fm,fo,fp,fq,tl⟩:=cl4 et;clear fu;go_wp2_with fail;clear fm fo fp fq tl
  go_loopw [20] (λiz U=>∃ (k:Nat) (v:Value) (K:List (List Value)),k<=bn/\iz = E J (k:Int)/\Hid (U.heap[ob]? = dG (dA [F xa nn xc,v,F aD 0 0,E J tip].toArray 31 (0,0)))/\Hid (U.ownsRow V1.heap.size 33 5 v k K.flatten)/\Hid (∀ W,Gr U W (Sv v V1.heap.size)->AllC blkR W K (T.take k))/\Hid (Gr V1 U (λq=>q=ob))) (λiz _=>bn - (intOf iz).toNat)
  case atStart=>exact⟨0,F aD 0 0,[],aI _,rfl,cm,⟨rfl,.inl ⟨rfl,rfl⟩⟩,λW _=>⟨by simp,λi h1 _=>absurd h1 (by simp)⟩,Gr.refl _ _⟩
  case round=>
   obtain⟨k,v,K,hk,rfl,cl,HR,HV,HG⟩:=hrel;have HW:=Zb (HG.below HB HB.size (λq e=>by omega));have ek:=HG.size;by_cases dx:k<bn
   case pos=>
    have gu:(k:Int)<(bn:Int):=(by omega);have ct:k<T.length:=(by rw[(Za HT).1];exact dx);obtain⟨jc,jd,rfl,_,hc⟩:=(HT.later HW).2 (by omega);have dv:=hc k ct;have cy:=gh _ (aQ ct);have cz:=aH ct;have⟨⟨p,h,k0,o,Lb⟩,hx⟩:=ZF (T[k]);rw[hx] at dv cy cz;have⟨e0,e1,e2,e3,a,m,c,e4,fa,ib⟩:=dv;simp only at e0 e1 e2 e3 fa;have⟨W1,bi⟩:=ZG (wr.alloc (dA #[E J p,E J h,E J k0,E J o,F a m c] 33));have bs:ZD wr W1:=(by rw[bi];exact Zh _ _);have X1:Hid (W1.heap[wr.heap.size]? = dG (dA [E J p,E J h,E J k0,E J o,F a m c].toArray 33 (0,0))):=(by show _=_;rw[bi];exact aG _ _);have gw:W1.heap.size=wr.heap.size+1:=(by rw[bi];simp);have C:=Zb (λU (hu:ZD W1 U)=>Zhj p h k0 o a m c Lb U (fa.later (Zf bs hu)) cy);have ja:=aC _ _ e0;have O1:=mvd bs cl;have ce:=Zb bs;have gv:=aA cl;have bq:∀ q,v.ownBlock=dG q->V1.heap.size<=q/\q<wr.heap.size:=λq e=>HR.lt q e
    have KS:Hid (∀ U,Gr W1 U (λq=>v.ownBlock=dG q\/q=ob)->U.cell? ⟨wr.heap.size,0,aD⟩=dG (E J p)/\U.cell? ⟨wr.heap.size,1,aD⟩=dG (E J h)/\U.cell? ⟨wr.heap.size,2,aD⟩=dG (E J k0)/\U.cell? ⟨wr.heap.size,3,aD⟩=dG (E J o)/\U.cell? ⟨wr.heap.size,4,aD⟩=dG (F a m c)/\wr.heap.size<U.heap.size/\ob<U.heap.size):=λU g=>by
     have⟨a0,a1,a2,a3,a4,_⟩:=cl5 (Zb (g.heap X1 (λe=>by rcases e with e|e;exact absurd (bq _ e).2 (Nat.lt_irrefl _);omega)));have:=g.size;have:=aA O1;exact⟨a0,a1,a2,a3,a4,by omega,by omega⟩
    clear hc hx bs cy
    go_upto_region 5 with fail
    rw[<-bi];clear bi fa ib e0 e1 e2 e3 e4 ja;refine bC (S:=λU=>U.cell? ⟨wr.heap.size,0,aD⟩=dG (E J p)/\U.cell? ⟨wr.heap.size,1,aD⟩=dG (E J h)/\U.cell? ⟨wr.heap.size,2,aD⟩=dG (E J k0)/\U.cell? ⟨wr.heap.size,3,aD⟩=dG (E J o)/\U.cell? ⟨wr.heap.size,4,aD⟩=dG (F a m c)/\wr.heap.size<U.heap.size/\ob<U.heap.size) (by kernel_rfl) (KS _ (Gr.of (Zj _))) (λaa=>?_);refine tkL 0 rfl aa ?_;refine tkL 1 rfl aa ?_;refine tkL 3 rfl aa ?_;refine wpAnyH_ready (rs:=[2,4]) (by kernel_rfl) (by simp) ?_;refine rdC rfl (λKQ hK=>?_) (rdC rfl (λKQ hK=>?_) AllReadyH.nil);have OD:=mvd (Zj W1) O1;have⟨al,am,an,ap,ol⟩:=cl4 OD;go_simp;refine hK.out _ _ (KS _ (Gr.of (Zj _))) (λaa=>?_);clear hK KQ aa al am an ap ol OD;refine rdS 4 rfl (C _ (Zj _)) ?_;rintro e w3 ⟨a1,m1,c1,rfl,hF,s1,ac⟩;have ac:=Zf (Zj W1) ac;have cx:=ac.size;refine⟨_,rfl,KS _ (Gr.of ac),λaa=>?_⟩;clear aa;refine rdY 5 rfl (λKQ hK=>?_);go_simp;refine hK.out _ _ (KS _ (Gr.of (Zf ac (Zh _ _)))) (λaa=>?_);clear hK KQ;rotate_left;refine Zq (by kernel_rfl) 13 #[.agg #[E J p,E J h,E J k0,E J o,F a m c]] (by kernel_rfl) (C _ (Zj _)) ?_;rintro e w3 ⟨a1,m1,c1,rfl,hF,s1,ac⟩;have ac:=Zf (Zj W1) ac;have cx:=ac.size;refine⟨_,rfl,?_⟩;clear aa;refine hK.out _ _ (KS _ (Gr.of ac)) (λaa=>?_);clear hK KQ aa;refine wpAnyH_ready (rs:=[2,5]) (by kernel_rfl) (by simp) ?_;refine rdC rfl (λKQ hK=>?_) (rdC rfl (λKQ hK=>?_) AllReadyH.nil)
    have O3:=mvd ac O1;have⟨al,am,an,ap,ol⟩:=cl4 O3;go_simp;refine hK.out _ _ (KS _ (Gr.of ac)) (λaa=>?_);clear hK KQ al am an ap ol O3 aa;refine rdY 5 rfl (λKQ hK=>?_);go_simp;refine hK.out _ _ (KS _ (Gr.of (Zf ac (Zh _ _)))) (λaa=>?_);clear hK KQ;rotate_left;go_simp;refine hK.out _ _ (KS _ (Gr.of (Zf ac (Zh _ _)))) (λaa=>?_);clear hK KQ aa;have O3:=mvd (Zf ac (Zh w3 (dA #[E J p,E J h,E J k0,E J o,F a1 m1 c1] 33))) O1;have⟨al,am,an,ap,ol⟩:=cl4 O3;refine rdY 2 rfl (λKQ hK=>?_);go_simp;refine hK.out _ _ (KS _ (Gr.of (Zf ac (Zh _ _)))) (λaa=>?_);clear hK KQ al am an ap ol O3;rotate_left
    all_goals
     clear aa;have⟨i0,hi,fh,fi,fj⟩:=bX Tryz.infoBlkC;have cq:=Zh w3 (dA #[E J p,E J h,E J k0,E J o,F a1 m1 c1] 33);have bo:=Zf ac cq;have⟨dr,dn⟩:=kh2 ((Gr.of (S:=λ_=>False) (Zf ce bo)).own HR (λ_ _ q=>q)) (bI (aG w3 (dA #[E J p,E J h,E J k0,E J o,F a1 m1 c1] 33)));have O5:=mvd bo O1;have fd:V1.heap.size<=(w3.alloc (dA #[E J p,E J h,E J k0,E J o,F a1 m1 c1] 33)).heap.size:=aO ek (Zf ce bo).size;have⟨en,cf,HF,ef⟩:=kh4 cq bo hF s1;clear cq bo hF ac s1;refine rdY 6 rfl (λKQ hK=>?_);refine step_append_lies _ rfl _ _ 26 rfl V1.heap.size 33 i0 (.agg #[E J 0,E J 0,E J 0,E J 0,F aD 0 0]) 5 56 underlying26 hi fh fi fj rfl (by decide) v k K.flatten rfl dr ⟨w3.heap.size,0,aD⟩ 1 1 [E J p,E J h,E J k0,E J o,F a1 m1 c1] rfl rfl dn (λu hu=>by simp at hu;rcases hu with rfl|rfl|rfl|rfl|rfl <;> rfl) (by decide) (by unfold aT;omega) (by omega) fd _ rfl ?_;intro g cap w6 cu dw dz fe;have G6:Gr (w3.alloc (dA #[E J p,E J h,E J k0,E J o,F a1 m1 c1] 33)) w6 (λq=>v.ownBlock=dG q):=(Gr.refl _ _).grown dw (λq e=>.inl e);have O6:=Zb (G6.heap O5 (λe=>by have:=bq _ e;omega));refine hK.out _ _ (KS _ ((Gr.of cf).trans (G6.mono (λq _ e=>Or.inl e)))) (λaa=>?_);clear hK KQ;refine tkL 7 rfl aa ?_;refine tkL 8 rfl aa ?_;clear aa
     have⟨al,am,an,ap,ol⟩:=cl4 O6;have jb:=Zg O6 1;refine rdY 9 rfl (λKQ hK=>?_);go_simp;have⟨W7,bj⟩:=ZG (w6.setCell ⟨ob,1,aD⟩ (F (dG ⟨g,0,aD⟩) (k+1) cap));rw[<-bj]
     have G7:Gr (w3.alloc (dA #[E J p,E J h,E J k0,E J o,F a1 m1 c1] 33)) W7 (Sb v ob):=by
      rw[bj];exact Gr.one (S:=Sb v ob) (G6.mono (λq _ e=>Or.inl e)) _ 1 (.inl (.inr rfl)) _
     have dm:Hid (W7.heap[ob]? = dG (dA [F xa nn xc,F (dG ⟨g,0,aD⟩) (k+1) cap,F aD 0 0,E J tip].toArray 31 (0,0))):=by show _=_;rw[bj];exact set_cells O6 1 _
     have dj:Hid (W7.ownsRow V1.heap.size 33 5 (F (dG ⟨g,0,aD⟩) (k+1) cap) (k+1) (K++[([E J p,E J h,E J k0,E J o,F a1 m1 c1]:List Value)]).flatten):=by
      show cP _ _ _ _ _ _ _
      have o:W7.ownsRow V1.heap.size 33 5 (F (dG ⟨g,0,aD⟩) (k+1) cap) (k+1) (K.flatten++[E J p,E J h,E J k0,E J o,F a1 m1 c1]):=by
       rw[bj];exact (((Gr.refl w6 (λq=>q=ob)).one _ _ (.inl rfl) _)).own cu (λq e e2=>by have e2:q=ob:=e2;have:=(cu.lt q e).1;omega)
      rwa [List.flatten_append,List.flatten_singleton]
     have cd:Gr wr W7 (Sb v ob):=Ya (Gr.of (Zf ce (Zf cf (Below.refl _ _)))) G7 (λq _ e=>e)
     have da:∀ q,(bW (dG ⟨g,0,aD⟩) (k+1) cap).ownBlock=dG q->v.ownBlock=dG q\/w3.heap.size+1<=q:=λq e=>by
      obtain rfl:g=q:=by injection e
      rcases dz with e|e
      ·exact .inl e
      ·right;rw[e];simp
     have dl:Hid (∀ W,Gr W7 W (Sv (F (dG ⟨g,0,aD⟩) (k+1) cap) V1.heap.size)->AllC blkR W (K++[([E J p,E J h,E J k0,E J o,F a1 m1 c1]:List Value)]) (T.take (k+1))):=by
      rw[cz];refine Pm HV (cd.mono (λq _ e=>e.imp id (λe=>by omega))) (λq e=>(da q e).imp id (λe=>by omega)) (λW g2=>?_)
      have ec:=HF W (Ya (Ya (Gr.of en) G7 (λq _ e=>by
       show q<W1.heap.size
       rcases e with e|e
       ·have:=bq q e;omega
       ·omega)) g2 (λq hq e=>by
       show q<W1.heap.size
       rcases e with e|e
       ·rcases da q e with e|e
        ·have:=bq q e;omega
        ·omega
       ·omega))
      exact⟨a1,m1,c1,rfl,ec,Za ef⟩
     have di:Hid (Gr V1 W7 (λq=>q=ob)):=Ya HG cd (λq hq e=>by
      rcases e with e|e
      ·have:=bq q e;omega
      ·exact e)
     have gx:IntKind.i64.wrap ((k:Int)+1)=((k:Int)+1):=(by rw[aP];omega);refine hK.out _ _ (KS _ (Ya (Gr.of cf) G7 (λq _ e=>e))) (λaa=>?_);clear cu dw dz fe O6 al am an ap ol jb bj G6 G7 cd da O5 dr dn cz hK KQ aa O1;refine bZ (by kernel_rfl) ?_ _;go_wp2;go_roundw
     case rel=>first|exact⟨k+1,_,_,by omega,by go_num,dm,dj,dl,di⟩|((repeat apply Exists.intro);refine⟨?_,rfl⟩;exact⟨k+1,_,_,by omega,by go_num,dm,dj,dl,di⟩)
     case measure=>simp[intOf];omega
   case neg=>
    have fg:bn=k:=(by omega);subst fg;have ei:=HT.1;have AO:=HV wr (Gr.refl _ _);rw[aM (by rw[ei];exact aE _)] at AO;obtain⟨ya,yc,rfl,_,sy⟩:=rows_of_own blkR HR AO ei;have⟨V2,cp⟩:=ZG (wr)
    have gi:Hid (∀ W,Gr V2 W (λq=>q=ob\/q<X.heap.size)->BlksAt W ya bn T):=λW g=>by
     rw[cp] at g;have iy:=ay.size;have dh:=HV W (g.mono (λq _ e=>.inr (by rcases e with e|e <;> omega)));rw[aM (by rw[ei];exact aE _)] at dh;have⟨_,_,e,r,_⟩:=rows_of_own blkR (g.own HR (λq hq e=>by have:=HR.lt q hq;rcases e with e|e <;> omega)) dh ei;cases e;exact r
    have ep:Hid (∀ W,Gr V2 W (λq=>q=ob\/q<X.heap.size)->IntsAt W xa nn N):=λW g=>ep W ((HG.mono (λq _ e=>Or.inl e)).trans (by rw[cp] at g;exact g));have ay:Hid (ZD X V2):=(by rw[cp];exact HG.below ay ay.size (λq e=>by have e:q=ob:=e;omega));have HB:Hid (ZD w V2):=(by rw[cp];exact HW);have cm:=cl;rw[<-cp] at cm;rw[<-cp];clear AO ek dx hk cp fy;have fy:=aA cm;have et:=mvd ay es;have⟨fm,fo,fp,fq,tl⟩:=cl4 et;go_wp2_with fail;clear fm fo fp fq tl
    go_loopw [37] (λiz U=>∃ (k:Nat) (v:Value) (K:List (List Value)),k<=pn/\iz = E J (k:Int)/\Hid (U.heap[ob]? = dG (dA [F xa nn xc,F ya bn yc,v,E J tip].toArray 31 (0,0)))/\Hid (U.ownsRow V2.heap.size 50 3 v k K.flatten)/\Hid (∀ W,Gr U W (Sv v V2.heap.size)->AllC txR W K (P.take k))/\Hid (Gr V2 U (λq=>q=ob))) (λiz _=>pn - (intOf iz).toNat)
    case atStart=>exact⟨0,F aD 0 0,[],aI _,rfl,cm,⟨rfl,.inl ⟨rfl,rfl⟩⟩,λW _=>⟨by simp,λi h1 _=>absurd h1 (by simp)⟩,Gr.refl _ _⟩
    case round=>
     obtain⟨k,v,K,hk,rfl,cl,HR,HV,HG⟩:=hrel;have HW:=Zb (HG.below HB HB.size (λq e=>by omega));have ek:=HG.size;clear cm;by_cases dx:k<pn
     case pos=>
      have gu:(k:Int)<(pn:Int):=(by omega);have ct:k<P.length:=(by rw[(Za HP).1];exact dx);obtain⟨jc,jd,rfl,_,hc⟩:=(HP.later HW).2 (by omega);have dv:=hc k ct;have cy:=gg _ (aQ ct);have cz:=aH ct;have⟨⟨th,I,O⟩,hx⟩:=ZF (P[k]);rw[hx] at dv cy cz;have⟨e0,⟨ai,ni,ci,e1,ez,ia⟩,ao,no,co,e2,fb,ic⟩:=dv;simp only at e0 e1 e2 ez fb;have⟨W1,bi⟩:=ZG (wr.alloc (dA #[E J th,F ai ni ci,F ao no co] 50));have bs:ZD wr W1:=(by rw[bi];exact Zh _ _);have X1:Hid (W1.heap[wr.heap.size]? = dG (dA [E J th,F ai ni ci,F ao no co].toArray 50 (0,0))):=(by show _=_;rw[bi];exact aG _ _);have gw:W1.heap.size=wr.heap.size+1:=(by rw[bi];simp);have C:=Zb (λU (hu:ZD W1 U)=>Ei th ai ao ni ci no co I O U (ez.later (Zf bs hu)) (fb.later (Zf bs hu)) cy);have ja:=aC _ _ e0;have O1:=mvd bs cl;have ce:=Zb bs;have gv:=aA cl;have bq:∀ q,v.ownBlock=dG q->V2.heap.size<=q/\q<wr.heap.size:=λq e=>HR.lt q e
      have KS:Hid (∀ U,Gr W1 U (λq=>v.ownBlock=dG q\/q=ob)->U.cell? ⟨wr.heap.size,0,aD⟩=dG (E J th)/\U.cell? ⟨wr.heap.size,1,aD⟩=dG (F ai ni ci)/\U.cell? ⟨wr.heap.size,2,aD⟩=dG (F ao no co)/\wr.heap.size<U.heap.size/\ob<U.heap.size):=λU g=>by
       have⟨a0,a1,a2,_⟩:=cl3 (Zb (g.heap X1 (λe=>by rcases e with e|e;exact absurd (bq _ e).2 (Nat.lt_irrefl _);omega)));have:=g.size;have:=aA O1;exact⟨a0,a1,a2,by omega,by omega⟩
      clear hc hx bs cy
      go_upto_region 10 with fail
      rw[<-bi];clear bi ez fb ia ic e0 e1 e2 ja;refine bC (S:=λU=>U.cell? ⟨wr.heap.size,0,aD⟩=dG (E J th)/\U.cell? ⟨wr.heap.size,1,aD⟩=dG (F ai ni ci)/\U.cell? ⟨wr.heap.size,2,aD⟩=dG (F ao no co)/\wr.heap.size<U.heap.size/\ob<U.heap.size) (by kernel_rfl) (KS _ (Gr.of (Zj _))) (λaa=>?_);refine tkL 0 rfl aa ?_;refine tkL 2 rfl aa ?_;refine wpAnyH_ready (rs:=[1,3]) (by kernel_rfl) (by simp) ?_;refine rdC rfl (λKQ hK=>?_) (rdC rfl (λKQ hK=>?_) AllReadyH.nil);have OD:=mvd (Zj W1) O1;have⟨al,am,an,ap,ol⟩:=cl4 OD;go_simp;refine hK.out _ _ (KS _ (Gr.of (Zj _))) (λaa=>?_);clear hK KQ aa al am an ap ol OD;refine rdS 3 rfl (C _ (Zj _)) ?_;rintro e w3 ⟨a1,n1,c1,a2,n2,c2,rfl,hF,s1,s2,ac⟩;simp only at hF;have ac:=Zf (Zj W1) ac;have cx:=ac.size;refine⟨_,rfl,KS _ (Gr.of ac),λaa=>?_⟩;clear aa;refine rdY 4 rfl (λKQ hK=>?_);go_simp;refine hK.out _ _ (KS _ (Gr.of (Zf ac (Zh _ _)))) (λaa=>?_);clear hK KQ;rotate_left;refine Zq (by kernel_rfl) 14 #[.agg #[E J th,F ai ni ci,F ao no co]] (by kernel_rfl) (C _ (Zj _)) ?_;rintro e w3 ⟨a1,n1,c1,a2,n2,c2,rfl,hF,s1,s2,ac⟩;simp only at hF;have ac:=Zf (Zj W1) ac;have cx:=ac.size;refine⟨_,rfl,?_⟩;clear aa;refine hK.out _ _ (KS _ (Gr.of ac)) (λaa=>?_);clear hK KQ aa;refine wpAnyH_ready (rs:=[1,4]) (by kernel_rfl) (by simp) ?_;refine rdC rfl (λKQ hK=>?_) (rdC rfl (λKQ hK=>?_) AllReadyH.nil);have O3:=mvd ac O1;have⟨al,am,an,ap,ol⟩:=cl4 O3;go_simp
      refine hK.out _ _ (KS _ (Gr.of ac)) (λaa=>?_);clear hK KQ al am an ap ol O3 aa;refine rdY 4 rfl (λKQ hK=>?_);go_simp;refine hK.out _ _ (KS _ (Gr.of (Zf ac (Zh _ _)))) (λaa=>?_);clear hK KQ;rotate_left;go_simp;refine hK.out _ _ (KS _ (Gr.of (Zf ac (Zh _ _)))) (λaa=>?_);clear hK KQ aa;have O3:=mvd (Zf ac (Zh w3 (dA #[E J th,F a1 n1 c1,F a2 n2 c2] 50))) O1;have⟨al,am,an,ap,ol⟩:=cl4 O3;refine rdY 1 rfl (λKQ hK=>?_);go_simp;refine hK.out _ _ (KS _ (Gr.of (Zf ac (Zh _ _)))) (λaa=>?_);clear hK KQ al am an ap ol O3;rotate_left
      all_goals
       clear aa;have⟨i0,hi,fh,fi,fj⟩:=bX Tryz.infoTxC;have cq:=Zh w3 (dA #[E J th,F a1 n1 c1,F a2 n2 c2] 50);have bo:=Zf ac cq;have⟨dr,dn⟩:=kh2 ((Gr.of (S:=λ_=>False) (Zf ce bo)).own HR (λ_ _ q=>q)) (bI (aG w3 (dA #[E J th,F a1 n1 c1,F a2 n2 c2] 50)));have O5:=mvd bo O1;have fd:V2.heap.size<=(w3.alloc (dA #[E J th,F a1 n1 c1,F a2 n2 c2] 50)).heap.size:=aO ek (Zf ce bo).size;have⟨en,cf,HF,ef⟩:=kh4 cq bo hF (And.intro s1 s2);clear cq bo hF ac s1 s2;refine rdY 5 rfl (λKQ hK=>?_);refine step_append_lies _ rfl _ _ 29 rfl V2.heap.size 50 i0 (.agg #[E J 0,F aD 0 0,F aD 0 0]) 3 56 underlying29 hi fh fi fj rfl (by decide) v k K.flatten rfl dr ⟨w3.heap.size,0,aD⟩ 1 1 [E J th,F a1 n1 c1,F a2 n2 c2] rfl rfl dn (λu hu=>by simp at hu;rcases hu with rfl|rfl|rfl <;> rfl) (by decide) (by unfold aT;omega) (by omega) fd _ rfl ?_;intro g cap w6 cu dw dz fe;have G6:Gr (w3.alloc (dA #[E J th,F a1 n1 c1,F a2 n2 c2] 50)) w6 (λq=>v.ownBlock=dG q):=(Gr.refl _ _).grown dw (λq e=>.inl e);have O6:=Zb (G6.heap O5 (λe=>by have:=bq _ e;omega));refine hK.out _ _ (KS _ ((Gr.of cf).trans (G6.mono (λq _ e=>Or.inl e)))) (λaa=>?_);clear hK KQ;refine tkL 6 rfl aa ?_;clear aa;have⟨al,am,an,ap,ol⟩:=cl4 O6;have jb:=Zg O6 2;refine rdY 7 rfl (λKQ hK=>?_);go_simp
       have⟨W7,bj⟩:=ZG (w6.setCell ⟨ob,2,aD⟩ (F (dG ⟨g,0,aD⟩) (k+1) cap));rw[<-bj]
       have G7:Gr (w3.alloc (dA #[E J th,F a1 n1 c1,F a2 n2 c2] 50)) W7 (Sb v ob):=by
        rw[bj];exact Gr.one (S:=Sb v ob) (G6.mono (λq _ e=>Or.inl e)) _ 2 (.inl (.inr rfl)) _
       have dm:Hid (W7.heap[ob]? = dG (dA [F xa nn xc,F ya bn yc,F (dG ⟨g,0,aD⟩) (k+1) cap,E J tip].toArray 31 (0,0))):=by show _=_;rw[bj];exact set_cells O6 2 _
       have dj:Hid (W7.ownsRow V2.heap.size 50 3 (F (dG ⟨g,0,aD⟩) (k+1) cap) (k+1) (K++[([E J th,F a1 n1 c1,F a2 n2 c2]:List Value)]).flatten):=by
        show cP _ _ _ _ _ _ _
        have o:W7.ownsRow V2.heap.size 50 3 (F (dG ⟨g,0,aD⟩) (k+1) cap) (k+1) (K.flatten++[E J th,F a1 n1 c1,F a2 n2 c2]):=by
         rw[bj];exact (((Gr.refl w6 (λq=>q=ob)).one _ _ (.inl rfl) _)).own cu (λq e e2=>by have e2:q=ob:=e2;have:=(cu.lt q e).1;omega)
        rwa [List.flatten_append,List.flatten_singleton]
       have cd:Gr wr W7 (Sb v ob):=Ya (Gr.of (Zf ce (Zf cf (Below.refl _ _)))) G7 (λq _ e=>e)
       have da:∀ q,(bW (dG ⟨g,0,aD⟩) (k+1) cap).ownBlock=dG q->v.ownBlock=dG q\/w3.heap.size+1<=q:=λq e=>by
        obtain rfl:g=q:=by injection e
        rcases dz with e|e
        ·exact .inl e
        ·right;rw[e];simp
       have dl:Hid (∀ W,Gr W7 W (Sv (F (dG ⟨g,0,aD⟩) (k+1) cap) V2.heap.size)->AllC txR W (K++[([E J th,F a1 n1 c1,F a2 n2 c2]:List Value)]) (P.take (k+1))):=by
        rw[cz];refine Pm HV (cd.mono (λq _ e=>e.imp id (λe=>by omega))) (λq e=>(da q e).imp id (λe=>by omega)) (λW g2=>?_)
        have ec:=HF W (Ya (Ya (Gr.of en) G7 (λq _ e=>by
         show q<W1.heap.size
         rcases e with e|e
         ·have:=bq q e;omega
         ·omega)) g2 (λq hq e=>by
         show q<W1.heap.size
         rcases e with e|e
         ·rcases da q e with e|e
          ·have:=bq q e;omega
          ·omega
         ·omega))
        exact⟨a1,n1,c1,a2,n2,c2,rfl,ec.1,ef.1,ec.2,ef.2⟩
       have di:Hid (Gr V2 W7 (λq=>q=ob)):=Ya HG cd (λq hq e=>by
        rcases e with e|e
        ·have:=bq q e;omega
        ·exact e)
       have gx:IntKind.i64.wrap ((k:Int)+1)=((k:Int)+1):=(by rw[aP];omega);refine hK.out _ _ (KS _ (Ya (Gr.of cf) G7 (λq _ e=>e))) (λaa=>?_);clear cu dw dz fe O6 al am an ap ol jb bj G6 G7 cd da O5 dr dn cz hK KQ aa O1;refine bZ (by kernel_rfl) ?_ _;go_wp2;go_roundw
       case rel=>first|exact⟨k+1,_,_,by omega,by go_num,dm,dj,dl,di⟩|((repeat apply Exists.intro);refine⟨?_,rfl⟩;exact⟨k+1,_,_,by omega,by go_num,dm,dj,dl,di⟩)
       case measure=>simp[intOf];omega
     case neg=>
      have fg:pn=k:=(by omega);subst fg;have eh:=HP.1;have AO:=HV wr (Gr.refl _ _);rw[aM (by rw[eh];exact aE _)] at AO;obtain⟨za,zc,rfl,_,sz⟩:=rows_of_own txR HR AO eh;have ay:=Zb (HG.below ay ay.size (λq e=>by have e:q=ob:=e;omega));have cj:=mvd ay cj
      have gf:Hid (∀ W,Gr wr W (λq=>q=w.heap.size+1)->Zrp w W N T P nn bn pn tip (dB (.agg #[F xa nn xc,F ya bn yc,F za pn zc,E J tip]))):=λW g=>by
       have g1:Gr V2 W (λq=>q=ob\/q<X.heap.size):=(HG.mono (λq _ e=>Or.inl e)).trans (g.mono (λq _ e=>by have e:q=w.heap.size+1:=e;exact Or.inr (by omega)));have dh:=HV W (g.mono (λq _ e=>.inr (by have e:q=w.heap.size+1:=e;have:=HB.size;omega)));rw[aM (by rw[eh];exact aE _)] at dh;have⟨_,_,e,r,_⟩:=rows_of_own txR (g.own HR (λq hq e=>by have:=HR.lt q hq;have e:q=w.heap.size+1:=e;have:=ay.size;omega)) dh eh;cases e;exact⟨_,_,_,_,_,_,rfl,ep W g1,gi W g1,r,sx,sy,sz,g.below HW HW.size (λq e=>by have e:q=w.heap.size+1:=e;omega)⟩
      have⟨al,am,an,ap,ol⟩:=cl4 cl;have⟨il,im,io,ip,el⟩:=cl4 cj;have f0:=Zg cj 0;have f1:=Zg cj 1;have f2:=Zg cj 2;have f3:=Zg cj 3;clear AO dx hk;go_wp2;refine aL (v:=.agg #[F xa nn xc,F ya bn yc,F za pn zc,E J tip]) ?_ rfl ?_
      ·rw[Yb rfl];go_simp
      ·exact gf _ (((((Gr.refl wr (λq=>q=w.heap.size+1)).one _ _ (.inl rfl) _).one _ _ (.inl rfl) _).one _ _ (.inl rfl) _).one _ _ (.inl rfl) _)
end Tr
open Go.RowKit
def Ziz{α : Type}(Z:Tr.Rec α)(f:Nat):Prop:=(∀ args w,(callFunc f args).run aB w = .ok (.enter f args) w)/\∀ V cs ds x,Z.C V cs x->Z.C V ds x->Calls aB f #[.agg cs.toArray,.agg ds.toArray] V λe w'=>e = dB (dF true)/\ZD V w'
theorem ca2{w w':World}{b o v0 v1}(hb:ZD w w')(h:Tr.CellsAt w b o [v0,v1]):w'.cell? ⟨b,o,aD⟩=dG v0/\w'.cell? ⟨b,o+1,aD⟩=dG v1/\b<w'.heap.size:=⟨Ze hb (h 0 _ rfl),Ze hb (h 1 _ rfl),aC _ _ (Ze hb (h 0 _ rfl))⟩
theorem ca3{w w':World}{b o v0 v1 v2}(hb:ZD w w')(h:Tr.CellsAt w b o [v0,v1,v2]):w'.cell? ⟨b,o,aD⟩=dG v0/\w'.cell? ⟨b,o+1,aD⟩=dG v1/\w'.cell? ⟨b,o+2,aD⟩=dG v2/\b<w'.heap.size:=⟨Ze hb (h 0 _ rfl),Ze hb (h 1 _ rfl),Ze hb (h 2 _ rfl),aC _ _ (Ze hb (h 0 _ rfl))⟩
theorem ca5{w w':World}{b o v0 v1 v2 v3 v4}(hb:ZD w w')(h:Tr.CellsAt w b o [v0,v1,v2,v3,v4]):w'.cell? ⟨b,o,aD⟩=dG v0/\w'.cell? ⟨b,o+1,aD⟩=dG v1/\w'.cell? ⟨b,o+2,aD⟩=dG v2/\w'.cell? ⟨b,o+3,aD⟩=dG v3/\w'.cell? ⟨b,o+4,aD⟩=dG v4/\b<w'.heap.size:=⟨Ze hb (h 0 _ rfl),Ze hb (h 1 _ rfl),Ze hb (h 2 _ rfl),Ze hb (h 3 _ rfl),Ze hb (h 4 _ rfl),aC _ _ (Ze hb (h 0 _ rfl))⟩
set_option maxRecDepth 10000 in
theorem Zih(f:Nat)(hf:Ziz Tr.outR f)(a b)(n c d:Nat)(l)(w:World)(hn:n<=aT)(hA:RowsAt Tr.outR.R 2 w a n l)(hB:RowsAt Tr.outR.R 2 w b n l) :
  ZH 73 #[F a n c,F b n d,.func (.func f) #[] #[]] w (dF true):=by
 unfold aT at hn;have eg:=hf.1;have⟨HF,H1,H2⟩:=kh3 hf.2 hA hB;have g0:((n:Int) != (n:Int))=false:=by simp
 clear hA hB hf;go_enter func73,ntmps73;go_wp2
 go_loopw [17] (λi wr=>∃ j:Nat,j<=n/\i = E J j/\Hid (ZD w wr)) (λi _=>n - (intOf i).toNat)
 case atStart=>exact⟨0,aI _,rfl,Below.refl _ _⟩
 case round=>
  obtain⟨j,hk,rfl,HB⟩:=hrel;by_cases ca:j<n
  ·obtain⟨b1,o1,rfl,_,h1⟩:=H1.2 (by omega);obtain⟨b2,o2,rfl,_,h2⟩:=H2.2 (by omega);have hl:j<l.length:=(by rw[(Za H1).1];exact ca);have⟨cs,hc,C1⟩:=Tr.outR.rc _ _ _ _ (h1 j hl);have⟨ds,hd,C2⟩:=Tr.outR.rc _ _ _ _ (h2 j hl);have⟨x,hx⟩:=ZF (l[j]);rw[hx] at C1 C2;have CC:=Zb (λV (hv:ZD w V)=>HF V cs ds x (Tr.outR.kept _ _ _ _ hv C1) (Tr.outR.kept _ _ _ _ hv C2));obtain⟨av,ax,aw,rfl,_⟩:=C1;obtain⟨ay,bd,az,rfl,_⟩:=C2;have⟨bv,bw,ct⟩:=ca2 HB hc;have⟨bs,bu,cu⟩:=ca2 HB hd;have⟨X,hX⟩:=ZG (wr.alloc (dA #[E J x.1,F av ax aw] 92));have af:ZD wr X:=(by rw[hX];exact Zh _ _);have⟨Y,hY⟩:=ZG (X.alloc (dA #[E J x.1,F ay bd az] 92));have ag:ZD X Y:=(by rw[hY];exact Zh _ _);have bx:X.heap.size=wr.heap.size+1:=(by rw[hX];simp);have HA:Hid (Y.heap[wr.heap.size]? = dG (dA [E J x.1,F av ax aw].toArray 92 (0,0))):=(ag.block _ (by omega)).trans (by rw[hX];exact aG _ _);have bh:Hid (Y.heap[wr.heap.size+1]? = dG (dA [E J x.1,F ay bd az].toArray 92 (0,0))):=(by rw[<-bx,hY];exact aG _ _);have⟨bq,br,el⟩:=ca2 (Zf HB af) hd;have⟨cb,cc,al⟩:=cl2 HA;have⟨cg,cj,dl⟩:=cl2 bh;have am:=onb HB (Zf af ag);have C:=Zb (CC Y am);have cp:(j:Int)<(n:Int):=(by omega);clear af ag hx hc hd h1 h2 hl
   go_upto_region 6 with fail
   rw[<-hX];clear hX
   go_upto_region 7 with fail
   rw[<-hY];clear hY bv bs bq bw bu br;go_wp2_with fail;refine C.mono ?_;rintro e w3 ⟨rfl,bz⟩;have bi:=onb am bz;go_wp2;go_roundw
   case rel=>exact⟨j+1,by omega,by go_num,bi⟩
   case measure=>simp[intOf];omega
  ·go_wp2;go_ret;exact⟨rfl,Za HB⟩
set_option maxRecDepth 10000 in
theorem Zak(f:Nat)(hf:Ziz Tr.txR f)(a b)(n c d:Nat)(l)(w:World)(hn:n<=aT)(hA:RowsAt Tr.txR.R 3 w a n l)(hB:RowsAt Tr.txR.R 3 w b n l) :
  ZH 34 #[F a n c,F b n d,.func (.func f) #[] #[]] w (dF true):=by
 unfold aT at hn;have eg:=hf.1;have⟨HF,H1,H2⟩:=kh3 hf.2 hA hB;have g0:((n:Int) != (n:Int))=false:=by simp
 clear hA hB hf;go_enter func34,ntmps34;go_wp2
 go_loopw [17] (λi wr=>∃ j:Nat,j<=n/\i = E J j/\Hid (ZD w wr)) (λi _=>n - (intOf i).toNat)
 case atStart=>exact⟨0,aI _,rfl,Below.refl _ _⟩
 case round=>
  obtain⟨j,hk,rfl,HB⟩:=hrel;by_cases cm:j<n
  ·obtain⟨b1,o1,rfl,_,h1⟩:=H1.2 (by omega);obtain⟨b2,o2,rfl,_,h2⟩:=H2.2 (by omega);have hl:j<l.length:=(by rw[(Za H1).1];exact cm);have⟨cs,hc,C1⟩:=Tr.txR.rc _ _ _ _ (h1 j hl);have⟨ds,hd,C2⟩:=Tr.txR.rc _ _ _ _ (h2 j hl);have⟨x,hx⟩:=ZF (l[j]);rw[hx] at C1 C2;have CC:=Zb (λV (hv:ZD w V)=>HF V cs ds x (Tr.txR.kept _ _ _ _ hv C1) (Tr.txR.kept _ _ _ _ hv C2));obtain⟨av,ax,aw,be,bg,bf,rfl,_⟩:=C1;obtain⟨ay,bd,az,bh,bj,bi,rfl,_⟩:=C2;have⟨ce,cf,cg,df⟩:=ca3 HB hc;have⟨cb,cc,cd,dg⟩:=ca3 HB hd;have⟨X,hX⟩:=ZG (wr.alloc (dA #[E J x.1,F av ax aw,F be bg bf] 50));have af:ZD wr X:=(by rw[hX];exact Zh _ _);have⟨Y,hY⟩:=ZG (X.alloc (dA #[E J x.1,F ay bd az,F bh bj bi] 50));have ag:ZD X Y:=(by rw[hY];exact Zh _ _);have cj:X.heap.size=wr.heap.size+1:=(by rw[hX];simp);have HA:Hid (Y.heap[wr.heap.size]? = dG (dA [E J x.1,F av ax aw,F be bg bf].toArray 50 (0,0))):=(ag.block _ (by omega)).trans (by rw[hX];exact aG _ _);have bs:Hid (Y.heap[wr.heap.size+1]? = dG (dA [E J x.1,F ay bd az,F bh bj bi].toArray 50 (0,0))):=(by rw[<-cj,hY];exact aG _ _);have⟨bx,bz,ca,el⟩:=ca3 (Zf HB af) hd;have⟨cn,cp,cq,al⟩:=cl3 HA;have⟨cx,cy,cz,dl⟩:=cl3 bs;have am:=onb HB (Zf af ag);have C:=Zb (CC Y am);have dd:(j:Int)<(n:Int):=(by omega);clear af ag hx hc hd h1 h2 hl
   go_upto_region 6 with fail
   rw[<-hX];clear hX
   go_upto_region 7 with fail
   rw[<-hY];clear hY ce cb bx cf cc bz cg cd ca;go_wp2_with fail;refine C.mono ?_;rintro e w3 ⟨rfl,cl⟩;have bu:=onb am cl;go_wp2;go_roundw
   case rel=>exact⟨j+1,by omega,by go_num,bu⟩
   case measure=>simp[intOf];omega
  ·go_wp2;go_ret;exact⟨rfl,Za HB⟩
set_option maxRecDepth 10000 in
theorem Zij(f:Nat)(hf:Ziz Tr.blkR f)(a b)(n c d:Nat)(l)(w:World)(hn:n<=aT)(hA:RowsAt Tr.blkR.R 5 w a n l)(hB:RowsAt Tr.blkR.R 5 w b n l) :
  ZH 70 #[F a n c,F b n d,.func (.func f) #[] #[]] w (dF true):=by
 unfold aT at hn;have eg:=hf.1;have⟨HF,H1,H2⟩:=kh3 hf.2 hA hB;have g0:((n:Int) != (n:Int))=false:=by simp
 clear hA hB hf;go_enter func70,ntmps70;go_wp2
 go_loopw [17] (λi wr=>∃ j:Nat,j<=n/\i = E J j/\Hid (ZD w wr)) (λi _=>n - (intOf i).toNat)
 case atStart=>exact⟨0,aI _,rfl,Below.refl _ _⟩
 case round=>
  obtain⟨j,hk,rfl,HB⟩:=hrel;by_cases cm:j<n
  ·obtain⟨b1,o1,rfl,_,h1⟩:=H1.2 (by omega);obtain⟨b2,o2,rfl,_,h2⟩:=H2.2 (by omega);have hl:j<l.length:=(by rw[(Za H1).1];exact cm);have⟨cs,hc,C1⟩:=Tr.blkR.rc _ _ _ _ (h1 j hl);have⟨ds,hd,C2⟩:=Tr.blkR.rc _ _ _ _ (h2 j hl);have⟨x,hx⟩:=ZF (l[j]);rw[hx] at C1 C2;have CC:=Zb (λV (hv:ZD w V)=>HF V cs ds x (Tr.blkR.kept _ _ _ _ hv C1) (Tr.blkR.kept _ _ _ _ hv C2));obtain⟨av,ax,aw,rfl,_⟩:=C1;obtain⟨ay,bd,az,rfl,_⟩:=C2;have⟨cc,cd,ce,cf,cg,dj⟩:=ca5 HB hc;have⟨bw,bx,bz,ca,cb,dl⟩:=ca5 HB hd;have⟨X,hX⟩:=ZG (wr.alloc (dA #[E J x.1,E J x.2.1,E J x.2.2.1,E J x.2.2.2.1,F av ax aw] 33));have af:ZD wr X:=(by rw[hX];exact Zh _ _);have⟨Y,hY⟩:=ZG (X.alloc (dA #[E J x.1,E J x.2.1,E J x.2.2.1,E J x.2.2.2.1,F ay bd az] 33));have ag:ZD X Y:=(by rw[hY];exact Zh _ _);have cj:X.heap.size=wr.heap.size+1:=(by rw[hX];simp);have HA:Hid (Y.heap[wr.heap.size]? = dG (dA [E J x.1,E J x.2.1,E J x.2.2.1,E J x.2.2.2.1,F av ax aw].toArray 33 (0,0))):=(ag.block _ (by omega)).trans (by rw[hX];exact aG _ _);have bh:Hid (Y.heap[wr.heap.size+1]? = dG (dA [E J x.1,E J x.2.1,E J x.2.2.1,E J x.2.2.2.1,F ay bd az].toArray 33 (0,0))):=(by rw[<-cj,hY];exact aG _ _);have⟨bq,br,bs,bu,bv,el⟩:=ca5 (Zf HB af) hd;have⟨cn,cp,cq,ct,cu,al⟩:=cl5 HA;have⟨cz,da,db,dc,dd,dn⟩:=cl5 bh;have am:=onb HB (Zf af ag);have C:=Zb (CC Y am)
   have dh:(j:Int)<(n:Int):=(by omega);clear af ag hx hc hd h1 h2 hl
   go_upto_region 6 with fail
   rw[<-hX];clear hX
   go_upto_region 7 with fail
   rw[<-hY];clear hY cc bw bq cd bx br ce bz bs cf ca bu cg cb bv;go_wp2_with fail;refine C.mono ?_;rintro e w3 ⟨rfl,cl⟩;have bi:=onb am cl;go_wp2;go_roundw
   case rel=>exact⟨j+1,by omega,by go_num,bi⟩
   case measure=>simp[intOf];omega
  ·go_wp2;go_ret;exact⟨rfl,Za HB⟩
set_option maxRecDepth 10000 in
theorem Fq(a b)(n c d:Nat)(l)(w:World)(hn:n<=aT)(hA:OpsAt w a n l)(hB:OpsAt w b n l) :
  ZH 72 #[F a n c,F b n d] w (dF true):=by
 unfold aT at hn;have⟨H1,H2⟩:=kh2 hA hB;have g0:((n:Int) != (n:Int))=false:=by simp
 go_enter func72,ntmps72;go_wp2
 go_loopw [13] (λi wr=>∃ k m:Nat,k<=n/\i = E J k/\wr=w.drewN m) (λi _=>n - (intOf i).toNat)
 case atStart=>exact⟨0,0,aI _,rfl,rfl⟩
 case round=>
  obtain⟨k,m,hk,rfl,rfl⟩:=hrel;by_cases aa:k<n
  ·obtain⟨b1,o1,rfl,h1⟩:=H1.2 (by omega);obtain⟨b2,o2,rfl,h2⟩:=H2.2 (by omega);have⟨g1,g2⟩:=h1 k aa;have⟨g3,g4⟩:=h2 k aa;obtain⟨⟨q1,q2⟩,hq⟩:∃ q,q=l.getD k (0,0):=⟨_,rfl⟩;rw[<-hq] at g1 g2 g3 g4;go_wp2
   go_quiet (fail)
   go_wp2;go_roundw
   case rel=>exact⟨k+1,m+nq,by omega,by go_num,rfl⟩
   case measure=>simp[intOf];omega
  ·go_wp2;go_ret;exact⟨rfl,Z9 w m⟩
set_option maxRecDepth 10000 in
theorem outF:Ziz Tr.outR 74:=by
 refine⟨enters_of func74 (by kernel_rfl) rfl,λw cs ds x h1 h2=>?_⟩;obtain⟨a,n,c,rfl,hA,sA⟩:=h1;obtain⟨b,m,d,rfl,hB,_⟩:=h2;have⟨t,l⟩:=x;simp only at hA hB ⊢;obtain rfl:n=m:=hA.1.symm.trans hB.1;have⟨X,hX⟩:=ZG ((w.alloc (dA #[E J t,F a n c] 92)).alloc (dA #[E J t,F b n d] 92));have hb:ZD w X:=by rw[hX];exact Zf (Zh _ _) (Zh _ _)
 have ag:Hid (X.heap[w.heap.size]? = dG (dA [E J t,F a n c].toArray 92 (0,0))):=by rw[hX];exact ((Zh _ _).block _ (by simp)).trans (aG _ _)
 have ah:Hid (X.heap[w.heap.size+1]? = dG (dA [E J t,F b n d].toArray 92 (0,0))):=by
  rw[hX];have:=aG (w.alloc (dA #[E J t,F a n c] 92)) (dA #[E J t,F b n d] 92);rwa [cS] at this
 have HB:=Zb hb;have C0:=Zb (λW (hw:ZD w W)=>Fq a b n c d l W sA.len (hA.later hw) (hB.later hw));have⟨ap,aq,xl⟩:=cl2 ag;have⟨ak,al,vl⟩:=cl2 ah;have D0:=Zb (C0 X hb);clear hA hB sA hb;go_enter func74,ntmps74
 go_upto_region 1 with fail
 rw[<-hX];clear hX;go_wp2_with fail;refine D0.mono ?_;rintro e w1 ⟨rfl,hb⟩;have HB:=onb HB hb;go_wp2;go_ret;exact⟨rfl,Za HB⟩
set_option maxRecDepth 10000 in
theorem Cm:Ziz Tr.txR 35:=by
 refine⟨enters_of func35 (by kernel_rfl) rfl,λw cs ds x h1 h2=>?_⟩;obtain⟨ia,n,ic,oa,m,oc,rfl,hI,sI,hO,sO⟩:=h1;obtain⟨ja,n',jc,qa,m',qc,rfl,hJ,_,hQ,_⟩:=h2;have⟨t,I,O⟩:=x;simp only at hI hJ hO hQ ⊢;obtain rfl:n=n':=hI.1.symm.trans hJ.1;obtain rfl:m=m':=hO.1.symm.trans hQ.1;have nI:n<=9223372036854775807:=sI.len;have⟨X,hX⟩:=ZG ((w.alloc (dA #[E J t,F ia n ic,F oa m oc] 50)).alloc (dA #[E J t,F ja n jc,F qa m qc] 50));have HB:Hid (ZD w X):=by rw[hX];exact Zf (Zh _ _) (Zh _ _)
 have au:Hid (X.heap[w.heap.size]? = dG (dA [E J t,F ia n ic,F oa m oc].toArray 50 (0,0))):=by rw[hX];exact ((Zh _ _).block _ (by simp)).trans (aG _ _)
 have ae:Hid (X.heap[w.heap.size+1]? = dG (dA [E J t,F ja n jc,F qa m qc].toArray 50 (0,0))):=by
  rw[hX];have:=aG (w.alloc (dA #[E J t,F ia n ic,F oa m oc] 50)) (dA #[E J t,F ja n jc,F qa m qc] 50);rwa [cS] at this
 have⟨HI,HJ⟩:=kh2 hI hJ;have CO:=Zb (λW (hw:ZD w W)=>Zih 74 outF oa qa m oc qc O W sO.len (hO.later hw) (hQ.later hw));have⟨x0,x1,x2,xl⟩:=cl3 au;have⟨v0,v1,v2,vl⟩:=cl3 ae;have g0:((n:Int) != (n:Int))=false:=by simp
 clear hI hJ hO hQ sI sO;go_enter func35,ntmps35
 go_upto_region 1 with fail
 rw[<-hX];clear hX;go_wp2_with fail
 go_loopw [24] (λi V=>∃ j:Nat,j<=n/\i = E J j/\Hid (ZD X V)) (λi _=>n - (intOf i).toNat)
 case atStart=>exact⟨0,aI _,rfl,Below.refl _ _⟩
 case round=>
  obtain⟨j,hj,rfl,HV⟩:=hrel;clear x0 x1 x2 xl v0 v1 v2 vl;have ad:=onb HB HV;have au:=mvd HV au;have ae:=mvd HV ae;by_cases de:j<n
  ·obtain⟨b1,o1,rfl,_,h1⟩:=HI.2 (by omega);obtain⟨b2,o2,rfl,_,h2⟩:=HJ.2 (by omega);have hl:j<I.length:=(by rw[(Za HI).1];exact de);have hI:=h1 j hl;have hJ:=h2 j hl;have⟨⟨q1,q2,l⟩,hx⟩:=ZF (I[j]);rw[hx] at hI hJ;have⟨p0,p1,ka,kn,kc,p2,hK,sK⟩:=hI;have⟨r0,r1,la,ln,lc,r2,hL,_⟩:=hJ;simp only at p0 p1 hK r0 r1 hL;obtain rfl:kn=ln:=hK.1.symm.trans hL.1;have c0:=Ze ad p0;have c1:=Ze ad p1;have c2:=Ze ad p2;have c3:=Ze ad r0;have c4:=Ze ad r1;have c5:=Ze ad r2;have bl:=aC _ _ c0;have cz:=aC _ _ c3;obtain⟨pn,bi⟩:∃ p,p=wr.heap.size:=⟨_,rfl⟩;have⟨Y,hY⟩:=ZG (wr.alloc (dA #[E J q1,E J q2,F ka kn kc] 90));have ag:ZD wr Y:=(by rw[hY];exact Zh _ _);have HQ:Hid (Y.heap[pn]? = dG (dA [E J q1,E J q2,F ka kn kc].toArray 90 (0,0))):=(by rw[hY,bi];exact aG _ _);have ae:=mvd ag ae
   have KS:Hid (∀ U:World,ZD Y U->(U.cell? ⟨pn,0,aD⟩=dG (E J q1)/\U.cell? ⟨pn,1,aD⟩=dG (E J q2)/\U.cell? ⟨pn,2,aD⟩=dG (F ka kn kc)/\pn<U.heap.size/\U.cell? ⟨w.heap.size+1,1,aD⟩=dG (F (dG ⟨b2,o2,aD⟩) n jc)/\w.heap.size+1<U.heap.size/\U.cell? ⟨b2,o2+j*3,aD⟩=dG (E J q1)/\U.cell? ⟨b2,o2+j*3+1,aD⟩=dG (E J q2)/\U.cell? ⟨b2,o2+j*3+2,aD⟩=dG (F la kn lc)/\b2<U.heap.size)):=λU hu=>⟨Ze hu (Zd HQ 0 _ rfl),Ze hu (Zd HQ 1 _ rfl),Ze hu (Zd HQ 2 _ rfl),aF (aA HQ) hu.size,Ze hu (Zd ae 1 _ rfl),aF (aA ae) hu.size,Ze (Zf ag hu) c3,Ze (Zf ag hu) c4,Ze (Zf ag hu) c5,aF cz (Zf ag hu).size⟩;have CE:=Zb (λW (hw:ZD w W)=>Fq ka la kn kc lc l W sK.len (hK.later hw) (hL.later hw));have cb:=onb HV ag;have bz:=onb ad ag;have dd:(j:Int)<(n:Int):=(by omega);clear hx h1 h2 hl p0 p1 p2 r0 r1 r2 hK sK hL ag
   go_upto_region 6 with fail
   rw[<-hY,<-bi];clear hY bi c0 c1 c2;refine bC (S:=λU=>U.cell? ⟨pn,0,aD⟩=dG (E J q1)/\U.cell? ⟨pn,1,aD⟩=dG (E J q2)/\U.cell? ⟨pn,2,aD⟩=dG (F ka kn kc)/\pn<U.heap.size/\U.cell? ⟨w.heap.size+1,1,aD⟩=dG (F (dG ⟨b2,o2,aD⟩) n jc)/\w.heap.size+1<U.heap.size/\U.cell? ⟨b2,o2+j*3,aD⟩=dG (E J q1)/\U.cell? ⟨b2,o2+j*3+1,aD⟩=dG (E J q2)/\U.cell? ⟨b2,o2+j*3+2,aD⟩=dG (F la kn lc)/\b2<U.heap.size) (by kernel_rfl) (KS _ (Zj Y)) (λaa=>?_);refine tkL 0 rfl aa ?_;refine tkL 1 rfl aa ?_;refine tkL 2 rfl aa ?_;refine tkL 3 rfl aa ?_;refine tkL 4 rfl aa ?_;refine tkL 5 rfl aa ?_;refine tkL 6 rfl aa ?_;refine tkL 7 rfl aa ?_;refine tkL 8 rfl aa ?_;refine tkL 9 rfl aa ?_;refine tkL 10 rfl aa ?_;refine tkL 11 rfl aa ?_;refine tkL 12 rfl aa ?_;refine tkL 13 rfl aa ?_;refine tkL 14 rfl aa ?_;refine tkL 15 rfl aa ?_;refine tkL 16 rfl aa ?_;refine tkL 17 rfl aa ?_;refine rdS 18 rfl (CE Y.drew (Zf bz (Zj Y))) ?_;rintro e w6 ⟨rfl,af⟩;clear aa;have af:=Zf (Zj Y) af;refine⟨_,rfl,KS _ af,λaa=>?_⟩;refine tkL 19 rfl aa ?_;refine tkL 20 rfl aa ?_;refine bZ (by kernel_rfl) ?_ _;clear aa;have cy:=onb cb af;clear af cb bz;go_wp2;go_roundw
   case rel=>exact⟨j+1,by omega,by go_num,cy⟩
   case measure=>simp[intOf];omega
  ·have dd:¬(j:Int)<(n:Int):=(by omega);have⟨x0,x1,x2,xl⟩:=cl3 au;have⟨v0,v1,v2,vl⟩:=cl3 ae;go_wp2_with fail;refine (CO wr ad).mono ?_;rintro e w6 ⟨rfl,af⟩;have cw:=onb ad af;clear af;go_wp2;go_ret;exact⟨rfl,Za cw⟩
set_option maxRecDepth 10000 in
theorem Zkv(p h k o:Int)(a b n c m d T)(w:World)(hT:TxsAt w a n T)(ad:TxsAt w b m T)(sT:SlOk a n c) :
  ZH 71 #[.agg #[E J p,E J h,E J k,E J o,F a n c],.agg #[E J p,E J h,E J k,E J o,F b m d]] w (dF true):=by
 obtain rfl:n=m:=hT.1.symm.trans ad.1;have⟨X,hX⟩:=ZG ((w.alloc (dA #[E J p,E J h,E J k,E J o,F a n c] 33)).alloc (dA #[E J p,E J h,E J k,E J o,F b n d] 33));have hb:ZD w X:=by rw[hX];exact Zf (Zh _ _) (Zh _ _)
 have ae:Hid (X.heap[w.heap.size]? = dG (dA [E J p,E J h,E J k,E J o,F a n c].toArray 33 (0,0))):=by rw[hX];exact ((Zh _ _).block _ (by simp)).trans (aG _ _)
 have af:Hid (X.heap[w.heap.size+1]? = dG (dA [E J p,E J h,E J k,E J o,F b n d].toArray 33 (0,0))):=by
  rw[hX];have:=aG (w.alloc (dA #[E J p,E J h,E J k,E J o,F a n c] 33)) (dA #[E J p,E J h,E J k,E J o,F b n d] 33);rwa [cS] at this
 have HB:=Zb hb;have C0:=Zb (λW (hw:ZD w W)=>Zak 35 Cm a b n c d T W sT.len (hT.later hw) (ad.later hw));have⟨ap,aq,ar,au,av,xl⟩:=cl5 ae;have⟨ag,ah,aj,ak,al,vl⟩:=cl5 af;have D0:=Zb (C0 X hb);clear hT ad sT hb;go_enter func71,ntmps71
 go_upto_region 1 with fail
 rw[<-hX];clear hX;go_wp2_with fail;refine D0.mono ?_;rintro e w1 ⟨rfl,hb⟩;have HB:=onb HB hb;go_wp2;go_ret;exact⟨rfl,Za HB⟩
theorem Zgt:Ziz Tr.blkR 71:=by
 refine⟨enters_of func71 (by kernel_rfl) rfl,λV cs ds x h1 h2=>?_⟩;obtain⟨a,n,c,rfl,hT,sT⟩:=h1;obtain⟨b,m,d,rfl,aa,_⟩:=h2;exact Zkv x.1 x.2.1 x.2.2.1 x.2.2.2.1 a b n c m d x.2.2.2.2 V hT aa sT
set_option maxRecDepth 10000 in
theorem Zgs(a b a' b' n c m d c' d' N T)(w:World)(hN:Tr.IntsAt w a n N)(hT:Tr.BlksAt w b m T)(ag:Tr.IntsAt w a' n N)(ah:Tr.BlksAt w b' m T)(sN:SlOk a n c)(sT:SlOk b m d) :
  ZH 33 #[.agg #[F a n c,F b m d],.agg #[F a' n c',F b' m d']] w (dF true):=by
 have⟨X,hX⟩:=ZG ((w.alloc (dA #[F a n c,F b m d] 28)).alloc (dA #[F a' n c',F b' m d'] 28));have hb:ZD w X:=by rw[hX];exact Zf (Zh _ _) (Zh _ _)
 have ae:Hid (X.heap[w.heap.size]? = dG (dA [F a n c,F b m d].toArray 28 (0,0))):=by rw[hX];exact ((Zh _ _).block _ (by simp)).trans (aG _ _)
 have af:Hid (X.heap[w.heap.size+1]? = dG (dA [F a' n c',F b' m d'].toArray 28 (0,0))):=by
  rw[hX];have:=aG (w.alloc (dA #[F a n c,F b m d] 28)) (dA #[F a' n c',F b' m d'] 28);rwa [cS] at this
 have HB:=Zb hb;have C0:=Zb (λW (hw:ZD w W)=>Tr.eqInt_is a a' n n c c' N N true W sN.len (hN.later hw) (ag.later hw) (by simp));have C1:=Zb (λW (hw:ZD w W)=>Zij 71 Zgt b b' m d d' T W sT.len (hT.later hw) (ah.later hw));have⟨ax,ay,xl⟩:=cl2 ae;have⟨ar,au,vl⟩:=cl2 af;have D0:=Zb (C0 X hb);clear hN hT ag ah sN sT hb;go_enter func33,ntmps33
 go_upto_region 1 with fail
 rw[<-hX];clear hX;go_wp2_with fail;refine D0.mono ?_;rintro e w1 ⟨rfl,hb⟩;have HB:=onb HB hb;have ae:=mvd hb ae;have af:=mvd hb af;have⟨av,aw,xl⟩:=cl2 ae;have⟨ap,aq,vl⟩:=cl2 af;have D1:=Zb (C1 w1 HB);go_wp2_with fail;refine D1.mono ?_;rintro e w2 ⟨rfl,hb⟩;have HB:=onb HB hb;go_wp2;go_ret;exact⟨rfl,Za HB⟩
set_option maxRecDepth 10000 in
theorem Lm(na ba na' ba' pa pa' nn nc bn bc nc' bc' pn pc pc' N T P)(t:Int)(w:World)(hN:Tr.IntsAt w na nn N)(hT:Tr.BlksAt w ba bn T)(hP:TxsAt w pa pn P)(af:Tr.IntsAt w na' nn N)(aj:Tr.BlksAt w ba' bn T)(ah:TxsAt w pa' pn P)(sN:SlOk na nn nc)(sT:SlOk ba bn bc)(sP:SlOk pa pn pc) :
  ZH 9 #[.agg #[F na nn nc,F ba bn bc,F pa pn pc,E J t],.agg #[F na' nn nc',F ba' bn bc',F pa' pn pc',E J t]] w (dF true):=by
 have⟨X,hX⟩:=ZG ((w.alloc (dA #[F na nn nc,F ba bn bc,F pa pn pc,E J t] 31)).alloc (dA #[F na' nn nc',F ba' bn bc',F pa' pn pc',E J t] 31));have hb:ZD w X:=by rw[hX];exact Zf (Zh _ _) (Zh _ _)
 have ad:Hid (X.heap[w.heap.size]? = dG (dA [F na nn nc,F ba bn bc,F pa pn pc,E J t].toArray 31 (0,0))):=by rw[hX];exact ((Zh _ _).block _ (by simp)).trans (aG _ _)
 have ae:Hid (X.heap[w.heap.size+1]? = dG (dA [F na' nn nc',F ba' bn bc',F pa' pn pc',E J t].toArray 31 (0,0))):=by
  rw[hX];have:=aG (w.alloc (dA #[F na nn nc,F ba bn bc,F pa pn pc,E J t] 31)) (dA #[F na' nn nc',F ba' bn bc',F pa' pn pc',E J t] 31);rwa [cS] at this
 have HB:=Zb hb;have C0:=Zb (λW (hw:ZD w W)=>Zgs na ba na' ba' nn nc bn bc nc' bc' N T W (hN.later hw) (hT.later hw) (af.later hw) (aj.later hw) sN sT);have C1:=Zb (λW (hw:ZD w W)=>Zak 35 Cm pa pa' pn pc pc' P W sP.len (hP.later hw) (ah.later hw));have⟨bi,bj,bo,bq,xl⟩:=cl4 ad;have⟨ax,ay,az,bd,vl⟩:=cl4 ae;have D0:=Zb (C0 X hb);clear hN hT hP af aj ah sN sT sP hb;go_enter func9,ntmps9
 go_upto_region 1 with fail
 rw[<-hX];clear hX;go_wp2_with fail;refine D0.mono ?_;rintro e w1 ⟨rfl,hb⟩;have HB:=onb HB hb;have ad:=mvd hb ad;have ae:=mvd hb ae;have⟨be,bf,bg,bh,xl⟩:=cl4 ad;have⟨ar,au,av,aw,vl⟩:=cl4 ae;have D1:=Zb (C1 w1 HB);go_wp2_with fail;refine D1.mono ?_;rintro e w2 ⟨rfl,hb⟩;have HB:=onb HB hb;go_wp2;go_ret;exact⟨rfl,Za HB⟩
def kn1:Int×Zk×Dsk:=nmR [] [] [] [] 0 2 0 []
def kn2:Int×Zk×Dsk:=nmR kn1.2.2.k kn1.2.2.n kn1.2.2.t kn1.2.2.p kn1.2.2.tip 3 0 []
def knC:List Zi:=(Yq kn2.2.2.k kn2.2.2.n kn2.2.2.t noB).2 kn2.2.2.tip
theorem kn1_x:kn1.1=0:=by kernel_rfl
theorem kn1_h:kn1.2.1.2.1=1:=by kernel_rfl
theorem kn1_p:kn1.2.2.p=[]:=by kernel_rfl
theorem kn2_x:kn2.1=0:=by kernel_rfl
theorem kn2_q:kn2.2.1.1≠0:=by
 have h:kn2.2.1.1=2:=by kernel_rfl
 rw[h];decide
theorem kn2_h:kn2.2.1.2.1=2:=by kernel_rfl
theorem kn2_p:kn2.2.2.p=[]:=by kernel_rfl
theorem kn2_o:opE kn2.2.2.k kn2.2.2.n kn2.2.2.t kn2.2.2.p kn2.2.2.tip=0:=by kernel_rfl
theorem Zqf:knC.length=2:=by kernel_rfl
theorem Zsr:Zz knC=0:=by kernel_rfl
theorem Zqe:Zm (knC.filter (ofK []))=128:=by kernel_rfl
set_option maxRecDepth 10000 in
theorem Zmg(w:World)(hE:Env w):ZH 7 #[] w (dF true):=by
 have⟨⟨x1,⟨q1,h1,r1,o1,L1⟩,D⟩,bd⟩:=ZF (kn1);have⟨⟨x2,⟨q2,h2,r2,o2,L2⟩,ab⟩,ag⟩:=ZF (kn2);have⟨C,hC⟩:=ZF (knC);obtain rfl:0=x1:=by rw[<-kn1_x,bd]
 obtain rfl:1=h1:=by rw[<-kn1_h,bd]
 have dy:D.p=[]:=by have:=kn1_p;rw[bd] at this;exact this
 obtain rfl:0=x2:=by rw[<-kn2_x,ag]
 obtain rfl:2=h2:=by rw[<-kn2_h,ag]
 have ea:ab.p=[]:=by have:=kn2_p;rw[ag] at this;exact this
 have eh:q2≠0:=by have:=kn2_q;rw[ag] at this;exact this
 have dz:opE ab.k ab.n ab.t ab.p ab.tip=0:=by have:=kn2_o;rw[ag] at this;exact this
 have eg:nmR D.k D.n D.t D.p D.tip 3 0 []=(0,(q2,2,r2,o2,L2),ab):=by
  have:=ag;unfold kn2 at this;rw[bd] at this;exact this
 have du:(Yq ab.k ab.n ab.t noB).2 ab.tip=C:=by
  have:=hC;unfold knC at this;rw[ag] at this;exact this
 have dw:C.length=2:=hC ▸ Zqf;have dv:Zz C=0:=hC ▸ Zsr;have dx:Zm (C.filter (ofK []))=128:=hC ▸ Zqe;have⟨C1,HE,dp,bh,bx,fc,dn,fa⟩:=kh8 (Ex aD 0 0 [] aD aD aD 0 0 0 0 0 0 [] [] [] 0 w hE (Bk.TextsAt.nil _ _) ⟨rfl,λh=>absurd h (by decide)⟩ (RowsAt.nil _ _) (RowsAt.nil _ _) Z5 Z5 Z5 (by decide) (λt h=>by cases h) 2 0 aD 0 0 [] ⟨rfl,λh=>absurd h (by decide)⟩ Z5 (by decide) 0 (q1,1,r1,o1,L1) D bd) hE dy ea dz eg du dw;have⟨ez,fb⟩:=kh2 dv dx;have gd:(q2 != 0)=true:=by simp[eh]
 clear hE bd ag hC dy ea eh dz eg du dw dv dx;go_enter func7,ntmps7;go_wp2_with fail;refine C1.mono ?_;rintro e w1 ⟨k1,cp,cn,n1,ct,cq,t1,dg,df,p1,bq,cw,a1,l1,c1,rfl,eb,fs,ek,el,en,ft,ce⟩;dsimp only[Rk];have⟨X,hX⟩:=ZG (Wd w1 [dA #[F k1 cp cn] 24,dA #[F n1 ct cq,F t1 dg df,F p1 bq cw,E J D.tip] 31,dA #[E J q1,E J 1,E J r1,E J o1,F a1 l1 c1] 33]);have ee:X=((w1.alloc (dA #[F k1 cp cn] 24)).alloc (dA #[F n1 ct cq,F t1 dg df,F p1 bq cw,E J D.tip] 31)).alloc (dA #[E J q1,E J 1,E J r1,E J o1,F a1 l1 c1] 33):=hX;have cj:ZD w1 X:=by rw[hX];exact Yl _ _
 have ef:X.heap.size=w1.heap.size+3:=by rw[hX];exact Xm _ _
 have x0:=kl0 hX _ _ rfl;have x1:=kl hX 1 _ _ rfl;have x2:=kl hX 2 _ _ rfl;have D1:=(eb X (Gr.of cj)).1;have fo:bq=0:=by have:=D1.p.1;rw[Za dp] at this;exact this.symm
 have cl:=Zf ce cj;have⟨C2,dm,fe,ff,fg,fh,fd⟩:=kh7 (Ex k1 cp cn D.k n1 t1 p1 ct cq dg df bq cw D.n D.t D.p D.tip X (HE.later cl) D1.k D1.n D1.b D1.p ek el en (by omega) (λt h=>by rw[Za dp] at h;cases h) 3 0 aD 0 0 [] ⟨rfl,λh=>absurd h (by decide)⟩ Z5 (by decide) 0 (q2,2,r2,o2,L2) ab fc) cl x0 x1 x2 ef ce.size;have t0:=Zd x0 0 _ rfl;obtain⟨db,dc,dd,de,-⟩:=kc4 x1;have dh:=aA x0;have di:=aA x1;clear hX eb fs ek el en ft D1 fo cl cj ef x0 x1 x2 C1 ce
 go_upto_region 2 with fail
 rw[<-ee];clear ee;go_wp2_with fail;refine C2.mono ?_;rintro e w2 ⟨k2,af,ae,n2,an,am,t2,aw,av,p2,ah,aq,a2,l2,c2,rfl,ec,fu,bs,bu,bv,fv,az⟩;dsimp only[Rk];have y0:=ZE az fe;have y1:=ZE az ff;have y2:=ZE az fg;clear t0 db dc dd de dh di C2;have t0:=Zd y0 0 _ rfl;obtain⟨db,dc,dd,de,-⟩:=kc4 y1;have fw:=Zg y0 0;have fx:=Zg y1 0;have fy:=Zg y1 1;have fz:=Zg y1 2;have ga:=Zg y1 3;have dh:=aA y0;have di:=aA y1;have⟨U,hU⟩:=ZG (((((w2.setCell ⟨w1.heap.size,0,aD⟩ (F k2 af ae)).setCell ⟨w1.heap.size+1,0,aD⟩ (F n2 an am)).setCell ⟨w1.heap.size+1,1,aD⟩ (F t2 aw av)).setCell ⟨w1.heap.size+1,2,aD⟩ (F p2 ah aq)).setCell ⟨w1.heap.size+1,3,aD⟩ (E J ab.tip))
 have gU:Gr w2 U (λq=>q=w1.heap.size\/q=w1.heap.size+1):=by
  rw[hU];exact ((Gr.refl w2 (λq=>q=w1.heap.size\/q=w1.heap.size+1)).one w1.heap.size 0 (.inl (.inl rfl)) _).four (w1.heap.size+1) (.inl (.inr rfl)) _ _ _ _
 have ed:U.heap.size=w2.heap.size:=by rw[hU];simp[World.setCell]
 have u1:U.heap[w1.heap.size+1]? = dG (dA [F n2 an am,F t2 aw av,F p2 ah aq,E J ab.tip].toArray 31 (0,0)):=by
  rw[hU];have g:Gr w2 (w2.setCell ⟨w1.heap.size,0,aD⟩ (F k2 af ae)) (λq=>q=w1.heap.size):=(Gr.refl w2 (λq=>q=w1.heap.size)).one w1.heap.size 0 (.inl rfl) _;exact Tr.set_cells (Tr.set_cells (Tr.set_cells (Tr.set_cells (g.heap y1 (λe=>by have e:w1.heap.size+1=w1.heap.size:=e;omega)) 0 _) 1 _) 2 _) 3 _
 have u0:U.heap[w1.heap.size]? = dG (dA [F k2 af ae].toArray 24 (0,0)):=by
  rw[hU];have g:Gr (w2.setCell ⟨w1.heap.size,0,aD⟩ (F k2 af ae)) (((((w2.setCell ⟨w1.heap.size,0,aD⟩ (F k2 af ae)).setCell ⟨w1.heap.size+1,0,aD⟩ (F n2 an am)).setCell ⟨w1.heap.size+1,1,aD⟩ (F t2 aw av)).setCell ⟨w1.heap.size+1,2,aD⟩ (F p2 ah aq)).setCell ⟨w1.heap.size+1,3,aD⟩ (E J ab.tip)) (λq=>q=w1.heap.size+1):=(Gr.refl (w2.setCell ⟨w1.heap.size,0,aD⟩ (F k2 af ae)) (λq=>q=w1.heap.size+1)).four (w1.heap.size+1) (.inl rfl) _ _ _ _;exact g.heap (Tr.set_cells y0 0 _) (λe=>by have e:w1.heap.size=w1.heap.size+1:=e;omega)
 have u2:=gU.heap y2 (λe=>by rcases e with e|e <;> omega);have⟨V,hV⟩:=ZG (U.alloc (dA #[E J q2,E J 2,E J r2,E J o2,F a2 l2 c2] 33));have bf:ZD U V:=by rw[hV];exact Zh _ _
 have v3:V.heap[w2.heap.size]? = dG (dA [E J q2,E J 2,E J r2,E J o2,F a2 l2 c2].toArray 33 (0,0)):=by rw[hV,<-ed];exact Zw _ _ _ _ _ _ _
 have v0:=ZE bf u0;have v1:=ZE bf u1;have v2:=ZE bf u2;have gV:Gr w2 V (λq=>q=w1.heap.size\/q=w1.heap.size+1):=gU.trans (Gr.of bf);have fq:=Za fh;have DD:=(ec V (gV.mono (λq _ e=>by rcases e with e|e <;> (show q<X.heap.size;omega)))).1;have fp:ah=0:=by have:=DD.p.1;rw[Za bh] at this;exact this.symm
 have bV:ZD w V:=gV.below (Zf dm az) (Zf dm az).size (λq e=>by have:=Za fd;rcases e with e|e <;> omega);have bi:=HE.later bV;have C3:=Zb (D8 k2 af ae ab.k n2 t2 p2 an am aw av ah aq ab.n ab.t ab.p ab.tip 0 V bi DD.k DD.n DD.b DD.p bs bu bv (by omega) (λt h=>by rw[Za bh] at h;cases h) bx C ((if_pos rfl).trans dn));have C4:=Zb (λW (hw:ZD V W)=>Ey k2 af ae ab.k n2 t2 p2 an am aw av ah aq ab.n ab.t ab.p ab.tip 0 W (bi.later hw) (DD.k.later hw) (DD.n.later hw) (DD.b.later hw) (DD.p.later hw) bs bu bv (by omega) (λt h=>by rw[Za bh] at h;cases h) bx aD 0 0 [] ⟨rfl,λh=>absurd h (by decide)⟩ C ((if_pos rfl).trans dn) 0 128 ((if_pos rfl).trans ez) ((if_pos rfl).trans fb));have C5:=Zb (λW (hw:ZD V W)=>D9 k2 af ae ab.k n2 t2 p2 an am aw av ah aq ab.n ab.t ab.p ab.tip 0 W (bi.later hw) (DD.k.later hw) (DD.n.later hw) (DD.b.later hw) (DD.p.later hw) bs bu bv (by omega) (λt h=>by rw[Za bh] at h;cases h) bx)
 have KV:Hid (∀ W,ZD V W->(W.cell? ⟨w1.heap.size,0,aD⟩=dG (F k2 af ae)/\W.cell? ⟨w1.heap.size+1,0,aD⟩=dG (F n2 an am)/\W.cell? ⟨w1.heap.size+1,1,aD⟩=dG (F t2 aw av)/\W.cell? ⟨w1.heap.size+1,2,aD⟩=dG (F p2 ah aq)/\W.cell? ⟨w1.heap.size+1,3,aD⟩=dG (E J ab.tip)/\W.cell? ⟨w1.heap.size+2,1,aD⟩=dG (E J 1)/\W.cell? ⟨w2.heap.size,0,aD⟩=dG (E J q2)/\W.cell? ⟨w2.heap.size,1,aD⟩=dG (E J 2))/\w1.heap.size<W.heap.size/\w1.heap.size+1<W.heap.size/\w1.heap.size+2<W.heap.size/\w2.heap.size<W.heap.size):=λW hw=>
  ⟨⟨Ze hw (Zd v0 0 _ rfl),Ze hw (Zd v1 0 _ rfl),Ze hw (Zd v1 1 _ rfl),Ze hw (Zd v1 2 _ rfl),Ze hw (Zd v1 3 _ rfl),Ze hw (Zd v2 1 _ rfl),Ze hw (Zd v3 0 _ rfl),Ze hw (Zd v3 1 _ rfl)⟩,aF (aA v0) hw.size,aF (aA v1) hw.size,aF (aA v2) hw.size,aF (aA v3) hw.size⟩
 have ey:=Zb bV;clear ec fu bs bu bv fv az y0 y1 y2 gU u0 u1 u2 bf v0 v1 v2 v3 gV fq DD fp bV bi ed
 go_upto_region 3 with fail
 rw[<-hU,<-hV];clear hU hV t0 db dc dd de fw fx fy fz ga dh di;have⟨⟨m0,m1,m2,m3,m4,m5,m6,m7⟩,m8,m9,m10,m11⟩:=KV V (Below.refl _ _);go_wp2_with fail;refine C3.mono ?_;rintro e w3 ⟨ca,gf,cc,rfl,fl,-,cf⟩;have fm:gf=2:=fl.1.symm.trans fa;subst fm;have⟨eu,D4⟩:=kh2 cf (C4 w3 cf);have⟨⟨m0,m1,m2,m3,m4,m5,m6,m7⟩,m8,m9,m10,m11⟩:=KV w3 cf;go_wp2_with fail;refine D4.mono ?_;rintro e w4 ⟨rfl,fj⟩;have cg:=Zf eu fj;have⟨ev,D5⟩:=kh2 cg (C5 w4 cg);have⟨⟨m0,m1,m2,m3,m4,m5,m6,m7⟩,m8,m9,m10,m11⟩:=KV w4 cg;go_wp2_with fail;refine D5.mono ?_;rintro e w5 ⟨rfl,fk⟩;have ew:=Zb (Zf ey (Zf ev fk));go_wp2;go_ret;exact⟨rfl,Za ew⟩
set_option maxRecDepth 10000 in
theorem Am(ka kn kc K na ba pa nn nc bn bc pn pc N T P)(tip:Int)(p hh k o:Int)(a n c L)(w:World)(hE:EnvF w)(hK:Bk.TextsAt w ka kn K)(sK:Bk.SlOk ka kn kc)(hN:Tr.IntsAt w na nn N)(hT:Tr.BlksAt w ba bn T)(hP:TxsAt w pa pn P)(sN:SlOk na nn nc)(sT:SlOk ba bn bc)(sP:SlOk pa pn pc)(hn:nn<=17592186044416)(hm:bn<=2513169434916)(hp:pn<=2513169434916)(kg:∀ b∈T,Tr.BlkSmall b)(hq:∀ t∈P,Tr.TxSmall t)(hL:TxsAt w a n L)(sL:SlOk a n c) :
  ZH 3 #[.agg #[F ka kn kc],.agg #[F na nn nc,F ba bn bc,F pa pn pc,E J tip],.agg #[E J p,E J hh,E J k,E J o,F a n c]] w (dF true):=by
 have⟨X,hX⟩:=ZG (Wd w [dA #[F ka kn kc] 24,dA #[F na nn nc,F ba bn bc,F pa pn pc,E J tip] 31,dA #[E J p,E J hh,E J k,E J o,F a n c] 33]);have ke:X=(((w.alloc (dA #[F ka kn kc] 24)).alloc (dA #[F na nn nc,F ba bn bc,F pa pn pc,E J tip] 31)).alloc (dA #[E J p,E J hh,E J k,E J o,F a n c] 33)):=hX;have ec:ZD w X:=by rw[hX];exact Yl _ _
 have fs:Hid (X.heap[w.heap.size]? = dG (dA [F ka kn kc].toArray 24 (0,0))):=by show X.heap[w.heap.size]? = _;rw[hX];exact Zn _ w 0 _ rfl
 have gf:Hid (X.heap[w.heap.size+1]? = dG (dA [F na nn nc,F ba bn bc,F pa pn pc,E J tip].toArray 31 (0,0))):=by show X.heap[w.heap.size+1]? = _;rw[hX];exact Zn _ w 1 _ rfl
 have fj:Hid (X.heap[w.heap.size+2]? = dG (dA [E J p,E J hh,E J k,E J o,F a n c].toArray 33 (0,0))):=by show X.heap[w.heap.size+2]? = _;rw[hX];exact Zn _ w 2 _ rfl
 have⟨⟨x,s,D⟩,hx⟩:=ZF (ntR K N T P tip (p,hh,k,o,L));have⟨y,hy⟩:=ZF (opE K N T P tip);have HD:Hid (∀ V,ZD w V->EnvF V/\Bk.TextsAt V ka kn K/\Tr.IntsAt V na nn N/\Tr.BlksAt V ba bn T/\TxsAt V pa pn P/\TxsAt V a n L):=λV hv=>⟨hE.later hv,hK.later hv,hN.later hv,hT.later hv,hP.later hv,hL.later hv⟩;have HS:=Zb (⟨sK,sN,sT,sP,sL⟩:Bk.SlOk ka kn kc/\SlOk na nn nc/\SlOk ba bn bc/\SlOk pa pn pc/\SlOk a n c);have⟨C1,HX,HY,HQ⟩:=kh4 (Tr.ownNode_is na ba pa nn nc bn bc pn pc N T P tip X (hN.later ec) (hT.later ec) (hP.later ec) sN hn hm hp kg hq) hx hy hq;have C3:=Zb (λV (hv:ZD w V)=>Nx ka na ba pa kn kc nn nc bn bc pn pc K N T P tip y V (hE.later hv) (hK.later hv) sK (hN.later hv) (hT.later hv) (hP.later hv) sN sT sP hy);have C4:=Zb (λV (hv:ZD w V)=>Zmg V (hE.later hv).envp.env);have C5:=Zb (λV (hv:ZD w V)=>D9 ka kn kc K na ba pa nn nc bn bc pn pc N T P tip y V (hE.later hv).envp.env (hK.later hv) (hN.later hv) (hT.later hv) (hP.later hv) sN sT sP hp hq hy);have g0:(y != y)=false:=by simp
 have jd:Hid (ZD w X):=ec;have⟨au,aw⟩:=cl1 fs;have⟨ay,az,bd,be,ax⟩:=cl4 gf;have⟨am,an,ap,aq,ar,av⟩:=cl5 fj;go_enter func3,ntmps3;go_wp2_with fail;rw[<-ke];(try go_wp2_with fail);refine C1.mono ?_;rintro e w1 ⟨n1,ct,b1,cb,p1,cx,rfl,r1,r2,r3,s1,s2,s3,ik⟩;have⟨Y,hY⟩:=ZG (Wd w1 [dA #[F n1 nn ct,F b1 bn cb,F p1 pn cx,E J tip] 31]);have ii:Y=(w1.alloc (dA #[F n1 nn ct,F b1 bn cb,F p1 pn cx,E J tip] 31)):=hY;have ak:ZD w1 Y:=by rw[hY];exact Yl _ _
 have gn:Hid (Y.heap[w1.heap.size]? = dG (dA [F n1 nn ct,F b1 bn cb,F p1 pn cx,E J tip].toArray 31 (0,0))):=by show Y.heap[w1.heap.size]? = _;rw[hY];exact Zn _ w1 0 _ rfl
 have dl:=Zf ik ak;have ft:=mvd dl fs;have gg:=mvd dl gf;have fk:=mvd dl fj;have fd:=onb jd dl;have HO:Hid (∀ V,ZD Y V->Tr.IntsAt V n1 nn N/\Tr.BlksAt V b1 bn T/\TxsAt V p1 pn P):=λV hv=>⟨r1.later (Zf ak hv),r2.later (Zf ak hv),r3.later (Zf ak hv)⟩;have kb:=Zb (⟨s1,s2,s3⟩:SlOk n1 nn ct/\SlOk b1 bn cb/\SlOk p1 pn cx);have ir:Hid (ZD Y Y):=Below.refl _ _;have⟨d1,d2,_,_,_,d6⟩:=HD Y fd;have C2:=Zb (Zmb ka kn kc K n1 b1 p1 nn ct bn cb pn cx N T P tip Y d1.envp.env d2 (r1.later ak) (r2.later ak) (r3.later ak) s1 s2 s3 hp HQ p hh k o a n c L d6 HS.2.2.2.2 x s D HX);clear d1 d2 d6 r1 r2 r3 s1 s2 s3 ik ak dl hY
 go_upto_region 2 with fail
 rw[<-ii];clear ii;have⟨au,aw⟩:=cl1 ft;have⟨ay,az,bd,be,ax⟩:=cl4 gg;have⟨am,an,ap,aq,ar,av⟩:=cl5 fk;have⟨br,bs,bu,bv,bq⟩:=cl4 gn;go_wp2_with fail;refine C2.mono ?_;rintro e w2 ⟨k5,cf,dn,n5,bw,cw,b5,bj,cd,p5,bz,cz,rfl,hF,s1,s2,s3,s4,il⟩;have⟨Z,hZ⟩:=ZG (Wd w2 [dA #[F k5 cf dn] 24,dA #[F n5 bw cw,F b5 bj cd,F p5 bz cz,E J D.tip] 31]);have ij:Z=((w2.alloc (dA #[F k5 cf dn] 24)).alloc (dA #[F n5 bw cw,F b5 bj cd,F p5 bz cz,E J D.tip] 31)):=hZ;have eq:ZD w2 Z:=by rw[hZ];exact Yl _ _
 have gw:Hid (Z.heap[w2.heap.size]? = dG (dA [F k5 cf dn].toArray 24 (0,0))):=by show Z.heap[w2.heap.size]? = _;rw[hZ];exact Zn _ w2 0 _ rfl
 have fz:Hid (Z.heap[w2.heap.size+1]? = dG (dA [F n5 bw cw,F b5 bj cd,F p5 bz cz,E J D.tip].toArray 31 (0,0))):=by show Z.heap[w2.heap.size+1]? = _;rw[hZ];exact Zn _ w2 1 _ rfl
 have bo:=Zf il eq;have ic:=Zb (hF Z (Gr.of eq));have ie:=Zb (⟨s1,s2,s3,s4⟩:SlOk k5 cf dn/\SlOk n5 bw cw/\SlOk b5 bj cd/\SlOk p5 bz cz);have fu:=mvd bo ft;have gh:=mvd bo gg;have fl:=mvd bo fk;have gp:=mvd bo gn;have fe:=onb fd bo;have it:=onb ir bo;have ix:Hid (ZD Z Z):=Below.refl _ _;clear hZ eq il hF s1 s2 s3 s4 bo;have E3:=Zb (C3 Z fe)
 go_upto_region 3 with fail
 rw[<-ij];clear ij;have⟨au,aw⟩:=cl1 fu;have⟨ay,az,bd,be,ax⟩:=cl4 gh;have⟨am,an,ap,aq,ar,av⟩:=cl5 fl;have⟨br,bs,bu,bv,bq⟩:=cl4 gp;have⟨cq,cj⟩:=cl1 gw;have⟨cl,cm,cn,cp,cg⟩:=cl4 fz;go_wp2_with fail;refine E3.mono ?_;rintro e w3 ⟨rfl,af⟩;have jt:=mvd af fu;have jv:=mvd af gh;have js:=mvd af fl;have jw:=mvd af gp;have jx:=mvd af gw;have ju:=mvd af fz;have ff:=onb fe af;have iu:=onb it af;have iy:=onb ix af;have E4:=Zb (C4 w3 ff);go_wp2_with fail;refine E4.mono ?_;rintro e w4 ⟨rfl,ag⟩;have fv:=mvd ag jt;have gi:=mvd ag jv;have fm:=mvd ag js;have gq:=mvd ag jw;have gx:=mvd ag jx;have ga:=mvd ag ju;have fg:=onb ff ag;have iv:=onb iu ag;have iz:=onb iy ag;have E5:=Zb (C5 w4 fg);have⟨au,aw⟩:=cl1 fv;have⟨ay,az,bd,be,ax⟩:=cl4 gi;have⟨am,an,ap,aq,ar,av⟩:=cl5 fm;have⟨br,bs,bu,bv,bq⟩:=cl4 gq;have⟨cq,cj⟩:=cl1 gx;have⟨cl,cm,cn,cp,cg⟩:=cl4 ga;go_wp2_with fail;refine E5.mono ?_;rintro e w5 ⟨rfl,ah⟩;have fw:=mvd ah fv;have gj:=mvd ah gi;have fo:=mvd ah fm;have gs:=mvd ah gq;have gy:=mvd ah gx;have gb:=mvd ah ga;have fh:=onb fg ah;have fa:=onb iv ah;have ja:=onb iz ah;have⟨d1,d2,d3,d4,d5,d6⟩:=HD w5 fh;have⟨o1,o2,o3⟩:=HO w5 fa;have⟨z1,z2,z3⟩:=Za kb;have E6:=Zb (Lm n1 b1 na ba p1 pa nn ct bn cb nc bc pn cx pc N T P tip w5 o1 o2 o3 d3 d4 d5 z1 z2 z3);have⟨au,aw⟩:=cl1 fw;have⟨ay,az,bd,be,ax⟩:=cl4 gj;have⟨am,an,ap,aq,ar,av⟩:=cl5 fo;have⟨br,bs,bu,bv,bq⟩:=cl4 gs;have⟨cq,cj⟩:=cl1 gy;have⟨cl,cm,cn,cp,cg⟩:=cl4 gb;go_wp2_with fail;refine E6.mono ?_
 rintro e w6 ⟨rfl,aj⟩;have dq:=mvd aj fw;have ds:=mvd aj gj;have dp:=mvd aj fo;have dt:=mvd aj gs;have du:=mvd aj gy;have dr:=mvd aj gb;have ei:=onb fh aj;have fb:=onb fa aj;have df:=onb ja aj;by_cases h0:y=0
 ·subst h0;have⟨d1,d2,d3,d4,d5,d6⟩:=HD w6 ei;have⟨z1,z2,z3,z4,z5⟩:=Za HS;have C7:=Zb (Zgq ka na ba pa a kn kc nn nc bn bc pn pc n c K N T P tip p hh k o L x s D w6 d1 d2 z1 d3 d4 d5 z2 z3 z4 d6 z5 HY HX);have⟨au,aw⟩:=cl1 dq;have⟨ay,az,bd,be,ax⟩:=cl4 ds;have⟨am,an,ap,aq,ar,av⟩:=cl5 dp;have⟨br,bs,bu,bv,bq⟩:=cl4 dt;have⟨cq,cj⟩:=cl1 du;have⟨cl,cm,cn,cp,cg⟩:=cl4 dr;go_wp2_with fail;refine C7.mono ?_;rintro e w7 ⟨k6,kk,kj,n6,ee,ed,b6,dx,dw,p6,eh,eg,rfl,hF,ab⟩;have⟨U,hU⟩:=ZG (Wd w7 [dA #[F n6 ee ed,F b6 dx dw,F p6 eh eg,E J D.tip] 31]);have ih:U=(w7.alloc (dA #[F n6 ee ed,F b6 dx dw,F p6 eh eg,E J D.tip] 31)):=hU;have ce:ZD w7 U:=by rw[hU];exact Yl _ _
  have ia:Hid (U.heap[w7.heap.size]? = dG (dA [F n6 ee ed,F b6 dx dw,F p6 eh eg,E J D.tip].toArray 31 (0,0))):=by show U.heap[w7.heap.size]? = _;rw[hU];exact Zn _ w7 0 _ rfl
  have ae:=Zf ab ce;have fq:=mvd ae dq;have gd:=mvd ae ds;have fi:=mvd ae dp;have gm:=mvd ae dt;have gv:=mvd ae du;have fy:=mvd ae dr;have jc:=onb ei ae;have iq:=onb fb ae;have fc:=onb df ae;have nd:=Za ic;have nh:=Za fc;have⟨z1,z2,z3,z4⟩:=Za ie;obtain rfl:bw=ee:=nd.n.1.symm.trans hF.n.1;obtain rfl:bj=dx:=nd.b.1.symm.trans hF.b.1;obtain rfl:bz=eh:=nd.p.1.symm.trans hF.p.1;have C8:=Zb (Bk.eqStr_is k5 k6 cf kk dn kj D.k D.k true U (aO z1.1 z1.2.1) (nd.k.later nh) (hF.k.later ce) (by simp));have C9:=Zb (λW (hv:ZD U W)=>Lm n5 b5 n6 b6 p5 p6 bw cw bj cd ed dw bz cz eg D.n D.t D.p D.tip W (nd.n.later (Zf nh hv)) (nd.b.later (Zf nh hv)) (nd.p.later (Zf nh hv)) (hF.n.later (Zf ce hv)) (hF.b.later (Zf ce hv)) (hF.p.later (Zf ce hv)) z2 z3 z4);have nk:(x == x)=true:=by simp
  have nj:(s == s)=true:=by simp
  clear nd nh z1 z2 z3 z4 hF ab ae ce hU;have ip:Hid (ZD U U):=Below.refl _ _
  go_upto_region 9 with fail
  rw[<-ih];clear ih;have⟨au,aw⟩:=cl1 fq;have⟨ay,az,bd,be,ax⟩:=cl4 gd;have⟨am,an,ap,aq,ar,av⟩:=cl5 fi;have⟨br,bs,bu,bv,bq⟩:=cl4 gm;have⟨cq,cj⟩:=cl1 gv;have⟨cl,cm,cn,cp,cg⟩:=cl4 fy;have⟨ko,kq,kr,ks,km⟩:=cl4 ia;go_wp2_with fail;refine C8.mono ?_;rintro e w8 ⟨rfl,ac⟩;have fx:=mvd ac fq;have gl:=mvd ac gd;have fp:=mvd ac fi;have gu:=mvd ac gm;have gz:=mvd ac gv;have gc:=mvd ac fy;have ib:=mvd ac ia;have jf:=onb jc ac;have iw:=onb iq ac;have jb:=onb fc ac;have ez:=onb ip ac;have E9:=Zb (C9 w8 ez);have⟨au,aw⟩:=cl1 fx;have⟨ay,az,bd,be,ax⟩:=cl4 gl;have⟨am,an,ap,aq,ar,av⟩:=cl5 fp;have⟨br,bs,bu,bv,bq⟩:=cl4 gu;have⟨cq,cj⟩:=cl1 gz;have⟨cl,cm,cn,cp,cg⟩:=cl4 gc;have⟨ko,kq,kr,ks,km⟩:=cl4 ib;go_wp2_with fail;refine E9.mono ?_;rintro e w9 ⟨rfl,ad⟩;have lj:=mvd ad fx;have lr:=mvd ad gl;have lh:=mvd ad fp;have lu:=mvd ad gu;have lw:=mvd ad gz;have lp:=mvd ad gc;have lx:=mvd ad ib;have jg:=onb jf ad;have lc:=onb iw ad;have lf:=onb jb ad;have kz:=onb ez ad;go_wp2;go_ret;exact⟨rfl,Za jg⟩
 ·have nr:(y != 0)=true:=by simp[h0]
  have nf:(y == y)=true:=by simp
  have e3:=HX.symm.trans (show ntR K N T P tip (p,hh,k,o,L)=(y,0,Dsk.none) by
   unfold ntR;rw[if_pos (by rw[Za HY];exact h0),Za HY])
  simp only[Prod.mk.injEq] at e3;obtain⟨rfl,rfl,rfl⟩:=e3;have nd:=Za ic;have⟨z1,z2,z3,z4⟩:=Za ie;obtain rfl:0=cf:=nd.k.1;obtain rfl:0=bw:=nd.n.1;obtain rfl:0=bj:=nd.b.1;obtain rfl:0=bz:=nd.p.1;have C7:=Zb (Lm n5 b5 aD aD p5 aD 0 cw 0 cd 0 0 0 cz 0 [] [] [] 0 w6 (nd.n.later df) (nd.b.later df) (nd.p.later df) ⟨rfl,λh=>absurd h (by omega)⟩ ⟨rfl,λh=>absurd h (by omega)⟩ (RowsAt.nil _ _) z2 z3 z4);have⟨au,aw⟩:=cl1 dq;have⟨ay,az,bd,be,ax⟩:=cl4 ds;have⟨am,an,ap,aq,ar,av⟩:=cl5 dp;have⟨br,bs,bu,bv,bq⟩:=cl4 dt;have⟨cq,cj⟩:=cl1 du;have⟨cl,cm,cn,cp,cg⟩:=cl4 dr;go_wp2_with fail;refine C7.mono ?_;rintro e w7 ⟨rfl,ab⟩;have li:=mvd ab dq;have lq:=mvd ab ds;have lg:=mvd ab dp;have ls:=mvd ab dt;have lv:=mvd ab du;have lm:=mvd ab dr;have je:=onb ei ab;have la:=onb fb ab;have ld:=onb df ab;go_wp2;go_ret;exact⟨rfl,Za je⟩
open Go.ChangeShapes Go.WideShapes Go.ChangeAt Go.RowKit
theorem own:ownKnob Tryz.prog.godebug=aD:=by kernel_rfl
theorem Rv:laidOutB aB=true:=by kernel_rfl
theorem Tryz.cellsOp:Tryz.prog.cellsOf 139=2:=by kernel_rfl
theorem Tryz.cells3:Tryz.prog.cellsOf 3=1:=by kernel_rfl
theorem Pf{H:Type}{enc:aY×Value->H}{W}{sp:Nat->Bool}{held:Bool}{fuel:Nat}{a len cap}{x:cQ H×List cJ}
  (h:bE enc aB W 0 sp held fuel 88 [F a len cap]=dG x):(∃ l,OpsAt W a len l)/\(a=aD->len=0/\cap=0):=by
 rcases Deep.open_slice_pairs underlying88 underlying139 Tryz.cellsOp rfl rfl Tryz.cells3 Tryz.cells3 h with ⟨aa,_⟩|⟨b,l,c,m,n,V0,V1,D0,D1,P0,P1,aa,_,hl,_,hm,_,af⟩
 ·simp at aa;obtain⟨rfl,rfl,rfl⟩:=aa;exact⟨⟨[],rfl,λh=>absurd h (by omega)⟩,λ_=>⟨rfl,rfl⟩⟩
 ·simp at aa;obtain⟨rfl,rfl,rfl⟩:=aa;refine⟨?_,λh=>by cases h⟩;have ay:len<=m:=by rw[hm];split <;> omega
  have each:∀ i,i<len->∃ q:Int×Int,W.cell? (b.add (i*2))=dG (.int .i64 q.1)/\W.cell? (b.add (i*2+1))=dG (.int .i64 q.2):=λi hi=>by
   have⟨h1,h2,t1,t2⟩:=af i (by omega);have⟨z1,e1,_,_⟩:=bK aN t1;have⟨z2,e2,_,_⟩:=bK aN t2;simp only[cE,and_true] at e1 e2;exact⟨(z1,z2),by rw[h1,e1],by rw[h2,e2]⟩
  have⟨f,hf⟩:=Deep.choose_lt each;refine⟨(List.range len).map f,by simp,λah=>?_⟩;have⟨bb,off,ak⟩:=b;have aj:ak=aD:=by simpa[Addr.add] using World.cell?_spot (hf 0 ah).1
  subst aj;refine⟨bb,off,rfl,λi hi=>?_⟩;have ad:∀ j,(⟨bb,off,aD⟩:Addr).add j=⟨bb,off+j,aD⟩:=λj=>by unfold Addr.add;split <;> simp_all
  have h1:=hf i hi;rw[ad,ad] at h1;rw[<-Nat.add_assoc] at h1;simpa[hi] using h1
theorem Tryz.cellsTx:Tryz.prog.cellsOf 50=3:=by kernel_rfl
theorem Tryz.cellsIn:Tryz.prog.cellsOf 90=3:=by kernel_rfl
theorem Tryz.cellsOut:Tryz.prog.cellsOf 92=2:=by kernel_rfl
theorem Tryz.cellsPoint:Tryz.prog.cellsOf 87=2:=by kernel_rfl
theorem Tryz.cellsOps:Tryz.prog.cellsOf 88=1:=by kernel_rfl
theorem Tryz.cellsIns:Tryz.prog.cellsOf 47=1:=by kernel_rfl
theorem Tryz.cellsOuts:Tryz.prog.cellsOf 48=1:=by kernel_rfl
theorem list_two{cs:List Value}(h:cs.length=2):∃ a b,cs=[a,b]:=by
 match cs,h with
 | [a,b],_=>exact⟨a,b,rfl⟩
theorem list_three{cs:List Value}(h:cs.length=3):∃ a b c,cs=[a,b,c]:=by
 match cs,h with
 | [a,b,c],_=>exact⟨a,b,c,rfl⟩
section
section
variable {H : Type} {enc : TypeId × Value -> H} {W : World} {sp : Nat -> Bool} {held : Bool} {fuel : Nat}
theorem ops_full{v}{x:cQ H×List cJ}(h:bE enc aB W 0 sp held fuel 88 [v]=dG x):∃ a n c l,v = F a n c/\OpsAt W a n l/\SlOk a n c:=by
 have h':=h
 rcases Deep.open_slice underlying88 h with ⟨aa,_⟩|⟨b,l,c,m,n,D,Pl,aa,_,hl,hm,_⟩
 ·simp at aa;subst aa;exact⟨aD,0,0,[],rfl,⟨rfl,λh=>absurd h (by omega)⟩,aE _,aI _,λ_=>⟨rfl,rfl⟩⟩
 ·simp at aa;subst aa;have⟨⟨L,hO⟩,_⟩:=Pf h';exact⟨dG b,l,c,L,rfl,hO,hl,hm,λh=>by cases h⟩
theorem Zfh{cs}{x:cQ H×List cJ}(h:bE enc aB W 0 sp held fuel 90 cs=dG x):∃ x1 x2 a n c l,cs=[.int .i64 x1,.int .i64 x2,F a n c]/\OpsAt W a n l/\SlOk a n c:=by
 have⟨y0,y1,k,_,hl,h0,h1⟩:=trod_struct2 underlying90 h;rw[Tryz.cellsIn] at hl;obtain⟨c0,c1,c2,rfl⟩:=list_three hl;simp[Tryz.cellsPoint,Tryz.cellsOps] at h0 h1;have⟨z0,z1,k2,_,_,g0,g1⟩:=trod_struct2 underlying87 h0;simp[Tryz.cells3] at g0 g1;have⟨x1,e1,_,_⟩:=bK aN g0;have⟨x2,e2,_,_⟩:=bK aN g1;obtain⟨a,n,c,l,rfl,hO,hS⟩:=ops_full h1;simp only[cE,and_true] at e1 e2;subst e1 e2;exact⟨x1,x2,a,n,c,l,rfl,hO,hS⟩
theorem Ej{cs}{x:cQ H×List cJ}(h:bE enc aB W 0 sp held fuel 92 cs=dG x):∃ x1 a n c l,cs=[.int .i64 x1,F a n c]/\OpsAt W a n l/\SlOk a n c:=by
 have⟨y0,y1,k,_,hl,h0,h1⟩:=trod_struct2 underlying92 h;rw[Tryz.cellsOut] at hl;obtain⟨c0,c1,rfl⟩:=list_two hl;simp[Tryz.cells3,Tryz.cellsOps] at h0 h1;have⟨x1,e1,_,_⟩:=bK aN h0;obtain⟨a,n,c,l,rfl,hO,hS⟩:=ops_full h1;simp only[cE,and_true] at e1;subst e1;exact⟨x1,a,n,c,l,rfl,hO,hS⟩
theorem Zmi{v}{x:cQ H×List cJ}(h:bE enc aB W 0 sp held fuel 47 [v]=dG x):∃ a n c l,v = F a n c/\InsAt W a n l/\SlOk a n c:=by
 rcases Deep.open_slice underlying47 h with ⟨aa,_⟩|⟨b,l,c,m,n,D,Pl,aa,_,hl,hm,av,_,ap⟩
 ·simp at aa;subst aa;exact⟨aD,0,0,[],rfl,RowsAt.nil _ _,aE _,aI _,λ_=>⟨rfl,rfl⟩⟩
 ·simp at aa;subst aa;have bf:l<=m:=by rw[av];split <;> omega
  have each:∀ i,i<l->∃ q:InD,∃ a n c,W.cell? (b.add (i*3))=dG (.int .i64 q.1)/\W.cell? (b.add (i*3+1))=dG (.int .i64 q.2.1)/\W.cell? (b.add (i*3+2))=dG (F a n c)/\OpsAt W a n q.2.2/\SlOk a n c:=λi hi=>by
   obtain⟨be,h1,h2⟩:=ap i (by omega);rw[Tryz.cellsIn] at h1;obtain⟨_,_,ad⟩:=World.cells?_some h1;obtain⟨x1,x2,a,n,c,ay,rfl,hO,hS⟩:=Zfh h2;have e0:=ad 0 (by omega);have e1:=ad 1 (by omega);have e2:=ad 2 (by omega);rw[Deep.add_add] at e0 e1 e2;exact⟨(x1,x2,ay),a,n,c,by simpa using e0,by simpa using e1,by simpa using e2,hO,hS⟩
  obtain⟨f,hf⟩:=Deep.choose_lt each;refine⟨dG b,l,c,(List.range l).map f,rfl,⟨by simp,λaw=>?_⟩,hl,hm,λh=>by cases h⟩;obtain⟨bb,off,az⟩:=b;obtain⟨_,_,_,z0,_⟩:=hf 0 aw;have ax:az=aD:=by simpa[Addr.add] using World.cell?_spot z0
  subst ax;have al:∀ j,(⟨bb,off,aD⟩:Addr).add j=⟨bb,off+j,aD⟩:=λj=>by unfold Addr.add;split <;> simp_all
  refine⟨bb,off,rfl,by rw[al] at z0;exact aC _ _ z0,λi hi=>?_⟩;have aq:i<l:=by simpa using hi
  obtain⟨a,n,c,q0,q1,q2,hO,hS⟩:=hf i aq;rw[al] at q0 q1 q2;rw[<-Nat.add_assoc] at q1 q2;rw[List.getElem_map,List.getElem_range];exact⟨q0,q1,a,n,c,q2,hO,hS⟩
theorem Zhk{v}{x:cQ H×List cJ}(h:bE enc aB W 0 sp held fuel 48 [v]=dG x):∃ a n c l,v = F a n c/\OutsAt W a n l/\SlOk a n c:=by
 rcases Deep.open_slice underlying48 h with ⟨aa,_⟩|⟨b,l,c,m,n,D,Pl,aa,_,hl,hm,ar,_,am⟩
 ·simp at aa;subst aa;exact⟨aD,0,0,[],rfl,RowsAt.nil _ _,aE _,aI _,λ_=>⟨rfl,rfl⟩⟩
 ·simp at aa;subst aa;have bd:l<=m:=by rw[ar];split <;> omega
  have each:∀ i,i<l->∃ q:Yd,∃ a n c,W.cell? (b.add (i*2))=dG (.int .i64 q.1)/\W.cell? (b.add (i*2+1))=dG (F a n c)/\OpsAt W a n q.2/\SlOk a n c:=λi hi=>by
   obtain⟨az,h1,h2⟩:=am i (by omega);rw[Tryz.cellsOut] at h1;obtain⟨_,_,aj⟩:=World.cells?_some h1;obtain⟨x1,a,n,c,aw,rfl,hO,hS⟩:=Ej h2;have e0:=aj 0 (by omega);have e1:=aj 1 (by omega);rw[Deep.add_add] at e0 e1;exact⟨(x1,aw),a,n,c,by simpa using e0,by simpa using e1,hO,hS⟩
  obtain⟨f,hf⟩:=Deep.choose_lt each;refine⟨dG b,l,c,(List.range l).map f,rfl,⟨by simp,λau=>?_⟩,hl,hm,λh=>by cases h⟩;obtain⟨bb,off,ax⟩:=b;obtain⟨_,_,_,z0,_⟩:=hf 0 au;have av:ax=aD:=by simpa[Addr.add] using World.cell?_spot z0
  subst av;have ah:∀ j,(⟨bb,off,aD⟩:Addr).add j=⟨bb,off+j,aD⟩:=λj=>by unfold Addr.add;split <;> simp_all
  refine⟨bb,off,rfl,by rw[ah] at z0;exact aC _ _ z0,λi hi=>?_⟩;have an:i<l:=by simpa using hi
  obtain⟨a,n,c,q0,q1,hO,hS⟩:=hf i an;rw[ah] at q0 q1;rw[<-Nat.add_assoc] at q1;rw[List.getElem_map,List.getElem_range];exact⟨q0,a,n,c,q1,hO,hS⟩
theorem Zor{cs}{x:cQ H×List cJ}(h:bE enc aB W 0 sp held fuel 50 cs=dG x):∃ h ai ni ci ao no co I O,cs=[.int .i64 h,F ai ni ci,F ao no co]/\InsAt W ai ni I/\OutsAt W ao no O/\SlOk ai ni ci/\SlOk ao no co:=by
 have⟨y0,y1,y2,k,_,hl,h0,h1,h2⟩:=Deep.trod_struct3 underlying50 h;rw[Tryz.cellsTx] at hl;obtain⟨c0,c1,c2,rfl⟩:=list_three hl;simp[Tryz.cells3,Tryz.cellsIns,Tryz.cellsOuts] at h0 h1 h2;have⟨hh,e0,_,_⟩:=bK aN h0;obtain⟨ai,ni,ci,I,rfl,hI,sI⟩:=Zmi h1;obtain⟨ao,no,co,O,rfl,hO,sO⟩:=Zhk h2;simp only[cE,and_true] at e0;subst e0;exact⟨hh,ai,ni,ci,ao,no,co,I,O,rfl,hI,hO,sI,sO⟩
end
end
namespace Bk
open Go.ChangeShapes Go.WideShapes Go.ChangeAt Go.RowKit
theorem own:ownKnob Tryz.prog.godebug=aD:=by kernel_rfl
theorem Rv:laidOutB aB=true:=by kernel_rfl
theorem Tryz.cells9:Tryz.prog.cellsOf 9=1:=by kernel_rfl
theorem Tryz.cellsStrs:Tryz.prog.cellsOf 22=1:=by kernel_rfl
theorem Tryz.cellsBook:Tryz.prog.cellsOf 24=1:=by kernel_rfl
section
section
variable {H : Type} {enc : TypeId × Value -> H} {W : World} {sp : Nat -> Bool} {held : Bool} {fuel : Nat}
theorem Zgf{v}{x:cQ H×List cJ}(h:bE enc aB W 0 sp held fuel 22 [v]=dG x) :
  ∃ a n c L,v = F a n c/\TextsAt W a n L/\SlOk a n c/\(n=0\/∃ ab al,x.1 = .slice ab al/\ab.length=n):=by
 rcases Deep.open_strs underlying22 underlying9 Tryz.cells9 h with ⟨aa,_⟩|⟨b,l,c,m,Sx,aa,_,hl,hm,ah,hx,ac⟩
 ·simp at aa;subst aa;exact⟨aD,0,0,[],rfl,TextsAt.nil _ _,SlOk.nil,Or.inl rfl⟩
 ·simp at aa;subst aa;have aq:l<=m:=by rw[ah];split <;> omega
  refine⟨dG b,l,c,(List.range l).map Sx,rfl,⟨by simp,λar=>?_⟩,⟨hl,hm,λh=>by cases h⟩,Or.inr ⟨_,_,by rw[hx],by simp⟩⟩;have⟨bb,off,am⟩:=b;have z0:=(ac 0 (by omega)).1;have aj:am=aD:=by simpa[Addr.add] using World.cell?_spot z0
  subst aj;have ae:∀ j,(⟨bb,off,aD⟩:Addr).add j=⟨bb,off+j,aD⟩:=λj=>by unfold Addr.add;split <;> simp_all
  refine⟨bb,off,rfl,λi hi=>?_⟩;have ap:i<l:=by simpa using hi
  have q:=(ac i (by omega)).1;rw[ae] at q;rw[List.getElem_map,List.getElem_range];exact q
theorem book_full{cs}{x:cQ H×List cJ}(h:bE enc aB W 0 sp held fuel 24 cs=dG x):∃ a n c L,cs=[F a n c]/\TextsAt W a n L/\SlOk a n c:=by
 have⟨y0,k,_,hl,h0⟩:=trod_struct1 underlying24 h;rw[Tryz.cellsBook] at hl;obtain⟨c0,rfl⟩:=List.length_eq_one_iff.1 hl;simp[Tryz.cellsStrs] at h0;obtain⟨a,n,c,L,rfl,hT,hS,_⟩:=Zgf h0;exact⟨a,n,c,L,rfl,hT,hS⟩
end
end
end Bk
open Go.ChangeShapes Go.WideShapes Go.ChangeAt Go.RowKit
theorem Tryz.cellsBlk:Tryz.prog.cellsOf 33=5:=by kernel_rfl
theorem Tryz.cellsTxs:Tryz.prog.cellsOf 29=1:=by kernel_rfl
theorem list_five{cs:List Value}(h:cs.length=5):∃ a b c d e,cs=[a,b,c,d,e]:=by
 match cs,h with
 | [a,b,c,d,e],_=>exact⟨a,b,c,d,e,rfl⟩
section
section
variable {H : Type} {enc : TypeId × Value -> H} {W : World} {sp : Nat -> Bool} {held : Bool} {fuel : Nat}
theorem Zjm{v}{x:cQ H×List cJ}(h:bE enc aB W 0 sp held fuel 29 [v]=dG x):∃ a n c l,v = F a n c/\TxsAt W a n l/\SlOk a n c:=by
 rcases Deep.open_slice underlying29 h with ⟨aa,_⟩|⟨b,l,c,m,n,D,Pl,aa,_,hl,hm,ax,_,ar⟩
 ·simp at aa;subst aa;exact⟨aD,0,0,[],rfl,RowsAt.nil _ _,aE _,aI _,λ_=>⟨rfl,rfl⟩⟩
 ·simp at aa;subst aa;have bg:l<=m:=by rw[ax];split <;> omega
  have each:∀ i,i<l->∃ q:TxD,∃ ai ni ci ao no co,W.cell? (b.add (i*3))=dG (.int .i64 q.1)/\W.cell? (b.add (i*3+1))=dG (F ai ni ci)/\W.cell? (b.add (i*3+2))=dG (F ao no co)/\InsAt W ai ni q.2.1/\SlOk ai ni ci/\OutsAt W ao no q.2.2/\SlOk ao no co:=λi hi=>by
   obtain⟨bf,h1,h2⟩:=ar i (by omega);rw[Tryz.cellsTx] at h1;obtain⟨_,_,ae⟩:=World.cells?_some h1;obtain⟨q1,ai,ni,ci,ao,no,co,I,O,rfl,hI,hO,sI,sO⟩:=Zor h2;have e0:=ae 0 (by omega);have e1:=ae 1 (by omega);have e2:=ae 2 (by omega);rw[Deep.add_add] at e0 e1 e2;exact⟨(q1,I,O),ai,ni,ci,ao,no,co,by simpa using e0,by simpa using e1,by simpa using e2,hI,sI,hO,sO⟩
  obtain⟨f,hf⟩:=Deep.choose_lt each;refine⟨dG b,l,c,(List.range l).map f,rfl,⟨by simp,λay=>?_⟩,hl,hm,λh=>by cases h⟩;obtain⟨bb,off,bd⟩:=b;obtain⟨_,_,_,_,_,_,z0,_⟩:=hf 0 ay;have az:bd=aD:=by simpa[Addr.add] using World.cell?_spot z0
  subst az;have an:∀ j,(⟨bb,off,aD⟩:Addr).add j=⟨bb,off+j,aD⟩:=λj=>by unfold Addr.add;split <;> simp_all
  refine⟨bb,off,rfl,by rw[an] at z0;exact aC _ _ z0,λi hi=>?_⟩;have au:i<l:=by simpa using hi
  obtain⟨ai,ni,ci,ao,no,co,q0,q1,q2,hI,sI,hO,sO⟩:=hf i au;rw[an] at q0 q1 q2;rw[<-Nat.add_assoc] at q1 q2;rw[List.getElem_map,List.getElem_range];exact⟨q0,⟨ai,ni,ci,q1,hI,sI⟩,ao,no,co,q2,hO,sO⟩
theorem So{t:aY}{f0 f1 f2 f3 f4:Field}{cs:List Value}{x:cQ H×List cJ}(ht:Tryz.prog.underlying t=dG (.struct #[f0,f1,f2,f3,f4]))(h:bE enc aB W 0 sp held fuel t cs=dG x) :
  ∃ y0 y1 y2 y3 y4 n,cs.length=Tryz.prog.cellsOf t/\bE enc aB W 0 sp held n f0.type ((cs.drop f0.offset).take (Tryz.prog.cellsOf f0.type))=dG y0 /\
   bE enc aB W 0 sp held n f1.type ((cs.drop f1.offset).take (Tryz.prog.cellsOf f1.type))=dG y1/\bE enc aB W 0 sp held n f2.type ((cs.drop f2.offset).take (Tryz.prog.cellsOf f2.type))=dG y2 /\
   bE enc aB W 0 sp held n f3.type ((cs.drop f3.offset).take (Tryz.prog.cellsOf f3.type))=dG y3/\bE enc aB W 0 sp held n f4.type ((cs.drop f4.offset).take (Tryz.prog.cellsOf f4.type))=dG y4:=by
 obtain⟨xs,n,_,rfl,hl,am,hf⟩:=DataW.trod_struct ht h
 match xs,am with
 | [y0,y1,y2,y3,y4],_=>exact⟨y0,y1,y2,y3,y4,n,hl,by simpa using hf 0 f0 rfl,by simpa using hf 1 f1 rfl,by simpa using hf 2 f2 rfl,by simpa using hf 3 f3 rfl,by simpa using hf 4 f4 rfl⟩
theorem Znr{cs}{x:cQ H×List cJ}(h:bE enc aB W 0 sp held fuel 33 cs=dG x):∃ p h k n a m c T,cs=[.int .i64 p,.int .i64 h,.int .i64 k,.int .i64 n,F a m c]/\TxsAt W a m T/\SlOk a m c:=by
 have⟨y0,y1,y2,y3,y4,k,hl,h0,h1,h2,h3,h4⟩:=So underlying33 h;rw[Tryz.cellsBlk] at hl;obtain⟨c0,c1,c2,c3,c4,rfl⟩:=list_five hl;simp[Tryz.cells3,Tryz.cellsTxs] at h0 h1 h2 h3 h4;have⟨x0,e0,_,_⟩:=bK aN h0;have⟨x1,e1,_,_⟩:=bK aN h1;have⟨x2,e2,_,_⟩:=bK aN h2;have⟨x3,e3,_,_⟩:=bK aN h3;obtain⟨a,n,c,T,rfl,hT,sT⟩:=Zjm h4;simp only[cE,and_true] at e0 e1 e2 e3;subst e0 e1 e2 e3;exact⟨x0,x1,x2,x3,a,n,c,T,rfl,hT,sT⟩
end
set_option maxRecDepth 100000 in
theorem Ax{H:Type}{enc:aY×Value->H}{os:Os}{f:FuncId}{fn:Func}{s:ChangeSpec}{X:World->Prop}(hX:∀ w w':World,w.heap=w'.heap->X w->X w')
  (au:os.Started) (ar:Tryz.checked.prog.inits.idxOf? f=aD) (ah:Tryz.checked.prog.funcs[f]? = dG fn)
  (av:∃ (w:World) (tape:Tape) (i:Input),w.os=os/\(w.forCall tape i).Shaped Tryz.checked.prog/\i.vars=[]/\Input.okWide Tryz.checked.prog (w.forCall tape i) .any w.heap.size f i /\
   ((s.pre enc Tryz.checked.prog fn [] false (w.forCall tape i).memory i.args/\X (w.forCall tape i).memory)/\sizedMet enc Tryz.checked.prog fn (OpenSpec.ofChange s) false (w.forCall tape i).memory i.args)/\({}:Assume).holds Tryz.checked.prog (lone (Frame.enter Tryz.checked.prog f i.args .normal) [] (w.forCall tape i)))
  (ad:∀ (W:World) (base:Nat) (args:Array Value) (ds gs:List (cQ H)) (ac:List cJ),
   (∀ (j:Nat) t v,fn.params[j]? = dG t->args[j]? = dG v->Value.okWide Tryz.checked.prog W .any base t v) ->
   DataW.Whole enc Tryz.checked.prog fn.params.toList s.vars false W args.toList ds gs ac->X W->(DataW.weightsEach Tryz.checked.prog (fn.params.toList++s.plain.varTypes Tryz.checked.prog) (ds++gs)).all (·<=reachBytes)=true ->
   Calls Tryz.checked.prog f args W λe W'=>∃ v,e = dB v/\s.post enc Tryz.checked.prog fn false true false false W args v W') :
  ReturnsInHanded {} Tryz.checked os f .any (λw args=>(s.pre enc Tryz.checked.prog fn [] false w args/\X w)/\sizedMet enc Tryz.checked.prog fn (OpenSpec.ofChange s) false w args) (s.post enc Tryz.checked.prog fn false true false false):=by
 refine returnsInHanded_of_calls own au ar av ?_;intro w tape i _ _ _ ak am _;have⟨_,_,_,ae,aj,_,_,_,_,an⟩:=ak;obtain rfl:ae=fn:=Option.some.inj (aj.symm.trans ah);have⟨⟨⟨ds,gs,ac,hw,_⟩,hx⟩,hz⟩:=am;refine (ad (w.forCall tape i) w.heap.size i.args ds gs ac an (DataW.Whole.of_heap (w':=w.forCall tape i) (by rfl) hw) (hX _ _ (by rfl) hx) (hz.weights hw)).mono λe W' ⟨v,he,hp⟩=>?_;subst he;exact ChangeSpec.post_blind hp
end
namespace Lf
open Go.ChangeShapes Go.WideShapes Go.ChangeAt Go.RowKit
theorem own:ownKnob Tryz.prog.godebug=aD:=by kernel_rfl
theorem Rv:laidOutB aB=true:=by kernel_rfl
theorem Ad{H:Type}{enc:aY×Value->H}{w}{base:Nat}{sp:Nat->Bool}{held:Bool}{fuel:Nat}{t:aY}{n:Nat}{cs}{ss:List (List UInt8)}{p}
  (ht:Tryz.prog.underlying t=dG (.array n 9)) (af:Tryz.prog.cellsOf t=n) (h9:Tryz.prog.cellsOf 9=1)
  (h:bE enc aB w base sp held fuel t cs=dG (.agg (ss.map λb=>.lit (.string b)),p)):cs=ss.map λb=>cF ⟨b.toArray⟩:=by
 obtain⟨xs,m,rfl,hx,hl,hn,ag⟩:=DataW.trod_array ht h;rw[af] at hl;simp only[Prod.mk.injEq,DataW.agg.injEq] at hx
 have ak:ss.length=n:=by
  have:=congrArg List.length hx.1;simp at this;omega
 apply List.ext_getElem?
 intro i;by_cases hi:i<n
 ·have aa:=ag i hi;rw[h9,Nat.mul_one] at aa;have ad:i<xs.length:=by omega
  rw[bR ad] at aa;have⟨s,hc,hy,_⟩:=DataW.trod_string underlying9 aa
  have h1:cs[i]? = dG (.string s):=by
   have:=congrArg (·[0]?) hc;simpa[List.getElem?_take,List.getElem?_drop] using this
  have h2:(xs.map (·.1))[i]? = dG (.lit (.string s.data.toList)):=by
   rw[List.getElem?_map,bR ad,hy];rfl
  rw[<-hx.1] at h2;have ac:i<ss.length:=by omega
  simp only[List.getElem?_map,bR ac,Option.map_some,Option.some.injEq,DataW.lit.injEq,Lit.string.injEq] at h2;rw[h1,List.getElem?_map,bR ac,h2];rfl
 ·rw[List.getElem?_eq_none (by omega),List.getElem?_eq_none (by simp;omega)]
def namesBytes:List (List UInt8):=namesL.map (·.data.toList)
theorem Tryz.tNam:(Tryz.prog.globals[4]?).map (·.type)=dG 350:=by kernel_rfl
theorem Tryz.tTab:(Tryz.prog.globals[2]?).map (·.type)=dG 302:=by kernel_rfl
theorem Tryz.cellsNam:Tryz.prog.cellsOf 350=14:=by kernel_rfl
theorem Tryz.cellsTab:Tryz.prog.cellsOf 302=20:=by kernel_rfl
theorem Tryz.cells9:Tryz.prog.cellsOf 9=1:=by kernel_rfl
theorem Tryz.cellsU64:Tryz.prog.cellsOf 255=1:=by kernel_rfl
theorem names_of_laid{H:Type}{enc:aY×Value->H}{w:World}{base:Nat}{sp:Nat->Bool}{held:Bool}{fuel:Nat}{cs:Array Value}{p}(hv:w.var? aB "cairn/lock.names" = dG cs)
  (h:bE enc aB w base sp held fuel 350 cs.toList=dG (Rows.laid_cairn_lock_names,p)):w.var? aB "cairn/lock.names" = dG Zcx:=by
 have e:=Ad (ss:=namesBytes) underlying350 Tryz.cellsNam Tryz.cells9 h;rw[hv]
 congr 1
 have⟨l⟩:=cs;have e':l=namesBytes.map λb=>cF ⟨b.toArray⟩:=e;rw[e'];rfl
theorem tab_of_laid{H:Type}{enc:aY×Value->H}{w:World}{base:Nat}{sp:Nat->Bool}{held:Bool}{fuel:Nat}{cs:Array Value}{p}(hv:w.var? aB "internal/strconv.uint64pow10" = dG cs)
  (h:bE enc aB w base sp held fuel 302 cs.toList=dG (Rows.laid_internal_strconv_uint64pow10,p)):Lib.TabIs aB w "internal/strconv.uint64pow10" .u64 Lib.pow10Tab:=by
 have e:=Lib.cells_of_tab (zs:=Lib.pow10Tab) underlying302 underlying255 Tryz.cellsU64 Tryz.cellsTab h;unfold Lib.TabIs;rw[hv]
 congr 1
 have⟨l⟩:=cs;have e':l=Lib.pow10Tab.map λz=>aU .u64 z:=e;rw[e']
theorem Tryz.cellsOp:Tryz.prog.cellsOf 139=2:=by kernel_rfl
theorem Tryz.cells3:Tryz.prog.cellsOf 3=1:=by kernel_rfl
theorem Pf{H:Type}{enc:aY×Value->H}{W}{sp:Nat->Bool}{held:Bool}{fuel:Nat}{a len cap}{x:cQ H×List cJ}
  (h:bE enc aB W 0 sp held fuel 88 [F a len cap]=dG x):(∃ l,OpsAt W a len l)/\(a=aD->len=0/\cap=0):=by
 rcases Deep.open_slice_pairs underlying88 underlying139 Tryz.cellsOp rfl rfl Tryz.cells3 Tryz.cells3 h with ⟨aa,_⟩|⟨b,l,c,m,n,V0,V1,D0,D1,P0,P1,aa,_,hl,_,hm,_,af⟩
 ·simp at aa;obtain⟨rfl,rfl,rfl⟩:=aa;exact⟨⟨[],rfl,λh=>absurd h (by omega)⟩,λ_=>⟨rfl,rfl⟩⟩
 ·simp at aa;obtain⟨rfl,rfl,rfl⟩:=aa;refine⟨?_,λh=>by cases h⟩;have ay:len<=m:=by rw[hm];split <;> omega
  have each:∀ i,i<len->∃ q:Int×Int,W.cell? (b.add (i*2))=dG (.int .i64 q.1)/\W.cell? (b.add (i*2+1))=dG (.int .i64 q.2):=λi hi=>by
   have⟨h1,h2,t1,t2⟩:=af i (by omega);have⟨z1,e1,_,_⟩:=bK aN t1;have⟨z2,e2,_,_⟩:=bK aN t2;simp only[cE,and_true] at e1 e2;exact⟨(z1,z2),by rw[h1,e1],by rw[h2,e2]⟩
  have⟨f,hf⟩:=Deep.choose_lt each;refine⟨(List.range len).map f,by simp,λah=>?_⟩;have⟨bb,off,ak⟩:=b;have aj:ak=aD:=by simpa[Addr.add] using World.cell?_spot (hf 0 ah).1
  subst aj;refine⟨bb,off,rfl,λi hi=>?_⟩;have ad:∀ j,(⟨bb,off,aD⟩:Addr).add j=⟨bb,off+j,aD⟩:=λj=>by unfold Addr.add;split <;> simp_all
  have h1:=hf i hi;rw[ad,ad] at h1;rw[<-Nat.add_assoc] at h1;simpa[hi] using h1
end Lf
open Go.ChangeShapes Go.WideShapes Go.ChangeAt Go.RowKit
theorem H8{P:Program}{w}{l:List (String×cQ Unit)}(fuel M:Nat)
  (h:((DataW.laidRun P w fuel (l.map (·.1))).bind λx=>if nodupBits M x.2 0 && laidRowsB P w x.2 then dG x.1 else aD)=dG l):laidMet P l w:=by
 simp only[Option.bind_eq_some_iff] at h;have⟨x,hx,d⟩:=h;split at d
 ·rename_i hb;simp only[Bool.and_eq_true] at hb;cases d;exact laidMet_of_run (ps:=x.2) fuel (by rw[hx]) (decide_eq_true (nodupBits_sound hb.1).1) hb.2
 ·cases d
open Go.ChangeShapes Go.WideShapes Go.ChangeAt Go.RowKit
theorem Tryz.tSpc:(Tryz.prog.globals[0]?).map (·.type)=dG 206:=by kernel_rfl
theorem Tryz.cellsSpc:Tryz.prog.cellsOf 206=256:=by kernel_rfl
theorem Tryz.cells5:Tryz.prog.cellsOf 5=1:=by kernel_rfl
theorem Zbw{H:Type}:(Rows.laid_strings_asciiSpace:cQ H)=Lib.tabData .u8 Lib.asciiSpaceTab:=by kernel_rfl
theorem Nv{H:Type}{enc:aY×Value->H}{w:World}{base:Nat}{sp:Nat->Bool}{held:Bool}{fuel:Nat}{cs:Array Value}{p}(hv:w.var? aB "strings.asciiSpace" = dG cs)
  (h:bE enc aB w base sp held fuel 206 cs.toList=dG (Rows.laid_strings_asciiSpace,p)):Lib.TabIs aB w "strings.asciiSpace" .u8 Lib.asciiSpaceTab:=by
 rw[Zbw] at h;have e:=Lib.cells_of_tab (zs:=Lib.asciiSpaceTab) underlying206 underlying5 Tryz.cells5 Tryz.cellsSpc h;unfold Lib.TabIs;rw[hv]
 congr 1
 have⟨l⟩:=cs;have e':l=Lib.asciiSpaceTab.map λz=>aU .u8 z:=e;rw[e']
namespace Tr
open Go.ChangeShapes Go.WideShapes Go.ChangeAt Go.RowKit
theorem own:ownKnob Tryz.prog.godebug=aD:=by kernel_rfl
theorem Rv:laidOutB aB=true:=by kernel_rfl
theorem Tryz.cellsOp:Tryz.prog.cellsOf 139=2:=by kernel_rfl
theorem Tryz.cells3:Tryz.prog.cellsOf 3=1:=by kernel_rfl
theorem Pf{H:Type}{enc:aY×Value->H}{W}{sp:Nat->Bool}{held:Bool}{fuel:Nat}{a len cap}{x:cQ H×List cJ}
  (h:bE enc aB W 0 sp held fuel 88 [F a len cap]=dG x):(∃ l,OpsAt W a len l)/\(a=aD->len=0/\cap=0):=by
 rcases Deep.open_slice_pairs underlying88 underlying139 Tryz.cellsOp rfl rfl Tryz.cells3 Tryz.cells3 h with ⟨aa,_⟩|⟨b,l,c,m,n,V0,V1,D0,D1,P0,P1,aa,_,hl,_,hm,_,af⟩
 ·simp at aa;obtain⟨rfl,rfl,rfl⟩:=aa;exact⟨⟨[],rfl,λh=>absurd h (by omega)⟩,λ_=>⟨rfl,rfl⟩⟩
 ·simp at aa;obtain⟨rfl,rfl,rfl⟩:=aa;refine⟨?_,λh=>by cases h⟩;have ay:len<=m:=by rw[hm];split <;> omega
  have each:∀ i,i<len->∃ q:Int×Int,W.cell? (b.add (i*2))=dG (.int .i64 q.1)/\W.cell? (b.add (i*2+1))=dG (.int .i64 q.2):=λi hi=>by
   have⟨h1,h2,t1,t2⟩:=af i (by omega);have⟨z1,e1,_,_⟩:=bK aN t1;have⟨z2,e2,_,_⟩:=bK aN t2;simp only[cE,and_true] at e1 e2;exact⟨(z1,z2),by rw[h1,e1],by rw[h2,e2]⟩
  have⟨f,hf⟩:=Deep.choose_lt each;refine⟨(List.range len).map f,by simp,λah=>?_⟩;have⟨bb,off,ak⟩:=b;have aj:ak=aD:=by simpa[Addr.add] using World.cell?_spot (hf 0 ah).1
  subst aj;refine⟨bb,off,rfl,λi hi=>?_⟩;have ad:∀ j,(⟨bb,off,aD⟩:Addr).add j=⟨bb,off+j,aD⟩:=λj=>by unfold Addr.add;split <;> simp_all
  have h1:=hf i hi;rw[ad,ad] at h1;rw[<-Nat.add_assoc] at h1;simpa[hi] using h1
theorem Tryz.cellsTx:Tryz.prog.cellsOf 50=3:=by kernel_rfl
theorem Tryz.cellsIn:Tryz.prog.cellsOf 90=3:=by kernel_rfl
theorem Tryz.cellsOut:Tryz.prog.cellsOf 92=2:=by kernel_rfl
theorem Tryz.cellsPoint:Tryz.prog.cellsOf 87=2:=by kernel_rfl
theorem Tryz.cellsOps:Tryz.prog.cellsOf 88=1:=by kernel_rfl
theorem Tryz.cellsIns:Tryz.prog.cellsOf 47=1:=by kernel_rfl
theorem Tryz.cellsOuts:Tryz.prog.cellsOf 48=1:=by kernel_rfl
theorem list_two{cs:List Value}(h:cs.length=2):∃ a b,cs=[a,b]:=by
 match cs,h with
 | [a,b],_=>exact⟨a,b,rfl⟩
theorem list_three{cs:List Value}(h:cs.length=3):∃ a b c,cs=[a,b,c]:=by
 match cs,h with
 | [a,b,c],_=>exact⟨a,b,c,rfl⟩
theorem Tryz.cellsBlk:Tryz.prog.cellsOf 33=5:=by kernel_rfl
theorem Tryz.cellsTree:Tryz.prog.cellsOf 28=2:=by kernel_rfl
theorem Tryz.cellsTxs:Tryz.prog.cellsOf 29=1:=by kernel_rfl
theorem Tryz.cellsBlks:Tryz.prog.cellsOf 26=1:=by kernel_rfl
theorem Tryz.cellsInts:Tryz.prog.cellsOf 25=1:=by kernel_rfl
theorem list_five{cs:List Value}(h:cs.length=5):∃ a b c d e,cs=[a,b,c,d,e]:=by
 match cs,h with
 | [a,b,c,d,e],_=>exact⟨a,b,c,d,e,rfl⟩
section
section
variable {H : Type} {enc : TypeId × Value -> H} {W : World} {sp : Nat -> Bool} {held : Bool} {fuel : Nat}
theorem ops_full{v}{x:cQ H×List cJ}(h:bE enc aB W 0 sp held fuel 88 [v]=dG x):∃ a n c l,v = F a n c/\OpsAt W a n l/\SlOk a n c:=by
 have h':=h
 rcases Deep.open_slice underlying88 h with ⟨aa,_⟩|⟨b,l,c,m,n,D,Pl,aa,_,hl,hm,_⟩
 ·simp at aa;subst aa;exact⟨aD,0,0,[],rfl,⟨rfl,λh=>absurd h (by omega)⟩,aE _,aI _,λ_=>⟨rfl,rfl⟩⟩
 ·simp at aa;subst aa;have⟨⟨L,hO⟩,_⟩:=Pf h';exact⟨dG b,l,c,L,rfl,hO,hl,hm,λh=>by cases h⟩
theorem Zfh{cs}{x:cQ H×List cJ}(h:bE enc aB W 0 sp held fuel 90 cs=dG x):∃ x1 x2 a n c l,cs=[.int .i64 x1,.int .i64 x2,F a n c]/\OpsAt W a n l/\SlOk a n c:=by
 have⟨y0,y1,k,_,hl,h0,h1⟩:=trod_struct2 underlying90 h;rw[Tryz.cellsIn] at hl;obtain⟨c0,c1,c2,rfl⟩:=list_three hl;simp[Tryz.cellsPoint,Tryz.cellsOps] at h0 h1;have⟨z0,z1,k2,_,_,g0,g1⟩:=trod_struct2 underlying87 h0;simp[Tryz.cells3] at g0 g1;have⟨x1,e1,_,_⟩:=bK aN g0;have⟨x2,e2,_,_⟩:=bK aN g1;obtain⟨a,n,c,l,rfl,hO,hS⟩:=ops_full h1;simp only[cE,and_true] at e1 e2;subst e1 e2;exact⟨x1,x2,a,n,c,l,rfl,hO,hS⟩
theorem Ej{cs}{x:cQ H×List cJ}(h:bE enc aB W 0 sp held fuel 92 cs=dG x):∃ x1 a n c l,cs=[.int .i64 x1,F a n c]/\OpsAt W a n l/\SlOk a n c:=by
 have⟨y0,y1,k,_,hl,h0,h1⟩:=trod_struct2 underlying92 h;rw[Tryz.cellsOut] at hl;obtain⟨c0,c1,rfl⟩:=list_two hl;simp[Tryz.cells3,Tryz.cellsOps] at h0 h1;have⟨x1,e1,_,_⟩:=bK aN h0;obtain⟨a,n,c,l,rfl,hO,hS⟩:=ops_full h1;simp only[cE,and_true] at e1;subst e1;exact⟨x1,a,n,c,l,rfl,hO,hS⟩
theorem So{t:aY}{f0 f1 f2 f3 f4:Field}{cs:List Value}{x:cQ H×List cJ}(ht:Tryz.prog.underlying t=dG (.struct #[f0,f1,f2,f3,f4]))(h:bE enc aB W 0 sp held fuel t cs=dG x) :
  ∃ y0 y1 y2 y3 y4 n,cs.length=Tryz.prog.cellsOf t/\bE enc aB W 0 sp held n f0.type ((cs.drop f0.offset).take (Tryz.prog.cellsOf f0.type))=dG y0 /\
   bE enc aB W 0 sp held n f1.type ((cs.drop f1.offset).take (Tryz.prog.cellsOf f1.type))=dG y1/\bE enc aB W 0 sp held n f2.type ((cs.drop f2.offset).take (Tryz.prog.cellsOf f2.type))=dG y2 /\
   bE enc aB W 0 sp held n f3.type ((cs.drop f3.offset).take (Tryz.prog.cellsOf f3.type))=dG y3/\bE enc aB W 0 sp held n f4.type ((cs.drop f4.offset).take (Tryz.prog.cellsOf f4.type))=dG y4:=by
 obtain⟨xs,n,_,rfl,hl,am,hf⟩:=DataW.trod_struct ht h
 match xs,am with
 | [y0,y1,y2,y3,y4],_=>exact⟨y0,y1,y2,y3,y4,n,hl,by simpa using hf 0 f0 rfl,by simpa using hf 1 f1 rfl,by simpa using hf 2 f2 rfl,by simpa using hf 3 f3 rfl,by simpa using hf 4 f4 rfl⟩
theorem ints_full{v}{x:cQ H×List cJ}(h:bE enc aB W 0 sp held fuel 25 [v]=dG x):∃ a n c l,v = F a n c/\IntsAt W a n l/\SlOk a n c:=by
 rcases open_ints cR aN (by kernel_rfl) h with ⟨aa,_⟩|⟨b,l,c,zs,aa,_,hl,hm,hz,_,ad,_⟩
 ·simp at aa;subst aa;exact⟨aD,0,0,[],rfl,IntsAt.nil _ _,aE _,aI _,λ_=>⟨rfl,rfl⟩⟩
 ·simp at aa;subst aa;have ak:l<=zs.length:=by rw[hz];split <;> omega
  refine⟨dG b,l,c,zs.take l,rfl,⟨by rw[aV];omega,λal=>?_⟩,hl,hm,λh=>by cases h⟩;have⟨bb,off,aj⟩:=b;have z0:=ad 0 (by omega);have ag:aj=aD:=by simpa[Addr.add] using World.cell?_spot z0
  subst ag;have ac:∀ j,(⟨bb,off,aD⟩:Addr).add j=⟨bb,off+j,aD⟩:=λj=>by unfold Addr.add;split <;> simp_all
  refine⟨bb,off,rfl,by rw[ac] at z0;exact aC _ _ z0,λi hi=>?_⟩;rw[aV] at hi;have:=ad i (by omega);rw[ac] at this;rw[this,List.getElem_take];simp[List.getD,(by omega:i<zs.length)]
end
end
end Tr
open Go.ChangeShapes Go.WideShapes Go.ChangeAt Go.RowKit
theorem Tryz.bytesOp:Tryz.prog.bytesOf 139=16:=by kernel_rfl
theorem Zhm{H:Type}{enc:aY×Value->H}{W}{sp:Nat->Bool}{held:Bool}{fuel:Nat}{v}{x:cQ H×List cJ}(h:bE enc aB W 0 sp held fuel 88 [v]=dG x) :
  ∃ a n c l,v = F a n c/\OpsAt W a n l/\SlOk a n c/\(n=0\/∃ ac ag,x.1 = .slice ac ag/\ac.length=n):=by
 have⟨a,n,c,l,hv,hO,hs⟩:=Tr.ops_full h;refine⟨a,n,c,l,hv,hO,hs,?_⟩
 rcases Deep.open_slice underlying88 h with ⟨aa,_⟩|⟨b,l,c,m,k,D,Pl,aa,_,hl,hm,_,hx,_⟩
 ·simp at aa;rw[hv] at aa;injection aa with _ e _;exact .inl e
 ·simp at aa;rw[hv] at aa;injection aa with _ e _;subst e;exact .inr ⟨_,_,by rw[hx],by simp⟩
open Go.ChangeShapes Go.WideShapes Go.ChangeAt Go.RowKit
def Fits{H:Type}(t:aY)(d:cQ H):Prop:=∀ x∈d.weights aB t,x<=reachBytes
theorem Tryz.bytesIn:Tryz.prog.bytesOf 90=40:=by kernel_rfl
theorem Tryz.bytesOut:Tryz.prog.bytesOf 92=32:=by kernel_rfl
theorem Tryz.bytesTx:Tryz.prog.bytesOf 50=56:=by kernel_rfl
theorem Tryz.cellsNode:Tryz.prog.cellsOf 31=4:=by kernel_rfl
theorem Zhv{cs:List Value}(h:cs.length=4):∃ a b c d,cs=[a,b,c,d]:=by
 match cs,h with
 | [a,b,c,d],_=>exact⟨a,b,c,d,rfl⟩
section
section
variable {H : Type} {enc : TypeId × Value -> H} {W : World} {sp : Nat -> Bool} {held : Bool} {fuel : Nat}
theorem Zfr{e:aY}:∀ {ds:List (cQ H)} {d:cQ H},d∈ds->∀ x∈d.weights aB e,x∈DataW.weightsAll aB e ds
 | d0 :: ds,d,h,x,hx=>by
  rw[DataW.weightsAll,bM]
  rcases aW.1 h with rfl|h
  ·exact .inl hx
  ·exact .inr (Zfr h x hx)
theorem Fits.rows{t e:aY}{es sp:List (cQ H)}(h:Fits t (.slice es sp))(hu:Tryz.prog.underlying t=dG (.slice e)):es.length*Tryz.prog.bytesOf e<=reachBytes/\∀ d∈es,Fits e d:=by
 unfold Fits at h;simp only[DataW.weights,hu,aW,bM] at h;refine⟨aO (Nat.mul_le_mul_right _ (Nat.le_add_right _ _)) (h _ (.inl rfl)),λd hd x hx=>h x (.inr (.inl (Zfr hd x hx)))⟩
theorem Fits.two{t:aY}{f0 f1:Field}{d0 d1:cQ H}(h:Fits t (.agg [d0,d1]))(hu:Tryz.prog.underlying t=dG (.struct #[f0,f1])):Fits f0.type d0/\Fits f1.type d1:=by
 unfold Fits at h;simp only[DataW.weights,hu,DataW.weightsEach,List.map_cons,List.map_nil,bM] at h;exact⟨λx hx=>h x (.inl hx),λx hx=>h x (.inr (.inl hx))⟩
theorem Fits.three{t:aY}{f0 f1 f2:Field}{d0 d1 d2:cQ H}(h:Fits t (.agg [d0,d1,d2]))(hu:Tryz.prog.underlying t=dG (.struct #[f0,f1,f2])):Fits f0.type d0/\Fits f1.type d1/\Fits f2.type d2:=by
 unfold Fits at h;simp only[DataW.weights,hu,DataW.weightsEach,List.map_cons,List.map_nil,bM] at h;exact⟨λx hx=>h x (.inl hx),λx hx=>h x (.inr (.inl hx)),λx hx=>h x (.inr (.inr (.inl hx)))⟩
theorem El{v}{x:cQ H×List cJ}(h:bE enc aB W 0 sp held fuel 88 [v]=dG x)(hf:Fits 88 x.1) :
  ∃ a n c l,v = F a n c/\OpsAt W a n l/\SlOk a n c/\l.length<=8796093022208:=by
 have⟨a,n,c,l,hv,hO,hs,hd⟩:=Zhm h;refine⟨a,n,c,l,hv,hO,hs,?_⟩;rw[hO.1]
 rcases hd with e|⟨es,sp,hx,hn⟩
 ·omega
 ·rw[hx] at hf;have:=(hf.rows underlying88).1;rw[hn,Tryz.bytesOp] at this;unfold reachBytes at this;omega
theorem Zqn{cs}{x:cQ H×List cJ}(h:bE enc aB W 0 sp held fuel 90 cs=dG x)(hf:Fits 90 x.1):∃ y,Tr.inR.C W cs y/\y.2.2.length<=8796093022208:=by
 have⟨y0,y1,k,hx,hl,h0,h1⟩:=trod_struct2 underlying90 h;rw[hx] at hf;have ag:=(hf.two underlying90).2;rw[Tr.Tryz.cellsIn] at hl;obtain⟨c0,c1,c2,rfl⟩:=Tr.list_three hl;simp[Tr.Tryz.cellsPoint,Tr.Tryz.cellsOps] at h0 h1;have⟨z0,z1,k2,_,_,g0,g1⟩:=trod_struct2 underlying87 h0;simp[Tr.Tryz.cells3] at g0 g1;have⟨x1,e1,_,_⟩:=bK aN g0;have⟨x2,e2,_,_⟩:=bK aN g1;obtain⟨a,n,c,l,rfl,hO,hS,hn⟩:=El h1 ag;simp only[cE,and_true] at e1 e2;subst e1 e2;exact⟨(x1,x2,l),⟨a,n,c,rfl,hO,hS⟩,hn⟩
theorem Zlr{cs}{x:cQ H×List cJ}(h:bE enc aB W 0 sp held fuel 92 cs=dG x)(hf:Fits 92 x.1):∃ y,Tr.outR.C W cs y/\y.2.length<=8796093022208:=by
 have⟨y0,y1,k,hx,hl,h0,h1⟩:=trod_struct2 underlying92 h;rw[hx] at hf;have af:=(hf.two underlying92).2;rw[Tr.Tryz.cellsOut] at hl;obtain⟨c0,c1,rfl⟩:=Tr.list_two hl;simp[Tr.Tryz.cells3,Tr.Tryz.cellsOps] at h0 h1;have⟨x1,e1,_,_⟩:=bK aN h0;obtain⟨a,n,c,l,rfl,hO,hS,hn⟩:=El h1 af;simp only[cE,and_true] at e1;subst e1;exact⟨(x1,l),⟨a,n,c,rfl,hO,hS⟩,hn⟩
theorem Rs{α : Type}[Inhabited α](Z:Tr.Rec α)(Q : α->Prop){ts t:aY}(hu:Tryz.prog.underlying ts=dG (.slice t))(hc:Tryz.prog.cellsOf t=Z.sz)(al:0<Z.sz)
  (ay:∀ (fuel:Nat) (cs:List Value) (x:cQ H×List cJ),bE enc aB W 0 sp held fuel t cs=dG x->Fits t x.1->∃ y,Z.C W cs y/\Q y)
  {v} {x:cQ H×List cJ} (h:bE enc aB W 0 sp held fuel ts [v]=dG x) (aj:Fits ts x.1):∃ a n c l,v = F a n c/\RowsAt Z.R Z.sz W a n l/\SlOk a n c/\n*Tryz.prog.bytesOf t<=reachBytes/\∀ y∈l,Q y:=by
 rcases Deep.open_slice hu h with ⟨aa,_⟩|⟨b,l,c,m,n,D,Pl,aa,_,hl,hm,bh,br,ax⟩
 ·simp at aa;subst aa;exact⟨aD,0,0,[],rfl,RowsAt.nil _ _,⟨aE _,aI _,λ_=>⟨rfl,rfl⟩⟩,by simp,λy h=>by cases h⟩
 ·simp at aa;subst aa;rw[br] at aj;have ak:=aj.rows hu;have az:l*Tryz.prog.bytesOf t<=reachBytes:=by simpa using ak.1
  have bv:l<=m:=by rw[bh];split <;> omega
  have each:∀ i,i<l->∃ q : α,∃ cs,(∀ j,j<Z.sz->W.cell? (b.add (i*Z.sz+j))=cs[j]?)/\Z.C W cs q/\Q q:=λi hi=>by
   obtain⟨an,h1,h2⟩:=ax i (by omega);rw[hc] at h1;obtain⟨_,_,aw⟩:=World.cells?_some h1;obtain⟨y,hy,hQ⟩:=ay _ _ _ h2 (ak.2 _ (List.mem_map.2 ⟨i,List.mem_range.2 hi,rfl⟩));exact⟨y,an,λj hj=>by rw[<-aw j hj,Deep.add_add],hy,hQ⟩
  obtain⟨f,hf⟩:=Deep.choose_lt each
  refine⟨dG b,l,c,(List.range l).map f,rfl,⟨by simp,λbi=>?_⟩,⟨hl,hm,λh=>by cases h⟩,az,λy hy=>by
   obtain⟨i,hi,rfl⟩:=List.mem_map.1 hy;obtain⟨_,_,_,hq⟩:=hf i (List.mem_range.1 hi);exact hq⟩
  obtain⟨bb,off,bs⟩:=b;have ah:∀ j,(⟨bb,off,aD⟩:Addr).add j=⟨bb,off+j,aD⟩:=λj=>by unfold Addr.add;split <;> simp_all
  obtain⟨af,av,aq,_⟩:=hf 0 bi;have bq:=Z.wide _ _ _ aq;have z0:=av 0 al;have e0:af[0]? = dG (af[0]'(by omega)):=by simp[bq,al]
  rw[e0] at z0;have bo:bs=aD:=by simpa[Addr.add] using World.cell?_spot z0
  subst bo;refine⟨bb,off,rfl,by rw[ah] at z0;exact aC _ _ z0,λi hi=>?_⟩;have bd:i<l:=by simpa using hi
  obtain⟨cs,aa,hC,_⟩:=hf i bd;rw[List.getElem_map,List.getElem_range];refine Z.cr _ _ _ cs _ (λj u hj=>?_) hC;have be:j<Z.sz:=by rw[<-Z.wide _ _ _ hC];exact (List.getElem?_eq_some_iff.1 hj).1
  have:=aa j be;rw[ah,<-Nat.add_assoc,hj] at this;exact this
theorem Zos{cs}{x:cQ H×List cJ}(h:bE enc aB W 0 sp held fuel 50 cs=dG x)(hf:Fits 50 x.1):∃ y,Tr.txR.C W cs y/\Tr.TxSmall y:=by
 have⟨y0,y1,y2,k,hx,hl,h0,h1,h2⟩:=Deep.trod_struct3 underlying50 h;rw[hx] at hf;have⟨_,aj,ak⟩:=hf.three underlying50;rw[Tr.Tryz.cellsTx] at hl;obtain⟨c0,c1,c2,rfl⟩:=Tr.list_three hl;simp[Tr.Tryz.cells3,Tr.Tryz.cellsIns,Tr.Tryz.cellsOuts] at h0 h1 h2;have⟨hh,e0,_,_⟩:=bK aN h0;obtain⟨ai,ni,ci,I,rfl,hI,sI,nI,qI⟩:=Rs Tr.inR (λy=>y.2.2.length<=8796093022208) underlying47 Tr.Tryz.cellsIn (by decide) (λ_ _ _ q qf=>Zqn q qf) h1 aj;obtain⟨ao,no,co,O,rfl,hO,sO,nO,qO⟩:=Rs Tr.outR (λy=>y.2.length<=8796093022208) underlying48 Tr.Tryz.cellsOut (by decide) (λ_ _ _ q qf=>Zlr q qf) h2 ak;simp only[cE,and_true] at e0;subst e0;rw[Tryz.bytesIn] at nI;rw[Tryz.bytesOut] at nO;unfold reachBytes at nI nO;have lI:I.length=ni:=hI.1;have lO:O.length=no:=hO.1;exact⟨(hh,I,O),⟨ai,ni,ci,ao,no,co,rfl,hI,sI,hO,sO⟩,by simp only;omega,by simp only;omega,qI,qO⟩
theorem Bp{v}{x:cQ H×List cJ}(h:bE enc aB W 0 sp held fuel 29 [v]=dG x)(hf:Fits 29 x.1):∃ a n c l,v = F a n c/\TxsAt W a n l/\SlOk a n c/\n<=2513169434916/\∀ t∈l,Tr.TxSmall t:=by
 have⟨a,n,c,l,hv,hT,sT,hn,hq⟩:=Rs Tr.txR Tr.TxSmall underlying29 Tr.Tryz.cellsTx (by decide) (λ_ _ _ q qf=>Zos q qf) h hf;rw[Tryz.bytesTx] at hn;unfold reachBytes at hn;exact⟨a,n,c,l,hv,hT,sT,by omega,hq⟩
end
end
open Go.ChangeShapes Go.WideShapes Go.ChangeAt Go.RowKit
theorem Tryz.bytes3:Tryz.prog.bytesOf 3=8:=by kernel_rfl
theorem Tryz.bytesBlk:Tryz.prog.bytesOf 33=56:=by kernel_rfl
section
section
variable {H : Type} {enc : TypeId × Value -> H} {W : World} {sp : Nat -> Bool} {held : Bool} {fuel : Nat}
theorem Zia{v}{x:cQ H×List cJ}(h:bE enc aB W 0 sp held fuel 25 [v]=dG x)(hf:Fits 25 x.1) :
  ∃ a n c l,v = F a n c/\Tr.IntsAt W a n l/\SlOk a n c/\n<=17592186044416:=by
 have⟨a,n,c,l,hv,hN,hs⟩:=Tr.ints_full h;refine⟨a,n,c,l,hv,hN,hs,?_⟩
 rcases Deep.open_slice cR h with ⟨aa,_⟩|⟨b,l,c,m,k,D,Pl,aa,_,hl,hm,_,hx,_⟩
 ·simp at aa;rw[hv] at aa;injection aa with _ e _;omega
 ·simp at aa;rw[hv] at aa;injection aa with _ e _;subst e;rw[hx] at hf;have:=(hf.rows cR).1;rw[Tryz.bytes3] at this;unfold reachBytes at this;simp at this;omega
theorem Fits.each{t:aY}{fs:Array Field}{ds}(h:Fits t (.agg ds))(hu:Tryz.prog.underlying t=dG (.struct fs)){j:Nat}{f:Field}{d:cQ H}(hf:fs[j]? = dG f)(hd:ds[j]? = dG d):Fits f.type d:=λz hz=>by
 refine h z ?_;simp only[DataW.weights,hu];exact DataW.weights_mem_each (j:=j) (t:=f.type) (d:=d) (by simp[hf]) hd z hz
set_option maxRecDepth 10000 in
theorem Zns{cs}{x:cQ H×List cJ}(h:bE enc aB W 0 sp held fuel 33 cs=dG x)(hf:Fits 33 x.1):∃ y,Tr.blkR.C W cs y/\Tr.BlkSmall y:=by
 obtain⟨xs,n,_,rfl,hl,aj,hq⟩:=DataW.trod_struct underlying33 h
 match xs,aj with
 | [y0,y1,y2,y3,y4],_=>
  have ah:=hf.each underlying33 (j:=4) rfl rfl;have h0:=hq 0 _ rfl;have h1:=hq 1 _ rfl;have h2:=hq 2 _ rfl;have h3:=hq 3 _ rfl;have h4:=hq 4 _ rfl;rw[Tr.Tryz.cellsBlk] at hl;obtain⟨c0,c1,c2,c3,c4,rfl⟩:=Tr.list_five hl;simp[Tr.Tryz.cells3,Tr.Tryz.cellsTxs] at h0 h1 h2 h3 h4;have⟨x0,e0,_,_⟩:=bK aN h0;have⟨x1,e1,_,_⟩:=bK aN h1;have⟨x2,e2,_,_⟩:=bK aN h2;have⟨x3,e3,_,_⟩:=bK aN h3;obtain⟨a,n,c,T,rfl,hT,sT,hn,hs⟩:=Bp h4 ah;simp only[cE,and_true] at e0 e1 e2 e3;subst e0 e1 e2 e3;exact⟨(x0,x1,x2,x3,T),⟨a,n,c,rfl,hT,sT⟩,by show T.length<=_;rw[hT.1];exact hn,hs⟩
theorem Zcr{cs}{x:cQ H×List cJ}(h:bE enc aB W 0 sp held fuel 31 cs=dG x)(hf:Fits 31 x.1):∃ a n c b m d p q r tip N T P,cs=[F a n c,F b m d,F p q r,.int .i64 tip]/\Tr.IntsAt W a n N/\SlOk a n c/\Tr.BlksAt W b m T/\SlOk b m d/\TxsAt W p q P/\SlOk p q r/\n<=17592186044416/\m<=2513169434916/\q<=2513169434916/\(∀ y∈T,Tr.BlkSmall y)/\∀ t∈P,Tr.TxSmall t:=by
 have⟨y0,y1,y2,k,hx,hl,h0,h1,h2⟩:=Deep.trod_struct3 underlying31 h;rw[hx] at hf;have⟨ac,al,_⟩:=hf.three underlying31;rw[Tryz.cellsNode] at hl;obtain⟨c0,c1,c2,c3,rfl⟩:=Zhv hl;simp[Tr.Tryz.cells3,Tr.Tryz.cellsTree,Tr.Tryz.cellsTxs] at h0 h1 h2;have⟨tip,e0,_,_⟩:=bK aN h2;have⟨z0,z1,k2,au,az,g0,g1⟩:=trod_struct2 underlying28 h0;rw[au] at ac;have⟨ah,aj⟩:=ac.two underlying28;simp[Tr.Tryz.cellsInts,Tr.Tryz.cellsBlks] at g0 g1;have⟨a,n,c,N,af,hN,sN,hn⟩:=Zia g0 ah;have⟨b,m,d,T,ag,hT,sT,hm,hs⟩:=Rs Tr.blkR Tr.BlkSmall underlying26 Tr.Tryz.cellsBlk (by decide) (λ_ _ _ q qf=>Zns q qf) g1 aj;have⟨p,q,r,P,hv,hP,sP,hq,ap⟩:=Bp h1 al;rw[Tryz.bytesBlk] at hm;unfold reachBytes at hm;simp only[cE,and_true] at e0;subst e0 hv af ag;exact⟨a,n,c,b,m,d,p,q,r,tip,N,T,P,rfl,hN,sN,hT,sT,hP,sP,hn,by omega,hq,hs,ap⟩
end
end
