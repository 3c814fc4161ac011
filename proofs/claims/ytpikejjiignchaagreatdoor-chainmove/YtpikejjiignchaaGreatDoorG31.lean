import Derived.Test.YtpikejjiignchaaGreatDoorH
import Derived.Test.YtpikejjiignchaaGreatDoorG30
open Go.Proofs.Tryz
open Go renaming lt_of_block->aA,heap_alloc_new->aK,bodyPost_ret->aR,maxLen->cD,wp_loop_rounds->aQ,rounds_succ->aL,wpList_append_own->dV
open Go.Act renaming put->aH
open Go.Ending renaming returned->dX
open Go.IntKind renaming wrap_i64->bF,i64->J
open Go.Obj renaming cells->dW
open Go.Proofs.Tryz renaming prog->aB,underlying29->bR
open Go.Value renaming int->E,slice->F,tuple->dY,bool->eA
open Go.World renaming block_lt_of_cell?->aC
open List renaming getD_eq_getElem?_getD->aZ,getElem?_eq_getElem->aS,take_of_length_le->aY
open Nat renaming le_refl->aE,zero_le->aP
set_option maxHeartbeats 6400000
namespace Go.Proofs.YtpikejjiignchaaGreatDoor
open Go.RowKit
theorem Zqo{K C}{b:Zj}{N:List Int}(h:nfD K C b=(N,0)):N.length=b.2.2.2.2.length/\0<b.2.2.2.2.length/\b.2.2.2.2.length<=4:=by
 obtain⟨_,hb,X,n,O,hN,z⟩:=Nq (by rw[h]);rw[h] at z;have e:=(Qt hN).2.2.2.2.1;obtain⟨h0,h4,_,_⟩:=Ra hb;have ab:N=O:=z;rw[ab];exact⟨by rw[e];simp,h0,h4⟩
set_option maxRecDepth 100000 in
theorem Av(ka kn kc K la ln lc C0)(p h O n:Int)(a m c L ua)(un uc:Nat)(N)(x y:Int)(w)(hE:Env w)(hK:Bk.TextsAt w ka kn K)(hC:CoinsAt w la ln C0)(hL:TxsAt w a m L)(bs:nfD K C0 (p,h,O,n,L)=(N,x))(hy:(x≠0/\y=x)\/(x=0/\un≠m/\y=4)) :
  Calls aB 87 #[.agg #[F ka kn kc],F la ln lc,.agg #[E J p,E J h,E J O,E J n,F a m c],F ua un uc] w λe w'=>RvR w w' y [] e:=by
 obtain⟨X,hX⟩:=ZG ((((((w.alloc (dW #[F ka kn kc] 24)).alloc (dW #[F la ln lc] 29)).alloc (dW #[E J p,E J h,E J O,E J n,F a m c] 68)).alloc (dW #[F ua un uc] 79)).alloc (dW #[F none 0 0] 29)).alloc (dW #[E J 0] 30));obtain⟨ad,an,x1,x2,x3,x4,x5,x6⟩:=Hd w _ _ _ _ _ _ X hX;have NF:=Zb (Tj ka kn kc K la ln lc C0 p h O n a m c L N x X (hE.later ad) (hK.later ad) (hC.later ad) (hL.later ad) bs);have c1:=Zd (X:=[F ka kn kc]) x1 0 _ rfl;have c2:=Zd (X:=[F la ln lc]) x2 0 _ rfl;have cf:=Zd (X:=[E J p,E J h,E J O,E J n,F a m c]) x3 0 _ rfl;have cg:=Zd (X:=[E J p,E J h,E J O,E J n,F a m c]) x3 1 _ rfl;have ci:=Zd (X:=[E J p,E J h,E J O,E J n,F a m c]) x3 2 _ rfl;have cj:=Zd (X:=[E J p,E J h,E J O,E J n,F a m c]) x3 3 _ rfl;have cl:=Zd (X:=[E J p,E J h,E J O,E J n,F a m c]) x3 4 _ rfl;have cx:=aA x1;have cz:=aA x2;have da:=aA x3;have bh:=Zb ad;have bw:=Zb x3;have bx:=Zb x4;have bi:=Zb x5;have bj:=Zb x6;have bz:=Zb an;clear hE hK hC hL bs ad x1 x2 x3 x4 x5 x6 an;go_enter func87,ntmps87;go_wp2_with fail;rw[<-hX];clear hX;refine NF.mono ?_;rintro e z ⟨na,nn,nc,rfl,hN,ea,aa⟩;obtain⟨Y,hY⟩:=ZG ((z.alloc (dW #[F na nn nc] 25)).alloc (dW #[E J x] 30));have br:ZD z Y:=by rw[hY];exact Ze (Zg _ _) (Zg _ _)
 have bg:Y.heap[z.heap.size+1]? = some (dW [E J x].toArray 30 (0,0)):=by
  rw[hY];have:=aK (z.alloc (dW #[F na nn nc] 25)) (dW #[E J x] 30);rw[show (z.alloc (dW #[F na nn nc] 25)).heap.size=z.heap.size+1 by simp] at this;exact this
 have cy:=aa.size;have an:=Za bz;have am:=Ze aa br;have d3:=ZE aa bw;have dq:=Zd (X:=[E J p,E J h,E J O,E J n,F a m c]) d3 4 _ rfl;have dr:=aA d3;have d4:=ZE aa bx;have ds:=Zd (X:=[F ua un uc]) d4 0 _ rfl;have dt:=aA d4;have dp:w.heap.size+1<z.heap.size:=by omega
 have dn:w.heap.size<z.heap.size:=by omega
 have d8:=ZE am bi;have d9:=ZE am bj;have o8:=ZE aa bi;have o9:=ZE aa bj;have O8:=Zb o8;have O9:=Zb o9;have dl:=Zd (X:=[F none 0 0]) o8 0 _ rfl;have dv:=Zi o8 0;have ee:=aA o8;have dm:=Zd (X:=[E J 0]) o9 0 _ rfl;have dx:=Zi o9 0;have eg:=aA o9;have dg:¬w.heap.size+1+1+1+1+1=w.heap.size+1+1+1+1:=by omega
 have c8:=Zd (X:=[F none 0 0]) d8 0 _ rfl;have f8:=Zi d8 0;have l8:=aA d8;have c9:=Zd (X:=[E J 0]) d9 0 _ rfl;have f9:=Zi d9 0;have l9:=aA d9;have dj:=Zd bg 0 _ rfl;have ec:=aA bg;have df:¬w.heap.size+1+1+1+1=w.heap.size+1+1+1+1+1:=by omega
 have eh:¬z.heap.size+1=w.heap.size+1+1+1+1:=by omega
 have bv:=Zb (Ze bh aa)
 have HF:Hid (∀ V v5 v6,V=(Y.drew.setCell ⟨w.heap.size+1+1+1+1,0,none⟩ v5).setCell ⟨w.heap.size+1+1+1+1+1,0,none⟩ v6\/V=(Y.setCell ⟨w.heap.size+1+1+1+1,0,none⟩ v5).setCell ⟨w.heap.size+1+1+1+1+1,0,none⟩ v6\/V=((Y.setCell ⟨w.heap.size+1+1+1+1,0,none⟩ v5).setCell ⟨w.heap.size+1+1+1+1+1,0,none⟩ v6).drew->ZD w V):=by
  intro V v5 v6 hV;have hb:=Ze bh am
  rcases hV with rfl|rfl|rfl
  ·exact ((Ze hb (Zh Y)).setCell (p:=⟨w.heap.size+1+1+1+1,0,none⟩) (by show w.heap.size<=w.heap.size+1+1+1+1;omega) _).setCell (p:=⟨w.heap.size+1+1+1+1+1,0,none⟩) (by show w.heap.size<=w.heap.size+1+1+1+1+1;omega) _
  ·exact (hb.setCell (p:=⟨w.heap.size+1+1+1+1,0,none⟩) (by show w.heap.size<=w.heap.size+1+1+1+1;omega) _).setCell (p:=⟨w.heap.size+1+1+1+1+1,0,none⟩) (by show w.heap.size<=w.heap.size+1+1+1+1+1;omega) _
  ·exact Ze ((hb.setCell (p:=⟨w.heap.size+1+1+1+1,0,none⟩) (by show w.heap.size<=w.heap.size+1+1+1+1;omega) _).setCell (p:=⟨w.heap.size+1+1+1+1+1,0,none⟩) (by show w.heap.size<=w.heap.size+1+1+1+1+1;omega) _) (Zh _)
 clear hN aa br bg am d3 d4 d8 d9 o8 o9 cy an c1 c2 cf cg ci cj cl cx cz da
 have HZ:Hid (∀ (v:Value) (o1 o2:Obj),((((z.setCell ⟨w.heap.size+1+1+1+1,0,none⟩ (F none 0 0)).setCell ⟨w.heap.size+1+1+1+1+1,0,none⟩ v).alloc o1).alloc o2).cell? ⟨w.heap.size+1+1+1+1,0,none⟩=some (F none 0 0)/\((((z.setCell ⟨w.heap.size+1+1+1+1,0,none⟩ (F none 0 0)).setCell ⟨w.heap.size+1+1+1+1+1,0,none⟩ v).alloc o1).alloc o2).cell? ⟨w.heap.size+1+1+1+1+1,0,none⟩=some v):=by
  intro v o1 o2;have g4:=(Gr.refl z (λq=>q=w.heap.size+1+1+1+1)).set (p:=⟨w.heap.size+1+1+1+1,0,none⟩) (.inl rfl) (F none 0 0);have e8:=Yz (u:=F none 0 0) O8;have e9:=g4.heap O9 dg;have g5:=(Gr.refl (z.setCell ⟨w.heap.size+1+1+1+1,0,none⟩ (F none 0 0)) (λq=>q=w.heap.size+1+1+1+1+1)).set (p:=⟨w.heap.size+1+1+1+1+1,0,none⟩) (.inl rfl) v;have k9:=Yz (u:=v) e9;have k8:=g5.heap e8 df;have hb:=Ze (Zg ((z.setCell ⟨w.heap.size+1+1+1+1,0,none⟩ (F none 0 0)).setCell ⟨w.heap.size+1+1+1+1+1,0,none⟩ v) o1) (Zg _ o2);exact⟨Zc hb (Zd (X:=[F none 0 0]) k8 0 _ rfl),Zc hb (Zd (X:=[v]) k9 0 _ rfl)⟩
 rcases hy with ⟨hx,rfl⟩|⟨rfl,hu,rfl⟩
 ·have gx:(y != 0)=true:=by simp[hx]
  go_wp2;rw[<-hY];clear hY
  go_region
  go_wp2;(try simp only[Exit.inBlock,Exit.then]);refine aR (v:=dY #[F none 0 0,E J y]) ?_ rfl ?_
  ·simp[results,Tryz.f87,go_sem,c8,c9]
  ·refine Wl rfl (HF _ (F none 0 0) (E J y) ?_)
   first|exact .inl rfl|exact .inr (.inl rfl)|exact .inr (.inr rfl)
 ·have gu:((un:Int) != (m:Int))=true:=by simp;omega
  go_wp2;(try simp only[Exit.inBlock,Exit.then]);refine aR (v:=dY #[F none 0 0,E J 4]) ?_ rfl ?_
  ·obtain⟨z8,z9⟩:=HZ (E J 4) (dW #[F na nn nc] 25) (dW #[E J 0] 30);simp[results,Tryz.f87,go_sem,z8,z9]
  ·exact Wl rfl (Ze ((bv.setCell (p:=⟨w.heap.size+1+1+1+1,0,none⟩) (by show w.heap.size<=w.heap.size+1+1+1+1;omega) _).setCell (p:=⟨w.heap.size+1+1+1+1+1,0,none⟩) (by show w.heap.size<=w.heap.size+1+1+1+1+1;omega) _) (Ze (Zg _ _) (Zg _ _)))
theorem Fi(ka kn kc K la ln lc C0)(p h k0 n:Int)(a m c L ua O uc S)(x:Int)(C' w)(hE:Env w)(hK:Bk.TextsAt w ka kn K)(hC:CoinsAt w la ln C0)(sC:SlOk la ln lc)(hL:TxsAt w a m L)(hU:UndosAt w ua O S)(z:Q0 K C0 (p,h,k0,n,L) S=(x,C')) :
  Calls aB 87 #[.agg #[F ka kn kc],F la ln lc,.agg #[E J p,E J h,E J k0,E J n,F a m c],F ua O uc] w λe w'=>RvR w w' x C' e:=by
 obtain⟨⟨N,az⟩,ad⟩:=ZF (nfD K C0 (p,h,k0,n,L));have aa:L.length=m:=hL.1;unfold Q0 at z;rw[ad] at z;by_cases hz:az=0
 ·subst hz;rw[if_neg (λq=>q rfl)] at z;by_cases hl:S.length=L.length
  ·rw[if_neg (λq=>q hl)] at z;obtain⟨e1,e2,e3⟩:=Zqo ad;have ax:O=m:=(by rw[<-hU.1,hl,aa]);subst ax;have e1:N.length=O:=(by rw[<-aa];exact e1);have z:Jh L N S L.length C0=(x,C'):=z;rw[aa] at z;exact Zmr ka kn kc K la ln lc C0 p h k0 n a O c L ua uc S N x C' w hE hK hC sC hL hU (by rw[<-aa];exact e3) (by rw[<-aa];exact e2) ad e1 z
  ·rw[if_pos hl] at z;obtain⟨rfl,rfl⟩:=Prod.mk.inj z;exact Av ka kn kc K la ln lc C0 p h k0 n a m c L ua O uc N 0 4 w hE hK hC hL ad (.inr ⟨rfl,λq=>hl (by rw[hU.1,aa];exact q),rfl⟩)
 ·rw[if_pos hz] at z;obtain⟨rfl,rfl⟩:=Prod.mk.inj z;exact Av ka kn kc K la ln lc C0 p h k0 n a m c L ua O uc N az az w hE hK hC hL ad (.inl ⟨hz,rfl⟩)
theorem Vj{P:Program}{ops}{o:Oper}{a:Act}{w}{K:Act->World->Prop}{Q:Exit->Act->World->Prop}{O:Prop}
  (hw:Region.wanted o (yielded ops a.tmps)=true) (f:FuncId) (z) (he:(execOp a.eval o).run P w = .ok (.enter f z) w) {R:Ending->World->Prop} (hc:Calls P f z w R) (h:∀ e w',R e w'->∃ v,e = dX v/\K (a.put o.dst v) w') :
  if Region.wanted o (yielded ops a.tmps)=true then Oper.wp P o a w K Q else O:=by
 rw[if_pos hw];unfold Oper.wp;rw[he,Oper.upon_enter];refine hc.mono ?_;intro e w' hr;obtain⟨v,rfl,hk⟩:=h e w' hr;exact hk
def Pi(m k:Nat):List Int:=(List.range k).map λj=>(((m - j) % m:Nat):Int)
theorem Gh(m k:Nat):(Pi m k).length=k:=by simp[Pi]
theorem Zia(m k:Nat):Pi m (k+1)=Pi m k++[(((m - k) % m:Nat):Int)]:=by simp[Pi,List.range_succ]
theorem Zoe(m k j:Nat)(h:j<k):(Pi m k)[j]'(by rw[Gh];exact h)=(((m - j) % m:Nat):Int):=by simp[Pi]
theorem Zkl{L S M t}{name:Int}(h:rvD L t name S=(0,M)):Zy M:=by
 unfold rvD at h;split at h
 ·rename_i q;injection h with e _;exact absurd e q
 split at h
 ·injection h with e _;exact absurd e (by decide)
 split at h
 ·rename_i q;injection h with e _;exact absurd e q
 split at h
 ·rename_i q;injection h with e _;exact absurd e q
 split at h
 ·rename_i q;injection h with e _;exact absurd e q
 ·rename_i q;injection h with _ e;rw[<-e];exact (Z6 _).1 (Decidable.not_not.1 q)
set_option maxRecDepth 10000 in
theorem Zhl(ka kn kc K la ln lc C0)(p h k0 n:Int)(a m c T ua uc S X1)(es:Int)(N)(x:Int)(C' w)(hE:EnvF w)(hK:Bk.TextsAt w ka kn K)(sK:Bk.SlOk ka kn kc)(hR:Bk.Right K)(hC:CoinsAt w la ln C0)(sC:SlOk la ln lc)(ea:Zy C0)(hT:TxsAt w a m T)(hU:UndosAt w ua m S)(ai:Q7 K (p,h,k0,n,T)=(X1,es,N,0))(hx:Jh T N S m C0=(x,C')) :
  Calls aB 48 #[F ka kn kc,F la ln lc,.agg #[E J p,E J h,E J k0,E J n,F a m c],F ua m uc] w λe w'=>RvR w w' x C' e:=by
 obtain⟨X,hX⟩:=ZG (w.alloc (dW #[E J p,E J h,E J k0,E J n,F a m c] 68));have ah:ZD w X:=by rw[hX];exact Zg _ _
 have ag:X.heap[w.heap.size]? = some (dW [E J p,E J h,E J k0,E J n,F a m c].toArray 68 (0,0)):=by rw[hX];exact Z8 _ _ _ _ _ _ _
 have NF:=Zb (Jz ka kn kc K p h k0 n a m c T X1 es N 0 X (hE.later ah) (hK.later ah) sK hR (hT.later ah) ai);have cn:=(Qt ai).1;obtain⟨aq,gn,_,_⟩:=Ra cn;have zT:T.length=m:=hT.1;rw[show (p,h,k0,n,T).2.2.2.2=T from rfl,zT] at aq gn;have zS:S.length=m:=hU.1;have zN:N.length=m:=by rw[(Qt ai).2.2.2.2.1];simpa using zT
 have ap:∀ t∈T,Zr t=0:=(Uo cn).2.2.2.2;obtain⟨i0,hi,eo,ep,eq⟩:=info_parts Tryz.infoInt;have x0:=Zd ag 0 _ rfl;have x1:=Zd ag 1 _ rfl;have x2:=Zd ag 2 _ rfl;have x3:=Zd ag 3 _ rfl;have x4:=Zd ag 4 _ rfl;have xl:=aA ag;have df:=Zb ah;have fu:=Zb ag;have HC:=Zb (hC.later ah);have HT:=Zb (hT.later ah);have HU:=Zb (hU.later ah);have fh:=Zb ap;have fo:=Zb ea;have HX:=Zb hx;have ZT:=Zb zT;have ZS:=Zb zS;have ZN:=Zb zN;have jm:((m:Int) != (m:Int))=false:=by simp
 clear hE hK sK hR hC ea hT hU ai hx ah ag cn ap zT zS zN;go_enter func48,ntmps48;go_wp2_with fail;rw[<-hX];clear hX;(try go_wp2_with fail);refine NF.mono ?_;rintro e w1 ⟨a',n',c',na,nn,nc,rfl,_,_,hN,bn⟩;have y4:=Zc bn x4;have yl:=aC _ _ y4;obtain⟨Y,hY⟩:=ZG (w1.alloc (dW #[E J 0] 3));have co:ZD w1 Y:=by rw[hY];exact Zg _ _
 have eb:Y.heap[w1.heap.size]? = some (dW #[E J 0] 3 (0,0)):=by rw[hY];exact aK _ _
 have OW:Hid (Y.ownsRow w1.heap.size 3 1 (F (some ⟨w1.heap.size,0,none⟩) 1 1) (Pi m 1).length ((Pi m 1).map (Value.int .i64))):=by
  show World.ownsRow _ _ _ _ _ _ _;have e:(Pi m 1).map (Value.int .i64)=[E J 0]:=by simp[Pi,List.range_succ]
  rw[e,Gh];exact⟨rfl,.inr ⟨w1.heap.size,1,_,rfl,aE _,eb,aE _,by unfold cD;omega,rfl,rfl⟩⟩
 have HN:=Zb hN;have fd:=Zb bn;have il:=Zb (Ze bn co);have fv:=Zb co;clear hN bn co eb x0 x1 x2 x3 x4 xl;have eg:((m:Int) - 1)=((m - 1:Nat):Int):=by omega
 go_wp2_with fail;rw[<-hY];clear hY;(try go_wp2_with fail)
 go_loopw [14,15] (λov jf wr=>∃ (k:Nat) (oc:Nat) (g:Nat),1<=k/\k<=m/\ov = F (some ⟨g,0,none⟩) k oc/\jf = E J ((m - k:Nat):Int)/\Hid (wr.ownsRow w1.heap.size 3 1 (F (some ⟨g,0,none⟩) k oc) k ((Pi m k).map (Value.int .i64)))/\Hid (ZD w1 wr)) (λ_ jf _=>(intOf jf).toNat)
 case atStart=>
  have o1:=Za OW;rw[Gh] at o1;exact⟨1,1,w1.heap.size,aE _,aq,rfl,by rw[<-eg],o1,fv⟩
 case round=>
  obtain⟨k,oc,g,gl,gm,rfl,rfl,HO,HB⟩:=hrel;by_cases bs:k<m
  ·obtain⟨d,hd⟩:=ZF (m - k);have cq:0<d:=(by omega);have ip:(0:Int)<(d:Int):=(by omega);rw[hd];have cp:=Zg wr (dW #[E J (d:Int)] 3);have dl:=Zb ((Gr.of (S:=λ_=>False) cp).own HO (λ_ _ q=>q));have fw:=Zb (World.news_of_block (aK wr (dW #[E J (d:Int)] 3)));have an:=Zb (Ze HB cp);have fk:Hid (Pi m (k+1)=Pi m k++[(d:Int)]):=(by show _=_;rw[Zia,Nat.mod_eq_of_lt (show m - k<m by omega),hd]);have HD:=Zb hd;have iq:d<m:=(by omega);clear cp hd
   go_wp2_with (at_builtin;refine wpList_append_lies _ rfl _ _ 25 rfl w1.heap.size 3 i0 (E J 0) 1 8 underlying25 hi eo ep eq rfl (by decide) _ _ _ rfl dl ⟨wr.heap.size,0,none⟩ 1 1 [E J (d:Int)] rfl rfl fw (λu hu=>by simp at hu;subst hu;rfl) (by decide) (by unfold cD;omega) (by omega) an.size _ rfl ?_;intro g7 ds w7 eh ee gq _)
   have fz:Hid (w7.ownsRow w1.heap.size 3 1 (F (some ⟨g7,0,none⟩) (k+1) ds) (k+1) ((Pi m (k+1)).map (Value.int .i64))):=by
    show World.ownsRow _ _ _ _ _ _ _;rw[Za fk,List.map_append];exact eh
   have fe:=Zb (an.grown ee an.size (λk hk=>(dl.lt k hk).1));clear eh ee gq;have iv:IntKind.i64.wrap ((d:Int) - 1)=((m - (k+1):Nat):Int):=(by have:=Za HD;rw[bF];omega);go_wp2;go_roundw
   case rel=>exact⟨k+1,ds,g7,by omega,by omega,rfl,by have:=Za HD;go_num,fz,fe⟩
   case measure=>have:=Za HD;simp[intOf];omega
  ·have cw:m=k:=(by omega);subst cw;have cq:((m - m:Nat):Int)=0:=(by omega);rw[cq];clear gm gl bs cq hi eo ep eq eg;obtain⟨ra,jc,cy,ej⟩:=Pf HO;cases cy;obtain⟨rb,ro,cy,ei⟩:=ej.2.2 aq;cases cy
   have ga:Hid (∀ V,ZD wr V->∀ i,i<m->V.cell? ⟨g,i,none⟩=some (E J (((m - i) % m:Nat):Int))):=λV hb i hi=>by
    have q:=Zc hb (ei i hi);rw[Nat.zero_add,aZ,aS (by rw[Gh];exact hi),Zoe m m i hi] at q;exact q
   clear ej ei;have dg:=Zb (Ze fd HB);have fi:=Zb (HC.later dg);obtain⟨Z,hZ⟩:=ZG (wr);subst hZ;go_wp2_with fail
   go_loopw [1,13,49] (λlv jl jf V=>∃ (k:Nat) (oa:Option Addr) (ak oc:Nat) (C:List Zf),k<=m/\lv = F oa ak oc/\jl = E J 0/\jf = E J k/\Hid (CoinsAt V oa ak C/\SlOk oa ak oc/\Zy C)/\Hid (Jh T N S (m - k) C=(x,C'))/\Hid (ZD Z V)) (λ_ _ jf _=>m - (intOf jf).toNat)
   case atStart=>exact⟨0,la,ln,lc,C0,aP _,rfl,rfl,rfl,(⟨Za fi,sC,Za fo⟩:CoinsAt Z la ln C0/\SlOk la ln lc/\Zy C0),HX,(⟨rfl,rfl,rfl,aE _,λ_ _=>rfl⟩:ZD Z Z)⟩
   case round=>
    obtain⟨k,oa,ak,oc,C,hk,rfl,rfl,rfl,HO,HQ,HV⟩:=hrel;have av:=Zb (Ze dg HV);have db:=ZE av fu;have v4:=Zd db 4 _ rfl;have vl:=aA db;clear db;by_cases bs:k<m
    ·have br:(m - k) % m<m:=Nat.mod_lt _ aq;have ok:=ga wr HV k bs;have iz:=aC _ _ ok;obtain⟨i,hi⟩:=ZF ((m - k) % m);rw[hi] at br ok;have cx:m - k=(m - (k+1))+1:=(by omega);have bq:i<T.length:=(by rw[Za ZT];exact br);have ct:i<N.length:=(by rw[Za ZN];exact br);have cu:i<S.length:=(by rw[Za ZS];exact br);obtain⟨t1,I,jg,ht⟩:∃ t1 I jg,T[i]=(t1,I,jg):=⟨_,_,_,rfl⟩;obtain⟨nm,ai⟩:=ZF (N[i]);obtain⟨s,hs⟩:=ZF (S[i]);obtain⟨y,M,bt⟩:∃ y M,rvD C (t1,I,jg) nm s=(y,M):=⟨_,_,rfl⟩;have aw:=Za HQ;rw[cx,Zbx (i:=i) (by rw[Za ZT,<-cx];exact hi) (t:=(t1,I,jg)) (by rw[aZ,aS bq];exact ht) (nm:=nm) (by rw[aZ,aS ct];exact ai) (s:=s) (by rw[aZ,aS cu];exact hs) bt] at aw;have aw:=Zb aw;obtain⟨tb,am,rfl,_,ek⟩:=HT.2 aq;have tc:=ek i bq;have ap:=fh T[i] (List.getElem_mem bq);rw[ht] at tc ap;obtain⟨c0,⟨jh,ni,ji,c1,ci,gx⟩,ao,be,jj,c2,cj,gy⟩:=tc;obtain⟨ub,uo,rfl,_,en⟩:=HU.2 aq;obtain⟨sa,ns,cs,c3,cl,gz⟩:=en i cu;rw[hs] at cl;have gp:nn=m:=HN.1.symm.trans ZN;obtain⟨nb,no,rfl,ed⟩:=HN.2 (by omega);have c4:=ed i ct;rw[ai] at c4;simp only at c0 c1 c2 ci cj
     have RV:Hid (∀ U,ZD wr U->Calls aB 90 #[F oa ak oc,.agg #[E J t1,F jh ni ji,F ao be jj],E J nm,.agg #[F sa ns cs]] U λe w'=>RvR U w' y M e):=λU hb=>
      have hx:=Ze av hb
      Bp oa ak oc C t1 jh ao ni ji be jj I jg nm sa ns cs s y M U (HO.1.later hb) HO.2.1 (ci.later hx) (cj.later hx) (cl.later hx) HO.2.2 ap bt
     have KS:Hid (∀ U,ZD wr U->ZD wr U/\U.cell? ⟨w.heap.size,4,none⟩=some (F (some ⟨tb,am,none⟩) m c)/\U.cell? ⟨tb,am+i*3,none⟩=some (E J t1)/\U.cell? ⟨tb,am+i*3+1,none⟩=some (F jh ni ji)/\U.cell? ⟨tb,am+i*3+2,none⟩=some (F ao be jj)/\U.cell? ⟨nb,no+i,none⟩=some (E J nm)/\U.cell? ⟨ub,uo+i,none⟩=some (F sa ns cs)):=λU hb=>by
      have hx:=Ze av hb;have h1:=Ze (Ze HB HV) hb;exact⟨hb,Zc hb v4,Zc hx c0,Zc hx c1,Zc hx c2,Zc h1 c4,Zc hx c3⟩
     have fp:=Zb bt;have iu:(k:Int)<(m:Int):=(by omega);have it:(i:Int)<(m:Int):=(by omega);have ir:¬((i:Int)<0):=(by omega);subst gp;clear c0 c1 c2 c3 c4 ci cj cl ed en ek hs ai ht ap gx gy gz bt hi cx bq ct cu v4 vl;go_wp2_with fail;refine wp_region_held_drew (S:=λU=>ZD wr U/\U.cell? ⟨w.heap.size,4,none⟩=some (F (some ⟨tb,am,none⟩) nn c)/\U.cell? ⟨tb,am+i*3,none⟩=some (E J t1)/\U.cell? ⟨tb,am+i*3+1,none⟩=some (F jh ni ji)/\U.cell? ⟨tb,am+i*3+2,none⟩=some (F ao be jj)/\U.cell? ⟨nb,no+i,none⟩=some (E J nm)/\U.cell? ⟨ub,uo+i,none⟩=some (F sa ns cs)) (by kernel_rfl) (KS _ (Zh _)) (λz=>?_);refine Zt 0 ⟨some 54,.move (.tmp 1),29, "second.go:300",#[],none⟩ ?_ rfl ?_ z ?_;rotate_left
     ·(intro W O;go_simp;first|done|with_reducible rfl)
     (try simp only[aH,ZA,ZB,ZC]);refine Zt 1 ⟨some 55,.fieldAddr 68 (.tmp 6) 4,0, "second.go:300",#[],none⟩ ?_ rfl ?_ z ?_;rotate_left
     ·(intro W O;go_simp;first|done|with_reducible rfl)
     (try simp only[aH,ZA,ZB,ZC]);refine Zt 2 ⟨some 56,.load 48 (.tmp 55),48, "second.go:300",#[⟨1,.data⟩],none⟩ ?_ rfl ?_ z ?_;rotate_left
     ·(intro W O;go_simp;first|done|with_reducible rfl)
     (try simp only[aH,ZA,ZB,ZC]);refine Zt 3 ⟨some 57,.move (.tmp 17),3, "second.go:300",#[],none⟩ ?_ rfl ?_ z ?_;rotate_left
     ·(intro W O;go_simp;first|done|with_reducible rfl)
     (try simp only[aH,ZA,ZB,ZC]);refine Zt 4 ⟨some 58,.indexAddr 48 (.tmp 56) (.tmp 57),0, "second.go:300",#[⟨2,.data⟩,⟨3,.data⟩],none⟩ ?_ rfl ?_ z ?_;rotate_left
     ·(intro W O;go_simp;first|done|with_reducible rfl)
     (try simp only[aH,ZA,ZB,ZC]);refine Zt 5 ⟨some 59,.load 52 (.tmp 58),52, "second.go:300",#[⟨4,.data⟩],none⟩ ?_ rfl ?_ z ?_;rotate_left
     ·(intro W O;go_simp;first|done|with_reducible rfl)
     (try simp only[aH,ZA,ZB,ZC]);refine Zt 6 ⟨some 60,.move (.tmp 12),25, "second.go:300",#[],none⟩ ?_ rfl ?_ z ?_;rotate_left
     ·(intro W O;go_simp;first|done|with_reducible rfl)
     (try simp only[aH,ZA,ZB,ZC]);refine Zt 7 ⟨some 61,.move (.tmp 17),3, "second.go:300",#[],none⟩ ?_ rfl ?_ z ?_;rotate_left
     ·(intro W O;go_simp;first|done|with_reducible rfl)
     (try simp only[aH,ZA,ZB,ZC]);refine Zt 8 ⟨some 62,.indexAddr 25 (.tmp 60) (.tmp 61),0, "second.go:300",#[⟨6,.data⟩,⟨7,.data⟩],none⟩ ?_ rfl ?_ z ?_;rotate_left
     ·(intro W O;go_simp;first|done|with_reducible rfl)
     (try simp only[aH,ZA,ZB,ZC]);refine Zt 9 ⟨some 63,.load 3 (.tmp 62),3, "second.go:300",#[⟨8,.data⟩],none⟩ ?_ rfl ?_ z ?_;rotate_left
     ·(intro W O;go_simp;first|done|with_reducible rfl)
     (try simp only[aH,ZA,ZB,ZC]);refine Zt 10 ⟨some 64,.move (.tmp 3),79, "second.go:300",#[],none⟩ ?_ rfl ?_ z ?_;rotate_left
     ·(intro W O;go_simp;first|done|with_reducible rfl)
     (try simp only[aH,ZA,ZB,ZC]);refine Zt 11 ⟨some 65,.move (.tmp 17),3, "second.go:300",#[],none⟩ ?_ rfl ?_ z ?_;rotate_left
     ·(intro W O;go_simp;first|done|with_reducible rfl)
     (try simp only[aH,ZA,ZB,ZC]);refine Zt 12 ⟨some 66,.indexAddr 79 (.tmp 64) (.tmp 65),0, "second.go:300",#[⟨10,.data⟩,⟨11,.data⟩],none⟩ ?_ rfl ?_ z ?_;rotate_left
     ·(intro W O;go_simp;first|done|with_reducible rfl)
     (try simp only[aH,ZA,ZB,ZC]);refine Zt 13 ⟨some 67,.load 130 (.tmp 66),130, "second.go:300",#[⟨12,.data⟩],none⟩ ?_ rfl ?_ z ?_;rotate_left
     ·(intro W O;go_simp;first|done|with_reducible rfl)
     (try simp only[aH,ZA,ZB,ZC]);refine wpAnyH_ready (rs:=[14]) (by kernel_rfl) (by simp) ?_;refine AllReadyH.cons (o:=⟨some 68,.call { callee:=Callee.value (.func 90),args:=#[.tmp 54,.tmp 59,.tmp 63,.tmp 67],argTypes:=#[29,52,3,130] },31, "second.go:300",#[⟨0,.data⟩,⟨5,.data⟩,⟨9,.data⟩,⟨13,.data⟩],none⟩) rfl (λK hK=>?_) AllReadyH.nil;refine Vj (by kernel_rfl) 90 #[F oa ak oc,.agg #[E J t1,F jh ni ji,F ao be jj],E J nm,.agg #[F sa ns cs]] (by kernel_rfl) (RV _ z.1) ?_;rintro e w6 ⟨jk,dd,cm,rfl,dx,ev,ec⟩;refine⟨_,rfl,?_⟩;have fj:=Zb dx;have gc:=Zb ev;have an:=Zb (Ze z.1 ec);clear dx ev ec;refine hK.out _ _ (KS _ an) (λdq=>?_);clear hK K z;have z:=dq;clear dq;(try simp only[aH,ZA,ZB,ZC]);refine Zt 15 ⟨some 53,.move (.tmp 68),31, "second.go:300",#[⟨14,.data⟩],none⟩ ?_ rfl ?_ z ?_;rotate_left
     ·(intro W O;go_simp;first|done|with_reducible rfl)
     (try simp only[aH,ZA,ZB,ZC]);refine Zt 16 ⟨some 69,.extract (.tmp 53) 0,29, "second.go:300",#[⟨15,.data⟩],none⟩ ?_ rfl ?_ z ?_;rotate_left
     ·(intro W O;go_simp;first|done|with_reducible rfl)
     (try simp only[aH,ZA,ZB,ZC]);refine Zt 17 ⟨some 70,.extract (.tmp 53) 1,30, "second.go:300",#[⟨15,.data⟩,⟨18,.gcOnly .lateStores⟩],none⟩ ?_ rfl ?_ z ?_;rotate_left
     ·(intro W O;go_simp;first|done|with_reducible rfl)
     (try simp only[aH,ZA,ZB,ZC]);refine Zt 18 ⟨some 1,.assign (.tmp 69),29, "second.go:300",#[⟨16,.data⟩,⟨14,.chain⟩,⟨0,.phase⟩,⟨1,.phase⟩,⟨2,.phase⟩,⟨3,.phase⟩,⟨4,.phase⟩,⟨5,.phase⟩,⟨6,.phase⟩,⟨7,.phase⟩,⟨8,.phase⟩,⟨9,.phase⟩,⟨10,.phase⟩,⟨11,.phase⟩,⟨12,.phase⟩,⟨13,.phase⟩,⟨14,.phase⟩,⟨15,.phase⟩,⟨16,.phase⟩,⟨17,.textOnly .lateStores⟩],none⟩ ?_ rfl ?_ z ?_;rotate_left
     ·(intro W O;go_simp;first|done|with_reducible rfl)
     (try simp only[aH,ZA,ZB,ZC]);refine Zt 19 ⟨some 13,.assign (.tmp 70),30, "second.go:300",#[⟨17,.data⟩,⟨18,.chain⟩,⟨0,.phase⟩,⟨1,.phase⟩,⟨2,.phase⟩,⟨3,.phase⟩,⟨4,.phase⟩,⟨5,.phase⟩,⟨6,.phase⟩,⟨7,.phase⟩,⟨8,.phase⟩,⟨9,.phase⟩,⟨10,.phase⟩,⟨11,.phase⟩,⟨12,.phase⟩,⟨13,.phase⟩,⟨14,.phase⟩,⟨15,.phase⟩,⟨16,.phase⟩,⟨17,.phase⟩,⟨18,.phase⟩],none⟩ ?_ rfl ?_ z ?_;rotate_left
     ·(intro W O;go_simp;first|done|with_reducible rfl)
     (try simp only[aH,ZA,ZB,ZC]);refine wpAnyH_done (by kernel_rfl) ?_ _;have ff:=Zb (Ze HV an);have cc:=Zb (Ze df (Ze av an));clear z;by_cases ey:y=0
     ·subst ey;have fl:Hid (Jh T N S (nn - (k+1)) M=(x,C')):=(by have e:=Za aw;rw[if_neg (by decide)] at e;exact e);have fm:=Zb (Zkl fp);go_wp2;go_roundw
      case rel=>exact⟨k+1,jk,dd,cm,M,by omega,rfl,rfl,by go_num,(⟨Za fj,Za gc,Za fm⟩:CoinsAt w6 jk dd M/\SlOk jk dd cm/\Zy M),fl,ff⟩
      case measure=>simp[intOf];omega
     ·have g:(y != 0)=true:=(by simp[ey]);have cb:Hid ((x,C')=(y,([]:List Zf))):=(by have e:=Za aw;rw[if_pos ey] at e;exact e.symm);go_wp2;go_ret2;exact Wl cb cc
    ·have cw:m=k:=(by omega);subst cw;have cb:Hid ((0,C)=(x,C')):=(by have e:=Za HQ;rw[Nat.sub_self] at e;exact e);have cc:=Zb (Ze df av);clear bs;go_wp2;go_ret2;obtain⟨e1,e2⟩:=Prod.mk.inj cb;subst e1 e2;exact⟨oa,ak,oc,rfl,HO.1,HO.2.1,Za cc⟩
set_option maxRecDepth 10000 in
theorem Zdc(h r:Int)(w:World)(h1:1<=h)(h2:h<=1000)(z:rwD h=(r,0)) :
  ZH 71 #[E J h] w (E J r):=by
 have e:r=(rwN ((h - 1).toNat / 8):Nat):=by
  unfold rwD at z;rw[if_pos (by simp only[Bool.and_eq_true,decide_eq_true_eq];omega)] at z;injection z with e _;exact e.symm
 have HE:=Zb e;clear z e;go_enter func71,ntmps71;go_wp2
 go_loopw [3,4] (λnv hv wr=>∃ k q:Nat,nv = E J q/\hv = E J ((8:Int)+8*k)/\(8:Int)*k<h/\Hid (q=rwN k)/\wr=w) (λ_ hv _=>(h+8 - intOf hv).toNat)
 case atStart=>exact⟨0,64,rfl,rfl,by omega,rfl,rfl⟩
 case round=>
  obtain⟨k,q,rfl,rfl,hk,O,rfl⟩:=hrel;have hq:q<=64:=by rw[Za O];exact He k
  have ah:(0:Int)<=(q:Int):=by omega
  have ai:(q:Int)<=64:=by omega
  by_cases af:(8:Int)+8*k<h
  ·have aj:IntKind.i64.wrap ((8:Int)+8*k+8)=(8:Int)+8*k+8:=(by rw[bF];omega);have Q2:Hid (q / 2=rwN (k+1)):=(by show _=rwN k / 2;rw[Za O]);go_wp2;go_roundw
   case rel=>exact⟨k+1,q / 2,by go_num,by go_num,by omega,Q2,by first|rfl|trivial⟩
   case measure=>simp[intOf];omega
  ·have R:Hid (r=(q:Int)):=by
    show _=_;rw[Za HE,Za O]
    congr 2
    omega
   go_wp2;go_ret;exact⟨by rw[Za R];rfl,Below.refl _ _⟩
set_option maxRecDepth 10000 in
theorem Zfk(sa)(ns cs:Nat)(S)(ht:Int)(cp ao)(ni ci no co:Nat)(cn)(x:Int)(w:World)(cl:ns<=6)(cj:no<=6)(hS:CoinsAt w sa ns S)(hO:OutsAt w ao no cn)
  (hs:∀ c∈S,0<=cv c/\cv c<=1000000000) (ho:∀ c∈cn,0<=c.1/\c.1<=1000000000) (hx:Yg S - Ys cn=x) :
  ZH 61 #[.agg #[E J ht,F cp ni ci,F ao no co],F sa ns cs] w (E J x):=by
 obtain⟨X0,ah⟩:=ZG (w.alloc (dW #[E J ht,F cp ni ci,F ao no co] 52));have ai:ZD w X0:=by rw[ah];exact Zg _ _
 have bg:X0.heap[w.heap.size]? = some (dW [E J ht,F cp ni ci,F ao no co].toArray 52 (0,0)):=by rw[ah];exact Zs _ _ _ _ _
 have am:=Zb (λk=>L0 S k hs);have bd:=Zb (λk=>Lz cn k ho);have HS:=Zb (hS.later ai);have HO:=Zb (hO.later ai);have bf:=Zb hS.1;have be:=Zb hO.1;have HX:=Zb hx;have bu:=Zb bg;have bo:=Zb ai;clear hS hO hs ho hx bg ai;go_enter func61,ntmps61;go_wp2;rw[<-ah];clear ah
 go_loopw [5,12] (λsv i wr=>∃ (k:Nat) (s:Int),k<=ns/\sv = E J s/\i = E J k/\Hid (s=Yg (S.take k))/\Hid (ZD X0 wr)) (λ_ i _=>ns - (intOf i).toNat)
 case atStart=>exact⟨0,0,aP _,rfl,rfl,rfl,Below.refl _ _⟩
 case round=>
  obtain⟨k,s,hk,rfl,rfl,A,HB⟩:=hrel;by_cases ax:k<ns
  ·have ad:k<S.length:=(by rw[Za bf];exact ax);obtain⟨b,off,rfl,bw,av⟩:=HS.2 (by omega);have ab:=CoinAt.kept _ _ _ _ _ HB (av k ad);have b1:=am k;have b2:=am (k+1);have O:=Hc S k ad;obtain⟨c,hc⟩:=ZF (S[k]);rw[hc] at ab O;obtain⟨la,ln,lc,g0,g1,g2,g3,g4,g5,_,_⟩:=ab.val;obtain⟨v,hv⟩:=ZF (cv c);rw[hv] at g2 O;rw[<-Za A] at b1 O;rw[O] at b2;have A2:Hid (s+v=Yg (S.take (k+1))):=O.symm;have al:=Zb (Ze HB (Zg wr (dW #[E J c.1,E J c.2.1,E J v,F la ln lc,E J (ch c),eA (cr c)] 103)));have bz:IntKind.i64.wrap (s+v)=s+v:=(by rw[bF];omega);clear ab hc O A;go_wp2;go_roundw
   case rel=>exact⟨k+1,s+v,by omega,rfl,by go_num,A2,al⟩
   case measure=>simp[intOf];omega
  ·have e:k=ns:=(by omega);subst e
   have A2:Hid (s=Yg S):=by
    show _=_;rw[Za A,aY (by rw[Za bf];exact aE _)]
   have b1:=am k;rw[<-Za A] at b1;have hh:=ZE HB bu;have c2:=Zd hh 2 _ rfl;have hl:=aA hh;clear A hh;go_wp2
   go_loopw [5,25] (λsv i ca=>∃ (j:Nat) (d:Int),j<=no/\sv = E J d/\i = E J j/\Hid (d=s - Ys (cn.take j))/\Hid (ZD X0 ca)) (λ_ i _=>no - (intOf i).toNat)
   case atStart=>exact⟨0,s,aP _,rfl,rfl,(by simp[Ys]:s=s - Ys (cn.take 0)),HB⟩
   case round=>
    obtain⟨j,d,hj,rfl,rfl,D,HD⟩:=hrel;have aj:=Za HD;by_cases ax:j<no
    ·have ad:j<cn.length:=(by rw[Za be];exact ax);obtain⟨b,off,rfl,bw,av⟩:=HO.2 (by omega);have ab:=OutAt.kept _ _ _ _ _ aj (av j ad);have d1:=bd j;have d2:=bd (j+1);have O:=Tz cn j ad;obtain⟨o,hc⟩:=ZF (cn[j]);rw[hc] at ab O;obtain⟨q1,q2⟩:=o;obtain⟨g0,la,ln,lc,g1,_,_⟩:=ab;simp only at g0 g1 O;have hd:d=s - Ys (cn.take j):=Za D;have A3:Hid (d - q1=s - Ys (cn.take (j+1))):=(by show _=_;rw[O];omega);have al:=Zb (Ze HD (Zg wr (dW #[E J q1,F la ln lc] 101)));have bz:IntKind.i64.wrap (d - q1)=d - q1:=(by rw[bF];omega);clear hc O D hd d1 d2 aj;go_wp2;go_roundw
     case rel=>exact⟨j+1,d - q1,by omega,rfl,by go_num,A3,al⟩
     case measure=>simp[intOf];omega
    ·have e:j=no:=(by omega);subst e
     have hd:d=Yg S - Ys cn:=by
      have:=Za D;rw[aY (by rw[Za be];exact aE _),Za A2] at this;exact this
     have bq:=Zb (Ze bo aj);have R:Hid (x=d):=(by show _=_;rw[<-Za HX,hd]);clear aj D hd;go_wp2;go_ret;exact⟨by rw[Za R];rfl,Za bq⟩
theorem Zct(z:Array Value)(n:Nat):(Builtin.zeroCells z n).size=n*z.size:=by simp[Builtin.zeroCells]
theorem Zio(n:Nat)(w:World)(hn:n<=4096) :
  Calls aB 152 #[F none 0 0,E J n] w λe w'=>∃ v,e = dX v/\w'.ownsRow w.heap.size 103 6 v 0 []/\ZD w w':=by
 obtain⟨i0,hi,aa,ab,ac⟩:=info_parts Tryz.infoCoin;by_cases h:n=0
 ·subst h;exact (Any8.slices_Grow_room Tryz.growC none 0 0 0 w (aE _) (by omega) (by omega) (by omega)).mono λe w' ⟨h1,h2⟩=>⟨_,h1,⟨rfl,Or.inl ⟨rfl,rfl⟩⟩,h2 ▸ Below.refl _ _⟩
 ·refine (Any8.slices_Grow_grow Tryz.growC i0 zeroC hi aa (by rw[ab];decide) none 0 0 n [] w (aE _) (by omega) (by rw[ac];omega) (by omega) (by simp) (λ_=>rfl) (λa h=>by cases h)).mono λe w' ⟨h1,h2⟩=>⟨_,h1,?_,?_⟩
  ·rw[h2];have ae:=grownCap_ge w (0+n) 0 (Tryz.growC_ren.t 25);have O:=grownCap_le_maxLen w (0+n) 0 (Tryz.growC_ren.t 25) (by unfold cD;omega);refine⟨rfl,Or.inr ⟨w.heap.size,_,_,rfl,aE _,aK _ _,aP _,O,?_,rfl⟩⟩;simp only[Array.size_append,Zct,List.size_toArray,List.length_nil];show 0+(0+n - 0)*6+_*6=_*6;omega
  ·rw[h2];exact⟨rfl,rfl,rfl,by simp,λk z=>Below.heap_alloc w.drew _ k z⟩
theorem Zmi(K)(M):Zk K++Zk M=Zk (K++M):=(Z0 K M).symm
set_option maxRecDepth 100000 in
theorem Lc(B:Nat)(x y:Addr)(z ah len cap:Nat)(k l:List CV)(w:World)(bh:z+len<=4096)(au:k.length=z)(av:l.length=len)
  (hK:∀ j u,(Zk k)[j]? = some u->w.cell? (x.add j)=some u) (hL:∀ j u,(Zk l)[j]? = some u->w.cell? (y.add j)=some u)
  (c0:w.cell? ⟨B,0,none⟩=some (F (some x) z ah)) (c1:w.cell? ⟨B,1,none⟩=some (F (some y) len cap)) :
  Calls aB 112 #[F (some ⟨B,0,none⟩) 2 2] w λe w'=>∃ v,e = dX v/\w'.ownsRow w.heap.size 103 6 v (z+len) (Zk (k++l))/\ZD w w':=by
 obtain⟨i0,hi,ap,aq,ar⟩:=info_parts Tryz.infoCoin;have ab:B<w.heap.size:=aC _ _ c0;have HK:=Zb hK;have HL:=Zb hL;have bb:=Zb au;have bc:=Zb av;clear hK hL au av;go_enter func112,ntmps112;go_wp2;refine aQ 3 ?_;rw[aL];go_wp2;rw[aL];go_wp2;rw[aL];have GR:=Zb (Zio (z+len) w bh);rw[Int.natCast_add] at GR;go_wp2_with fail;refine GR.mono ?_;rintro e w1 ⟨v,rfl,ao,ac⟩;have af:=Zb ao;have aa:=Zb ac;have bd:=(ac.cell (p:=⟨B,0,none⟩) ab).trans c0;have bf:=(ac.cell (p:=⟨B,1,none⟩) ab).trans c1;clear ao ac;go_wp2;refine aQ 3 ?_;rw[aL]
 go_wp2_with (at_builtin;refine dV _ rfl _ _ 29 rfl w.heap.size 103 i0 zeroC 6 64 bR hi ap aq ar rfl (by decide) _ _ _ rfl af x z ah (Zk k) rfl (by rw[Z9,Za bb]) (λj u hj=>Zc aa (HK j u hj)) (Xs k) (by unfold cD;omega) (by omega) aa.size ?_;intro v1 w2 am ak _)
 have ag:Hid (w2.ownsRow w.heap.size 103 6 v1 (0+z) (Zk k)):=Zb (by simpa using am);have O:=Zb (aa.grown ak aa.size (Y6 af));have be:=(O.cell (p:=⟨B,0,none⟩) ab).trans c0;have bg:=(O.cell (p:=⟨B,1,none⟩) ab).trans c1;clear am ak;clear bd bf;go_wp2;rw[aL]
 go_wp2_with (at_builtin;refine dV _ rfl _ _ 29 rfl w.heap.size 103 i0 zeroC 6 64 bR hi ap aq ar rfl (by decide) _ _ _ rfl ag y len cap (Zk l) rfl (by rw[Z9,Za bc]) (λj u hj=>Zc O (HL j u hj)) (Xs l) (by unfold cD;omega) (by omega) O.size ?_;intro v2 w3 an al _)
 have ba:Hid (w3.ownsRow w.heap.size 103 6 v2 (z+len) (Zk (k++l))):=by
  have q:=an;rw[Zmi,Nat.zero_add] at q;exact q
 have ax:=Zb (O.grown al O.size (Y6 ag));clear an al be bg;go_wp2;rw[aL];go_wp2;go_ret;exact⟨v2,rfl,Za ba,Za ax⟩
theorem Yp(n:Int)(b:Bool)(w)(z:b=fit n) :
  Calls aB 178 #[E J n] w λe w'=>e = dX (eA b)/\w=w':=by
 subst z;by_cases h1 : -1000000<=n
 ·by_cases h2:n<=1000000
  ·have e:fit n=true:=(Yf n).2 ⟨h1,h2⟩;rw[e];clear e;go_enter func178,ntmps178;go_wp2;go_ret;exact⟨rfl,rfl⟩
  ·have e:fit n=false:=(Mc n).2 (by omega);have h3:decide (n<=1000000)=false:=(by simp;omega);rw[e];clear e;go_enter func178,ntmps178;go_wp2;go_ret;exact⟨rfl,rfl⟩
 ·have e:fit n=false:=(Mc n).2 (by omega);have h3:n < -1000000:=by omega
  rw[e];clear e h1;go_enter func178,ntmps178;go_wp2;go_ret;exact⟨rfl,rfl⟩
theorem Hp(b:Bool)(w:World) :
  Calls aB 177 #[eA b] w λe w'=>e = dX (F (some ⟨w.heap.size,0,none⟩) 1 1)/\w'=w.alloc (dW #[E J (b01 b)] 3):=by
 cases b
 all_goals
  go_enter func177,ntmps177;go_wp2;go_ret;exact⟨rfl,rfl⟩
theorem Xf(M)(a:Int):Xr (M++[a])=some M:=by simp[Xr]
theorem Wc(M)(a:Int):Rd (M++[a])=a:=by simp[Rd]
theorem Qi(M)(a b:Int):Xr (M++[a,b])=some (M++[a]):=by
 rw[show M++[a,b]=(M++[a])++[b] by simp];exact Xf _ _
theorem Js(M)(a b:Int):Rd (M++[a,b])=b:=by
 rw[show M++[a,b]=(M++[a])++[b] by simp];exact Wc _ _
theorem Zgv(h n:Int)(L):Yi h 1 n L=Yn L [n]:=by simp[Yi,Yn]
theorem Eu(h n:Int)(L):Yi h 12 n L=Yn L [h]:=by simp[Yi,Yn]
theorem Zka(h n:Int)(M)(a:Int):Yi h 2 n (M++[a])=Yn M [a,a]:=by
 simp[Yi,Yn,Xf,Wc]
theorem Zgy(h n:Int)(M)(a:Int):Yi h 4 n (M++[a])=some M:=by simp[Yi,Xf]
theorem Zjy(h n:Int)(M)(a:Int):Yi h 9 n (M++[a])=Yn M [b01 (a == 0)]:=by
 simp[Yi,Yn,Xf,Wc,g1]
theorem Zjz(h n:Int)(M)(a:Int):Yi h 13 n (M++[a])=Yn M [Zbg a]:=by
 simp[Yi,Yn,Xf,Wc,g1]
theorem Ke(h n:Int)(M)(a:Int):Yi h 11 n (M++[a])=if a=0 then none else some M:=by
 simp[Yi,Xf,Wc]
theorem Zgt(h n:Int)(M)(a b:Int):Yi h 3 n (M++[a,b])=Yn M [b,a]:=by
 simp[Yi,Yn,Qi,Js,Xf,Wc]
theorem Zkc(h n:Int)(M)(a b:Int):Yi h 5 n (M++[a,b])=Yn M [a+b]:=by
 simp[Yi,Yn,Qi,Js,Xf,Wc,g2]
theorem Zjx(h n:Int)(M)(a b:Int):Yi h 6 n (M++[a,b])=Yn M [a - b]:=by
 simp[Yi,Yn,Qi,Js,Xf,Wc,g2]
theorem Zgu(h n:Int)(M)(a b:Int):Yi h 7 n (M++[a,b])=Yn M [b01 (a == b)]:=by
 simp[Yi,Yn,Qi,Js,Xf,Wc,g2]
theorem Zgx(h n:Int)(M)(a b:Int):Yi h 8 n (M++[a,b])=Yn M [b01 (decide (a<b))]:=by
 simp[Yi,Yn,Qi,Js,Xf,Wc,g2]
theorem Zkb(h n:Int)(M)(a b:Int):Yi h 10 n (M++[a,b])=Yn M [b01 (a != 0 && b != 0)]:=by
 simp[Yi,Yn,Qi,Js,Xf,Wc,g2]
theorem Au:Xr []=none:=rfl
theorem Wx(h k n:Int)(z:k≠1)(O:k≠12):Yi h k n []=none:=by
 simp[Yi,Au,z,O]
theorem Ju(h k n a:Int)(z:k=3\/k=5\/k=6\/k=7\/k=8\/k=10):Yi h k n [a]=none:=by
 have e:Xr [a]=some []:=rfl
 rcases z with rfl|rfl|rfl|rfl|rfl|rfl <;> simp[Yi,e,Au]
theorem Wg{L:List Int}(h:1<=L.length):∃ M a,L=M++[a]:=by
 have z:L≠[]:=λe=>by subst e;simp at h
 exact⟨L.dropLast,L.getLast z,(List.dropLast_concat_getLast z).symm⟩
theorem J1{L:List Int}(h:2<=L.length):∃ M a b,L=M++[a,b]:=by
 obtain⟨M,b,rfl⟩:=Wg (L:=L) (by omega);obtain⟨N,a,rfl⟩:=Wg (L:=M) (by simp at h;omega);exact⟨N,a,b,by simp⟩
theorem Wf{M:List Int}{x:Int}(h1:M.length<16)(h2:fit x=true):Yn M [x]=some (M++[x]):=by
 have:¬M.length=16:=by omega
 simp[Yn,Jj,this,h2]
theorem Xn{M:List Int}{x:Int}{r}(h1:M.length=16):Yn M (x :: r)=none:=by simp[Yn,Jj,h1]
theorem Xu{M}{x:Int}{r}(h2:fit x=false):Yn M (x :: r)=none:=by simp[Yn,Jj,h2]
theorem Ge{M:List Int}{x y:Int}(h1:M.length<16)(h2:fit x=true):Yn M [x,y]=Yn (M++[x]) [y]:=by
 have:¬M.length=16:=by omega
 simp[Yn,Jj,this,h2]
theorem Tc{L:List Int}(h:Yj L=true):L.length<=16/\∀ x∈L,fit x=true:=by
 simpa[Yj] using h
