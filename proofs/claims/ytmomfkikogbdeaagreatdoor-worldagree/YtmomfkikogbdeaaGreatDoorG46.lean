import Derived.Test.YtmomfkikogbdeaaGreatDoorH
import Derived.Test.YtmomfkikogbdeaaGreatDoorG45
import Derived.Test.YtmomfkikogbdeaaGreatDoorG44
open Go.Proofs.Tryz
open Go renaming lt_of_block->aA,heap_alloc_new->aG,bodyPost_ret->bB,maxLen->cK,wp_region_held_drew->dD
open Go.Ending renaming returned->dF
open Go.IntKind renaming i64->J
open Go.Obj renaming cells->dE
open Go.Proofs.Tryz renaming prog->aB
open Go.Value renaming int->E,slice->F,tuple->dG,bool->dI
open Go.World renaming block_lt_of_cell?->aE
open List renaming replicate->aR
open Nat renaming le_of_eq->cO,zero_le->aI,lt_of_lt_of_le->aD,le_trans->aN
set_option maxHeartbeats 25600000
set_option maxRecDepth 10000
namespace Go.Proofs.YtmomfkikogbdeaaGreatDoor
open Go.RowKit
def n0:Ye:=([],[],[],0)
def nzC(c:Nat):List Value:=(aR c [F none 0 0,F none 0 0,F none 0 0,E J 0]).flatten
def sdL(X:Nat->Int)(L k:Nat):List Value:=(List.range L).map (λj=>E J (if j<k then X j else 0))
theorem Ziu(X:Nat->Int)(L:Nat):sdL X L 0=aR L (E J 0):=by
 unfold sdL;refine List.ext_getElem (by simp) (λi h1 h2=>by simp)
theorem Zmz(X:Nat->Int){L k:Nat}(hk:k<L):(sdL X L k)[k]? = some (E J 0):=by
 unfold sdL;simp[hk]
theorem Zdn(X:Nat->Int){L k:Nat}(_hk:k<L):(sdL X L k).set k (E J (X k))=sdL X L (k+1):=by
 unfold sdL;refine List.ext_getElem (by simp) (λi h1 h2=>?_);rw[List.getElem_set];simp only[List.getElem_map,List.getElem_range];by_cases e:k=i
 ·subst e;simp
 ·rw[if_neg e];by_cases q:i<k
  ·rw[if_pos q,if_pos (by omega)]
  ·rw[if_neg q,if_neg (by omega)]
theorem Zfw{w:World}{g c:Nat}(h1:1<=c)(h4:c<=4)(h:w.heap[g]? = some (dE (nzC c).toArray 67 (0,0))):NodsAt w (some ⟨g,0,none⟩) c (aR c n0):=by
 refine⟨by simp,λ_=>⟨g,0,rfl,aA h,λj hj=>?_⟩⟩;have nil:Tr.IntsAt w none 0 []/\Tr.BlksAt w none 0 []/\TxsAt w none 0 []:=⟨⟨rfl,λh=>absurd h (by decide)⟩,RowsAt.nil _ _,RowsAt.nil _ _⟩;rw[List.getElem_replicate];have af:j<c:=by simpa using hj
 have ab:∀ i,i<4->(nzC c)[j*4+i]? = ([F none 0 0,F none 0 0,F none 0 0,E J 0]:List Value)[i]?:=λi hi=>by
  clear h nil;have qc:c=1\/c=2\/c=3\/c=4:=by omega
  have qj:j=0\/j=1\/j=2\/j=3:=by omega
  have qi:i=0\/i=1\/i=2\/i=3:=by omega
  rcases qc with rfl|rfl|rfl|rfl <;> rcases qj with rfl|rfl|rfl|rfl <;> rcases qi with rfl|rfl|rfl|rfl <;> first|rfl|omega
 have ck:∀ i (_:i<4) (v:Value),([F none 0 0,F none 0 0,F none 0 0,E J 0]:List Value)[i]? = some v->w.cell? ⟨g,0+j*4+i,none⟩=some v:=λi hi v e=>by
  rw[Nat.zero_add];exact Zb h _ _ ((ab i hi).trans e)
 exact⟨none,0,0,none,0,0,none,0,0,ck 0 (by decide) _ rfl,ck 1 (by decide) _ rfl,ck 2 (by decide) _ rfl,ck 3 (by decide) _ rfl,nil.1,nil.2.1,nil.2.2,Zu,Zu,Zu⟩
theorem Zqy(c:Nat)(h1:1<=c)(h4:c<=4)(w:World):(Instr.makeSlice 87 (E J c) (E J c)).run aB w = .ok (F (some ⟨w.heap.size,0,none⟩) c c) (w.alloc (dE (nzC c).toArray 67)):=by
 obtain⟨i0,hi,ac,aa,ad⟩:=info_parts Tr.Tryz.infoNodeC;have h:=run_makeSlice (P:=aB) (w:=w) 87 67 i0 _ underlying87 hi ac .i64 .i64 c c (by omega) (by omega) (by rw[aa];omega) (by rw[ad];omega) (by omega);rw[aa] at h;have hc:c=1\/c=2\/c=3\/c=4:=by omega
 have e:madeCells (Value.agg #[F none 0 0,F none 0 0,F none 0 0,E J 0]).cells (Int.toNat (c:Int)*4)=(nzC c).toArray:=by
  rcases hc with rfl|rfl|rfl|rfl <;> kernel_rfl
 rw[e] at h;exact h
theorem Tryz.infoErr:(Tryz.prog.info? 30).map (λi=>(i.zero,i.size,i.bytes))=some (some (E J 0),1,8):=by kernel_rfl
theorem Zqz(X:Nat->Int)(L:Nat)(h:L<=60)(w:World):(Instr.makeSlice 110 (E J L) (E J L)).run aB w = .ok (F (some ⟨w.heap.size,0,none⟩) L L) (w.alloc (dE (sdL X L 0).toArray 30)):=by
 obtain⟨i0,hi,ab,aa,ac⟩:=info_parts Tryz.infoErr;have h:=run_makeSlice (P:=aB) (w:=w) 110 30 i0 _ underlying110 hi ab .i64 .i64 L L (by omega) (by omega) (by rw[aa];omega) (by rw[ac];omega) (by omega);rw[aa] at h
 have e:madeCells (Value.int .i64 0).cells (Int.toNat (L:Int)*1)=(sdL X L 0).toArray:=by
  rw[Ziu,Nat.mul_one,Int.toNat_natCast];exact Array.toList_inj.1 ((toList_madeCells_one _ _).trans (by simp))
 rw[e] at h;exact h
theorem Zmh(c:Nat)(h1:1<=c)(h4:c<=4)(w:World):Calls aB 130 #[E J c] w λe w'=>∃ g,e = dF (dG #[.agg #[F none 0 0,F (some ⟨g,0,none⟩) c c,F none 0 0],E J 0])/\w'.heap[g]? = some (dE (nzC c).toArray 67 (0,0))/\w.heap.size<=g/\ZD w w':=by
 obtain⟨X,hX,am,an⟩:=ka11 w [F none 0 0,F none 0 0,F none 0 0] 90;have C1:=Zd (Lc c true X (by simp;omega));go_enter func130,ntmps130
 go_upto_region 1 with fail
 rw[<-hX];clear hX;go_wp2_with fail;refine C1.mono ?_;rintro e w1 ⟨rfl,ae⟩;have ag:=onb am ae;have ab:=mvd ae an;obtain⟨Y,hY⟩:=ZG (w1.alloc (dE (nzC c).toArray 67));have af:ZD w1 Y:=by rw[hY];exact Zh _ _
 have HY:Hid (Y.heap[w1.heap.size]? = some (dE (nzC c).toArray 67 (0,0))):=by rw[hY];exact aG _ _
 have ah:=onb ag af;have ac:=mvd af ab;have hs:=ag.size;obtain⟨r0,r1,r2,rl⟩:=cl3 ab;have f0:=Zg ab 0;have f1:=Zg ab 1;have f2:=Zg ab 2;obtain⟨y0,y1,y2,yl⟩:=cl3 ac;have g0:=Zg ac 0;have g1:=Zg ac 1;have g2:=Zg ac 2;have ay:=aA ab;have ak:Hid (∀ V,Gr Y V (λq=>q=w.heap.size)->∃ g,Ending.returned (dG #[.agg #[F none 0 0,F (some ⟨w1.heap.size,0,none⟩) c c,F none 0 0],E J 0]) = dF (dG #[.agg #[F none 0 0,F (some ⟨g,0,none⟩) c c,F none 0 0],E J 0])/\V.heap[g]? = some (dE (nzC c).toArray 67 (0,0))/\w.heap.size<=g/\ZD w V):=λV g=>⟨w1.heap.size,rfl,g.heap HY (by show ¬w1.heap.size=w.heap.size;omega),hs,g.below ah ah.size (λq e=>cO (Eq.symm e))⟩;have aq:=Zqy c h1 h4 w1;rw[<-hY] at aq;clear ae af C1 hY;go_wp2;(try simp only[Exit.inBlock,Exit.then]);refine bB (v:=dG #[.agg #[F none 0 0,F (some ⟨w1.heap.size,0,none⟩) c c,F none 0 0],E J 0]) ?_ rfl ?_
 ·rw[Zo rfl];go_simp
 ·refine ak _ ?_
  repeat' first|refine Gr.one ?_ _ _ ?_ _|exact Gr.refl _ _
  all_goals exact Or.inl rfl
structure RunI(w:World)(L bw sd:Nat)(S:Nat->WD)(X:Nat->Int)(k:Nat)(wr:World):Prop where
 bel:ZD w wr
 box:∃ ka kn kc na nn nc ma mn mc,wr.heap[bw]? = some (dE [F ka kn kc,F na nn nc,F ma mn mc].toArray 90 (0,0))/\(∀ V,Gr wr V (λq=>q=bw\/q=sd\/q=w.heap.size)->WorldAt V (S k) ka kn na nn ma mn)/\SlOk ka kn kc/\SlOk na nn nc/\SlOk ma mn mc
 said:wr.heap[sd]? = some (dE (sdL X L k).toArray 30 (0,0))
 res:wr.heap[w.heap.size]? = some (dE [F none 0 0,F none 0 0,F none 0 0].toArray 90 (0,0))
section
variable {w wr wx : World} {L bw sd : Nat} {S : Nat -> WD} {X : Nat -> Int} {k : Nat}
theorem RunI.step{U}(h:RunI w L bw sd S X k wr)(ab:bw≠sd/\bw≠w.heap.size/\sd≠w.heap.size/\w.heap.size<bw/\w.heap.size<sd)(hU:ZD wr U)(hg:Gr U wx (λq=>q=sd))(af:wx.heap[sd]? = some (dE (sdL X L (k+1)).toArray 30 (0,0)))(hS:S (k+1)=S k):RunI w L bw sd S X (k+1) wx:=by
 obtain⟨ka,kn,kc,na,nn,nc,ma,mn,mc,h1,h2,h3⟩:=h.box;have gw:Gr wr wx (λq=>q=sd):=(Gr.of hU).trans hg;refine⟨gw.below h.bel h.bel.size (λq e=>by have e:q=sd:=e;omega),⟨ka,kn,kc,na,nn,nc,ma,mn,mc,gw.heap h1 (λe=>ab.1 e),λV g=>?_,h3⟩,af,gw.heap h.res (λe=>ab.2.2.1 (Eq.symm e))⟩;rw[hS];exact h2 V ((gw.mono (λq _ e=>.inr (.inl e))).trans g)
theorem RunI.took{W':WD}{U Y:World}{H0:Nat}{ka na ma kn kc nn nc mn mc}(h:RunI w L bw sd S X k wr)(ac:bw≠sd/\bw≠w.heap.size/\sd≠w.heap.size/\w.heap.size<bw/\w.heap.size<sd)(h0:wr.heap.size<=H0)(hU:ZD wr U)(hY:ZD U Y)(hg:Gr Y wx (λq=>q=bw\/q=sd))(ag:wx.heap[bw]? = some (dE [F ka kn kc,F na nn nc,F ma mn mc].toArray 90 (0,0)))(ah:wx.heap[sd]? = some (dE (sdL X L (k+1)).toArray 30 (0,0)))
  (hF:Fresh H0 U (λw2=>WorldAt w2 W' ka kn na nn ma mn)) (s1:SlOk ka kn kc) (s2:SlOk na nn nc) (s3:SlOk ma mn mc) (hS:S (k+1)=W'):RunI w L bw sd S X (k+1) wx:=by
 obtain⟨_,_,_,_,_,_,_,_,_,h1,_⟩:=h.box;have l1:=aA h1;have l2:=aA h.said;have l3:=aA h.res;have gw:Gr wr wx (λq=>q=bw\/q=sd):=(Gr.of (Zf hU hY)).trans hg;refine⟨gw.below h.bel h.bel.size (λq e=>by rcases e with e|e <;> omega),⟨ka,kn,kc,na,nn,nc,ma,mn,mc,ag,λV g=>?_,s1,s2,s3⟩,ah,gw.heap h.res (λe=>by rcases e with e|e;exact ac.2.1 (Eq.symm e);exact ac.2.2.1 (Eq.symm e))⟩;rw[hS];exact hF V ((((Gr.of hY).trans (hg.mono (λq _ e=>by rcases e with e|e <;> omega)))).trans (g.mono (λq _ e=>by rcases e with e|e|e <;> omega)))
end
def RunR(w w':World)(L:Nat)(S:Nat->WD)(X:Nat->Int)(e:Ending):Prop:=∃ ka kn kc na nn nc ma mn mc sd,e = dF (dG #[.agg #[F ka kn kc,F na nn nc,F ma mn mc],F (some ⟨sd,0,none⟩) L L,E J 0])/\WorldAt w' (S L) ka kn na nn ma mn/\SlOk ka kn kc/\SlOk na nn nc/\SlOk ma mn mc/\w'.heap[sd]? = some (dE (sdL X L L).toArray 30 (0,0))/\ZD w w'
theorem Zmg(c:Nat)(h1:1<=c)(h4:c<=4)(sa)(L sc:Nat)(hL:L<=60)(H:Nat->Int×Int×Int×Int×Int×Int×Int)(S W':Nat->WD)(X:Nat->Int)(w:World)(hE:Env w)
  (hr:∀ k,k<L->∃ g o ai ni ci ao no co P,sa=some ⟨g,o,none⟩/\g<w.heap.size/\(∀ j v,([E J (H k).1,E J (H k).2.1,E J (H k).2.2.1,E J (H k).2.2.2.1,E J (H k).2.2.2.2.1,E J (H k).2.2.2.2.2.1,E J (H k).2.2.2.2.2.2,F ai ni ci,F ao no co]:List Value)[j]? = some v->w.cell? ⟨g,o+k*9+j,none⟩=some v)/\(∀ U,ZD w U->P U)/\Zpf P (.agg #[E J (H k).1,E J (H k).2.1,E J (H k).2.2.1,E J (H k).2.2.2.1,E J (H k).2.2.2.2.1,E J (H k).2.2.2.2.2.1,E J (H k).2.2.2.2.2.2,F ai ni ci,F ao no co]) (S k) (X k) (W' k))
  (h0:S 0=⟨[],aR c n0,[]⟩) (hc:∀ k,k<L->Ur (S k).k (S k).n (S k).m=0) (hm:∀ k,k<L->∀ m∈(S k).m,J3 m) (hS:∀ k,k<L->S (k+1)=if X k=0 then W' k else S k) :
  Calls aB 55 #[E J c,F sa L sc] w λe w'=>RunR w w' L S X e:=by
 obtain⟨A,hA,bu,bh⟩:=ka11 w [F none 0 0,F none 0 0,F none 0 0] 90;obtain⟨C1,HE,HR,dd,HC,HM,HS⟩:=kh7 (Zmh c h1 h4 A) hE hr h0 hc hm hS;have eu:¬(60:Int)<(L:Int):=by omega
 clear hE hr h0 hc hm hS;go_enter func55,ntmps55
 go_upto_region 1 with fail
 rw[<-hA];clear hA;go_wp2_with fail;refine C1.mono ?_;rintro e w1 ⟨ng,rfl,bo,ee,ay⟩;have ea:=aA bh;obtain⟨Y,hY⟩:=ZG ((w1.alloc (dE #[F none 0 0,F (some ⟨ng,0,none⟩) c c,F none 0 0] 90)).alloc (dE (sdL X L 0).toArray 30));have ac:ZD w1 Y:=by rw[hY];exact Zf (Zh _ _) (Zh _ _)
 have y0:Y.heap[w1.heap.size]? = some (dE [F none 0 0,F (some ⟨ng,0,none⟩) c c,F none 0 0].toArray 90 (0,0)):=by rw[hY];exact Zl [dE #[F none 0 0,F (some ⟨ng,0,none⟩) c c,F none 0 0] 90,dE (sdL X L 0).toArray 30] w1 0 _ rfl
 have y1:Y.heap[w1.heap.size+1]? = some (dE (sdL X L 0).toArray 30 (0,0)):=by rw[hY];exact Zl [dE #[F none 0 0,F (some ⟨ng,0,none⟩) c c,F none 0 0] 90,dE (sdL X L 0).toArray 30] w1 1 _ rfl
 have ed:=aA bo;have et:=ay.size;have bz:Hid (ZD w Y):=Zf (Zf bu ay) ac
 have ST:Hid (RunI w L w1.heap.size (w1.heap.size+1) S X 0 Y):=by
  refine⟨Za bz,⟨none,0,0,some ⟨ng,0,none⟩,c,c,none,0,0,y0,λV gV=>?_,Zu,⟨Nat.le_refl _,by unfold cK;omega,λe=>by cases e⟩,Zu⟩,y1,(ac.block _ (by omega)).trans ((ay.block _ ea).trans bh)⟩;rw[Za dd];refine⟨Bk.TextsAt.nil _ _,Zfw h1 h4 (gV.heap ((ac.block _ ed).trans bo) (λe=>?_)),RowsAt.nil _ _⟩
  rcases e with e|e|e
  ·omega
  ·omega
  ·omega
 have cw:=Zqz X L hL (w1.alloc (dE #[F none 0 0,F (some ⟨ng,0,none⟩) c c,F none 0 0] 90));rw[<-hY] at cw;have bk:w1.heap.size≠w1.heap.size+1/\w1.heap.size≠w.heap.size/\w1.heap.size+1≠w.heap.size/\w.heap.size<w1.heap.size/\w.heap.size<w1.heap.size+1:=by omega
 have ar:=Zd bk;clear bo ee ay ac y0 y1 C1 bu bh hY bk;go_wp2_with fail
 go_loopw [32] (λi wr=>∃ k:Nat,k<=L/\i = E J k/\Hid (RunI w L w1.heap.size (w1.heap.size+1) S X k wr)) (λi _=>L - (intOf i).toNat)
 case atStart=>exact⟨0,aI _,rfl,ST⟩
 case round=>
  obtain⟨k,hk,rfl,HI⟩:=hrel;clear ST cw bz;by_cases an:k<L
  ·have ey:(k:Int)<(L:Int):=(by omega);obtain⟨g,o,ai,ni,ci,ao,no,co,P,rfl,hg,ae,cn,cm⟩:=HR k an;have c0:wr.cell? ⟨g,o+k*9,none⟩=some (E J (H k).1):=Ze HI.bel (ae 0 _ rfl);have c1:=Ze HI.bel (ae 1 _ rfl);have c2:=Ze HI.bel (ae 2 _ rfl);have c3:=Ze HI.bel (ae 3 _ rfl);have c4:=Ze HI.bel (ae 4 _ rfl);have c5:=Ze HI.bel (ae 5 _ rfl);have c6:=Ze HI.bel (ae 6 _ rfl);have c7:=Ze HI.bel (ae 7 _ rfl);have c8:=Ze HI.bel (ae 8 _ rfl);have ev:g<wr.heap.size:=aD hg HI.bel.size;obtain⟨ka,kn,kc,na,nn,nc,ma,mn,mc,h1,h2,s1,s2,s3⟩:=HI.box;obtain⟨X1,ax⟩:∃ V,V=wr.alloc (dE #[E J (H k).1,E J (H k).2.1,E J (H k).2.2.1,E J (H k).2.2.2.1,E J (H k).2.2.2.2.1,E J (H k).2.2.2.2.2.1,E J (H k).2.2.2.2.2.2,F ai ni ci,F ao no co] 103):=⟨_,rfl⟩;have ag:ZD wr X1:=(by rw[ax];exact Zh _ _);have x1:X1.heap[wr.heap.size]? = some (dE [E J (H k).1,E J (H k).2.1,E J (H k).2.2.1,E J (H k).2.2.2.1,E J (H k).2.2.2.2.1,E J (H k).2.2.2.2.2.1,E J (H k).2.2.2.2.2.2,F ai ni ci,F ao no co].toArray 103 (0,0)):=(by rw[ax];exact aG _ _);obtain⟨b0,b1,b2,b3,b4,b5,b6,b7,b8,bl⟩:=kc9 x1;have H1:Hid (X1.heap[w1.heap.size]? = some (dE [F ka kn kc,F na nn nc,F ma mn mc].toArray 90 (0,0))):=ZE ag h1;have cb:Hid (X1.heap[w1.heap.size+1]? = some (dE (sdL X L k).toArray 30 (0,0))):=ZE ag HI.said;obtain⟨t0,t1,t2,tl⟩:=cl3 H1;obtain⟨d1,d2,d3⟩:=h2 X1 (Gr.of ag)
   have ck:=HC k an;obtain⟨CO,cq,bx⟩:=kh3 (Zmi P ka kn kc na nn nc ma mn mc (H k).1 (H k).2.1 (H k).2.2.1 (H k).2.2.2.1 (H k).2.2.2.2.1 (H k).2.2.2.2.2.1 (H k).2.2.2.2.2.2 ai ao ni ci no co (S k) 0 (X k) (X k) (W' k) X1 (HE.later (Zf HI.bel ag)) d1 d2 d3 s1 s2 s3 (λy hy=>Kt ((Xi ck).2.2.2.2.2.1 y hy)) (HM k an) ck (λU hu=>cn U (Zf (Zf HI.bel ag) hu)) (λ_=>cm) (if_pos rfl)) (HS k an) ag;have ef:=ag.size;clear h1 h2 s1 s2 s3 d1 d2 d3 ck x1 ag ae cn cm
   go_upto_region 10 with fail
   rw[<-ax];clear ax c0 c1 c2 c3 c4 c5 c6 c7 c8;go_wp2_with fail;refine CO.mono ?_;rintro e U ⟨az,hr⟩;have bv:=onb bx az;have bi:=mvd az H1;have au:=mvd az cb;clear CO az H1 cb bx t0 t1 t2 tl b0 b1 b2 b3 b4 b5 b6 b7 b8 bl;obtain⟨v,hv⟩:∃ v,(sdL X L k)[k]? = some v:=⟨_,Zmz X an⟩
   rcases hr with ⟨hx,rfl⟩|⟨hx,k1,k1n,k1c,n1,n1n,n1c,m1,br,bq,rfl,hF,s1,s2,s3⟩
   ·have gx:(X k == 0)=false:=(by simp[hx]);obtain⟨Y,hY⟩:=ZG (U.alloc (dE #[F none 0 0,F none 0 0,F none 0 0] 90));have ac:ZD U Y:=(by rw[hY];exact Zh _ _);have af:=mvd ac au;have vc:=Zb af k _ hv;have vf:=Zg af k;have vl:=aA af
    have NX:Hid (RunI w L w1.heap.size (w1.heap.size+1) S X (k+1) (Y.setCell ⟨w1.heap.size+1,k,none⟩ (E J (X k)))):=by
     refine HI.step ar (Zf bv ac) ((Gr.refl Y (λq=>q=w1.heap.size+1)).one _ k (.inl rfl) _) ?_ ?_
     ·have:=Tr.set_cells af k (E J (X k));rw[Zdn X an] at this;exact this
     ·rw[Za cq,if_neg hx]
    clear ac au bi af hx
    go_upto_region 11 with fail
    rw[<-hY];clear hY;go_wp2;go_roundw
    case rel=>exact⟨k+1,by omega,by go_num,NX⟩
    case measure=>simp[intOf];omega
   ·obtain⟨Y,hY,ac,cc⟩:=ka01 U [F k1 k1n k1c,F n1 n1n n1c,F m1 br bq] 90;have af:=mvd ac au;have ap:=mvd ac bi;obtain⟨u0,u1,u2,ul⟩:=cl3 cc;obtain⟨t0,t1,t2,tl⟩:=cl3 ap;have e0:=Zg ap 0;have e1:=Zg ap 1;have e2:=Zg ap 2;obtain⟨Q,hQ⟩:=ZG (((Y.setCell ⟨w1.heap.size,0,none⟩ (F k1 k1n k1c)).setCell ⟨w1.heap.size,1,none⟩ (F n1 n1n n1c)).setCell ⟨w1.heap.size,2,none⟩ (F m1 br bq));have gQ:Gr Y Q (λq=>q=w1.heap.size):=(by rw[hQ];exact (((Gr.refl Y (λq=>q=w1.heap.size)).one _ 0 (.inl rfl) _).one _ 1 (.inl rfl) _).one _ 2 (.inl rfl) _);have ca:Hid (Q.heap[w1.heap.size]? = some (dE [F k1 k1n k1c,F n1 n1n n1c,F m1 br bq].toArray 90 (0,0))):=(by rw[hQ];exact Tr.set_cells (Tr.set_cells (Tr.set_cells ap 0 _) 1 _) 2 _);have aq:Hid (Q.heap[w1.heap.size+1]? = some (dE (sdL X L k).toArray 30 (0,0))):=gQ.heap af (by show ¬w1.heap.size+1=w1.heap.size;omega);have vc:=Zb aq k _ hv;have vf:=Zg aq k;have vl:=aA aq
    have NX:Hid (RunI w L w1.heap.size (w1.heap.size+1) S X (k+1) (Q.setCell ⟨w1.heap.size+1,k,none⟩ (E J (X k)))):=by
     have gS:Gr Q (Q.setCell ⟨w1.heap.size+1,k,none⟩ (E J (X k))) (λq=>q=w1.heap.size+1):=(Gr.refl Q (λq=>q=w1.heap.size+1)).one _ k (.inl rfl) _;refine HI.took ar (H0:=X1.heap.size) ef bv ac ((gQ.mono (λq _ e=>.inl e)).trans (gS.mono (λq _ e=>.inr e))) (gS.heap ca (by show ¬w1.heap.size=w1.heap.size+1;omega)) ?_ hF s1 s2 s3 ?_
     ·have:=Tr.set_cells aq k (E J (X k));rw[Zdn X an] at this;exact this
     ·rw[Za cq,if_pos hx]
    have en:=Zd hx;rw[hx] at NX;clear ac au bi af ap hF s1 s2 s3 gQ ca aq cc
    go_upto_region 11 with fail
    rw[<-hY];clear hY
    go_upto_region 13 with fail
    rw[<-hQ];clear hQ t0 t1 t2 e0 e1 e2 u0 u1 u2;go_wp2;go_roundw
    case rel=>exact⟨k+1,by omega,by go_num,NX⟩
    case measure=>simp[intOf];omega
  ·have e:L=k:=(by omega);subst e;obtain⟨ka,kn,kc,na,nn,nc,ma,mn,mc,h1,h2,s1,s2,s3⟩:=HI.box;obtain⟨t0,t1,t2,tl⟩:=cl3 (Zd h1);obtain⟨r0,r1,r2,rl⟩:=cl3 (Zd HI.res);have f0:=Zg HI.res 0;have f1:=Zg HI.res 1;have f2:=Zg HI.res 2
   have dc:Hid (∀ V,Gr wr V (λq=>q=w.heap.size)->RunR w V L S X (dF (dG #[.agg #[F ka kn kc,F na nn nc,F ma mn mc],F (some ⟨w1.heap.size+1,0,none⟩) L L,E J 0]))):=λV g=>by
    have bk:=Za ar;exact⟨ka,kn,kc,na,nn,nc,ma,mn,mc,w1.heap.size+1,rfl,h2 V (g.mono (λq _ e=>.inr (.inr e))),s1,s2,s3,g.heap HI.said (λe=>by have e:w1.heap.size+1=w.heap.size:=e;omega),g.below HI.bel HI.bel.size (λq e=>cO (Eq.symm e))⟩
   have nd:w1.heap.size≠w.heap.size:=ar.2.1;clear h1 h2 s1 s2 s3;go_wp2;(try simp only[Exit.inBlock,Exit.then]);refine bB (v:=dG #[.agg #[F ka kn kc,F na nn nc,F ma mn mc],F (some ⟨w1.heap.size+1,0,none⟩) L L,E J 0]) ?_ rfl ?_
   ·rw[Bk.results_cell_tmp2 rfl];go_simp
   ·refine dc _ ?_
    repeat' first|refine Gr.one ?_ _ _ ?_ _|exact Gr.refl _ _
    all_goals exact Or.inl rfl
def mvR1:Int×Zk×Dsk:=nmR [] [] [] [] 0 1 0 [(1,0),(7,0)]
def mvY(D:Dsk):Ye:=(D.n,D.t,D.p,D.tip)
def mvS0:WD:=⟨[],[n0,n0],[]⟩
def mvS1:WD:=⟨mvR1.2.2.k,[mvY mvR1.2.2,n0],[(1,0,1,0,mvR1.2.1,Wm)]⟩
def mvR2:Int×Int×Dsk:=ntR mvR1.2.2.k [] [] [] 0 mvR1.2.1
def mvS2:WD:=⟨mvR2.2.2.k,[mvY mvR1.2.2,mvY mvR2.2.2],[]⟩
def mvR4:Int×Zk×Dsk:=nmR mvR2.2.2.k mvR2.2.2.n mvR2.2.2.t mvR2.2.2.p mvR2.2.2.tip 1 0 [(1,0),(7,0)]
def Zqx:WD:=⟨mvR4.2.2.k,[mvY mvR1.2.2,mvY mvR4.2.2],[(1,1,0,0,mvR4.2.1,Wm)]⟩
theorem mv_1:mvS0.mine 0 1 0 0=(0,mvS1):=by kernel_rfl
theorem mv_2:(mvS1.lost 0).told 1 0 mvR1.2.1=mvS2:=by kernel_rfl
theorem mv_4:mvS2.mine 1 1 0 0=(0,Zqx):=by kernel_rfl
theorem Zpk:Ur mvS0.k mvS0.n mvS0.m=0:=by kernel_rfl
theorem Zpj:Ur mvS1.k mvS1.n mvS1.m=0:=by kernel_rfl
theorem Zkg:Ur mvS2.k mvS2.n mvS2.m=0:=by kernel_rfl
theorem Zpl:Yq mvR1.2.1=0:=by kernel_rfl
theorem mv_b4:Yq mvR4.2.1=0:=by kernel_rfl
theorem mv_l1:mvR1.2.2.n.length=1:=by kernel_rfl
theorem mv_l2:mvR4.2.2.n.length=2:=by kernel_rfl
def mvS:Nat->WD:=λk=>if k=0 then mvS0 else if k=1 then mvS1 else if k<4 then mvS2 else Zqx
def mvX:Nat->Int:=λk=>if k=2 then 5 else 0
def mvH:Nat->Int×Int×Int×Int×Int×Int×Int:=λk=>if k=0 then (1,0,0,0,1,0,0) else if k<3 then (3,0,0,0,0,0,0) else (1,1,0,0,1,0,0)
def mvW:Nat->WD:=λk=>if k=0 then mvS1 else if k<3 then mvS2 else Zqx
theorem Zqv{k j:Nat}{v}(hk:k<4)(hj:([E J (mvH k).1,E J (mvH k).2.1,E J (mvH k).2.2.1,E J (mvH k).2.2.2.1,E J (mvH k).2.2.2.2.1,E J (mvH k).2.2.2.2.2.1,E J (mvH k).2.2.2.2.2.2,F none 0 0,F none 0 0]:List Value)[j]? = some v):([E J 1,E J 0,E J 0,E J 0,E J 1,E J 0,E J 0,F none 0 0,F none 0 0,E J 3,E J 0,E J 0,E J 0,E J 0,E J 0,E J 0,F none 0 0,F none 0 0,E J 3,E J 0,E J 0,E J 0,E J 0,E J 0,E J 0,F none 0 0,F none 0 0,E J 1,E J 1,E J 0,E J 0,E J 1,E J 0,E J 0,F none 0 0,F none 0 0]:List Value)[0+k*9+j]? = some v:=by
 have ad:j<9:=by have:=(List.getElem?_eq_some_iff.1 hj).1;simpa using this
 have qk:k=0\/k=1\/k=2\/k=3:=by omega
 have qj:j=0\/j=1\/j=2\/j=3\/j=4\/j=5\/j=6\/j=7\/j=8:=by omega
 rcases qk with rfl|rfl|rfl|rfl <;> rcases qj with rfl|rfl|rfl|rfl|rfl|rfl|rfl|rfl|rfl <;> exact hj
theorem Zqw:∀ k,k<4->Zpg (.agg #[E J (mvH k).1,E J (mvH k).2.1,E J (mvH k).2.2.1,E J (mvH k).2.2.2.1,E J (mvH k).2.2.2.2.1,E J (mvH k).2.2.2.2.2.1,E J (mvH k).2.2.2.2.2.2,F none 0 0,F none 0 0]) (mvS k) (mvX k) (mvW k):=by
 intro k hk
 match k,hk with
 | 0,_=>exact Dc (W:=mvS0) (i:=0) (xi:=0) (xt:=0) (xw:=1) (xN:=0) Zpk (by decide) (Tr.blk_small Zpl) mv_1
 | 1,_=>exact Cv (W:=mvS1) (k:=0) (ti:=1) (xn:=0) Zpj (by decide) ⟨rfl,rfl⟩ (by decide) mv_2
 | 2,_=>exact Zgq (W:=mvS2) (xi:=0) (xn:=0) rfl
 | 3,_=>exact Dc (W:=mvS2) (i:=1) (xi:=0) (xt:=0) (xw:=1) (xN:=0) Zkg (by decide) (Tr.blk_small mv_b4) mv_4
 | k+4,h=>exact absurd h (by omega)
theorem Zla(b b2 c d n:Nat)(L:List Int)(w:World)(hn:n<=cK)(hz:L.length=n)(hc:∀ i (h:i<L.length),w.cell? ⟨b,i,none⟩=some (E J L[i]))(ab:∀ i (h:i<L.length),w.cell? ⟨b2,i,none⟩=some (E J L[i])) :
  ZH 114 #[F (some ⟨b,0,none⟩) n c,F (some ⟨b2,0,none⟩) n d] w (dI true):=by
 obtain⟨HC,af,HZ⟩:=kh3 hc ab hz;have g0:((n:Int) != (n:Int))=false:=by simp
 unfold cK at hn;clear hc ab hz;go_enter func114,ntmps114;go_wp2
 go_loopw [13] (λi wr=>∃ j m:Nat,j<=n/\i = E J j/\wr=w.drewN m) (λi _=>n - (intOf i).toNat)
 case atStart=>exact⟨0,0,aI _,rfl,rfl⟩
 case round=>
  obtain⟨j,m,hk,rfl,rfl⟩:=hrel;by_cases ak:j<n
  ·have h1:j<L.length:=(by rw[Za HZ];exact ak);have f1:=HC j h1;have f2:=af j h1;obtain⟨s,hs⟩:=ZF (L[j]);rw[hs] at f1 f2;have g:(s != s)=false:=(by simp);clear hs;go_wp2
   go_quiet (fail)
   go_wp2;go_roundw
   case rel=>exact⟨j+1,m+nq,by omega,by go_num,rfl⟩
   case measure=>simp[intOf];omega
  ·go_wp2;go_ret;exact⟨rfl,Tr.below_dn _ _⟩
theorem Zge(w:World)(hE:Env w):ZH 44 #[] w (dI true):=by
 obtain⟨X,hX,ak,x0⟩:=ka00 w [E J 1,E J 0,E J 0,E J 0,E J 1,E J 0,E J 0,F none 0 0,F none 0 0,E J 3,E J 0,E J 0,E J 0,E J 0,E J 0,E J 0,F none 0 0,F none 0 0,E J 3,E J 0,E J 0,E J 0,E J 0,E J 0,E J 0,F none 0 0,F none 0 0,E J 1,E J 1,E J 0,E J 0,E J 1,E J 0,E J 0,F none 0 0,F none 0 0] 103
 have C1:=Zd (Zmg 2 (by decide) (by decide) (some ⟨w.heap.size,0,none⟩) 4 4 (by decide) mvH mvS mvW mvX X (hE.later ak) (λk hk=>⟨w.heap.size,0,none,0,0,none,0,0,Env,rfl,aA x0,λj v hj=>Zb x0 _ _ (Zqv hk hj),λU hu=>(hE.later ak).later hu,Zqw k hk⟩) rfl
  (λk hk=>by
   match k,hk with
   | 0,_=>exact Zpk
   | 1,_=>exact Zpj
   | 2,_=>exact Zkg
   | 3,_=>exact Zkg
   | k+4,h=>exact absurd h (by omega))
  (λk hk m hm=>by
   match k,hk with
   | 0,_=>cases hm
   | 1,_=>
    rcases List.mem_singleton.1 hm with rfl
    exact⟨Tr.blk_small Zpl,aI _,aI _,by simp[Wm],by simp[Wm]⟩
   | 2,_=>cases hm
   | 3,_=>cases hm
   | k+4,h=>exact absurd h (by omega))
  (λk hk=>by
   match k,hk with
   | 0,_=>rfl
   | 1,_=>rfl
   | 2,_=>rfl
   | 3,_=>rfl
   | k+4,h=>exact absurd h (by omega)))
 have av:=Zd ak;clear hE ak x0;go_enter func44,ntmps44;go_wp2_with fail;rw[<-hX];clear hX;(try go_wp2_with fail);refine C1.mono ?_;rintro e w1 ⟨ka,kn,kc,na,nn,nc,ma,mn,mc,sd,rfl,⟨h1,h2,h3⟩,s1,s2,s3,h4,bb⟩;have ar:=onb av bb;have h4:w1.heap[sd]? = some (dE [E J 0,E J 0,E J 5,E J 0].toArray 30 (0,0)):=h4;obtain rfl:2=nn:=h2.1;obtain rfl:1=mn:=h3.1;obtain⟨gb,go,rfl,_,an⟩:=h2.2 (by decide);obtain⟨qa,qn,qc,qb,qm,qd,qp,qq,qr,c0,_,_,_,i0,_⟩:=an 0 (by decide);obtain⟨pa,pn,pc,pb,pm,pd,pp,pq,pr,c1,_,_,_,i1,_⟩:=an 1 (by decide);obtain rfl:1=qn:=by rw[<-i0.1];exact mv_l1.symm
 obtain rfl:2=pn:=by rw[<-i1.1];exact mv_l2.symm
 have c0:w1.cell? ⟨gb,go,none⟩=some (F qa 1 qc):=c0;have c1:w1.cell? ⟨gb,go+4,none⟩=some (F pa 2 pc):=c1;have bi:=aE _ _ c0;obtain⟨Y,hY⟩:=ZG ((w1.alloc (dE #[F ka kn kc,F (some ⟨gb,go,none⟩) 2 nc,F ma 1 mc] 90)).alloc (dE #[E J 0,E J 0,E J 5,E J 0] 30));have ag:ZD w1 Y:=by rw[hY];exact Zf (Zh _ _) (Zh _ _)
 have y0:Y.heap[w1.heap.size]? = some (dE [F ka kn kc,F (some ⟨gb,go,none⟩) 2 nc,F ma 1 mc].toArray 90 (0,0)):=by rw[hY];exact Zl [dE #[F ka kn kc,F (some ⟨gb,go,none⟩) 2 nc,F ma 1 mc] 90,dE #[E J 0,E J 0,E J 5,E J 0] 30] w1 0 _ rfl
 have y1:Y.heap[w1.heap.size+1]? = some (dE [E J 0,E J 0,E J 5,E J 0].toArray 30 (0,0)):=by rw[hY];exact Zl [dE #[F ka kn kc,F (some ⟨gb,go,none⟩) 2 nc,F ma 1 mc] 90,dE #[E J 0,E J 0,E J 5,E J 0] 30] w1 1 _ rfl
 have y4:=ZE ag h4
 have C2:=Zd (Zla sd (w1.heap.size+1) 4 4 4 [0,0,5,0] Y (by unfold cK;omega) rfl (λi hi=>by
  match i,hi with
  | 0,_=>exact Zb y4 0 _ rfl
  | 1,_=>exact Zb y4 1 _ rfl
  | 2,_=>exact Zb y4 2 _ rfl
  | 3,_=>exact Zb y4 3 _ rfl
  | i+4,h=>exact absurd h (by simp)) (λi hi=>by
  match i,hi with
  | 0,_=>exact Zb y1 0 _ rfl
  | 1,_=>exact Zb y1 1 _ rfl
  | 2,_=>exact Zb y1 2 _ rfl
  | 3,_=>exact Zb y1 3 _ rfl
  | i+4,h=>exact absurd h (by simp)))
 obtain⟨ay,aw,ax⟩:=kh3 y0 (Ze ag c0) (Ze ag c1);have au:=onb ar ag;clear C1 bb ag y0 y1 y4 h1 h2 h3 h4 s1 s2 s3 an i0 i1 c0 c1 av ar;go_wp2_with fail;(try rw[<-hY]);clear hY;(try go_wp2_with fail);refine C2.mono ?_;rintro e w2 ⟨rfl,af⟩;have bg:=onb au af;obtain⟨r0,r1,r2,rl⟩:=cl3 (mvd af ay);have d0:=Ze af aw;have d1:=Ze af ax;have dl:=aE _ _ d0;clear af C2 ay aw ax au bi;go_wp2;go_ret;exact⟨rfl,Za bg⟩
open Go.RowKit Classical
theorem WorldAt.on{w w':World}{W:WD}{ka na ma kn nn mn}(h:WorldAt w W ka kn na nn ma mn)(hb:ZD w w'):WorldAt w' W ka kn na nn ma mn:=⟨h.1.later hb,h.2.1.later hb,h.2.2.later hb⟩
def NdC(w:World)(y:Ye)(a1:Option Addr)(n1 c1:Nat)(a2:Option Addr)(n2 c2:Nat)(a3:Option Addr)(n3 c3:Nat):Prop:=Tr.IntsAt w a1 n1 y.1/\Tr.BlksAt w a2 n2 y.2.1/\TxsAt w a3 n3 y.2.2.1/\SlOk a1 n1 c1/\SlOk a2 n2 c2/\SlOk a3 n3 c3
theorem NdC.on{w w':World}{y:Ye}{a1}{n1 c1:Nat}{a2}{n2 c2:Nat}{a3}{n3 c3:Nat}(h:NdC w y a1 n1 c1 a2 n2 c2 a3 n3 c3)(hb:ZD w w'):NdC w' y a1 n1 c1 a2 n2 c2 a3 n3 c3:=⟨h.1.later hb,h.2.1.later hb,h.2.2.1.later hb,h.2.2.2⟩
theorem Cf{w:World}{b off nn:Nat}{L}(h:NodsAt w (some ⟨b,off,none⟩) nn L){i:Nat}(hi:i<nn):∃ y a1 n1 c1 a2 n2 c2 a3 n3 c3,L[i]? = some y/\w.cell? ⟨b,off+i*4,none⟩=some (F a1 n1 c1)/\w.cell? ⟨b,off+i*4+1,none⟩=some (F a2 n2 c2)/\w.cell? ⟨b,off+i*4+2,none⟩=some (F a3 n3 c3)/\w.cell? ⟨b,off+i*4+3,none⟩=some (E J y.2.2.2)/\NdC w y a1 n1 c1 a2 n2 c2 a3 n3 c3:=by
 obtain⟨b',o',e,_,hr⟩:=h.2 (by omega);cases e;have hl:i<L.length:=by rw[h.1];exact hi
 obtain⟨a1,n1,c1,a2,n2,c2,a3,n3,c3,h0,h1,h2,h3,r⟩:=hr i hl;exact⟨L[i],a1,n1,c1,a2,n2,c2,a3,n3,c3,List.getElem?_eq_getElem hl,h0,h1,h2,h3,r⟩
theorem Hh(ka kn kc na nn nc ma mn mc)(W:WD)(w:World)(hE:Env w)(hW:WorldAt w W ka kn na nn ma mn)(sK:SlOk ka kn kc)(sN:SlOk na nn nc)(sM:SlOk ma mn mc)(fp:∀ y∈W.n,Qo y)(io:∀ m∈W.m,J3 m) :
  ZH 12 #[.agg #[F ka kn kc,F na nn nc,F ma mn mc]] w (dI true):=by
 obtain⟨X,hX,HB,HX⟩:=ka11 w [F ka kn kc,F na nn nc,F ma mn mc] 90;obtain⟨x0,h0⟩:∃ x,Ur W.k W.n W.m=x:=⟨_,rfl⟩;obtain⟨HE,HW,jk,jj,H0⟩:=kh5 hE hW fp io h0;have MV:=Zd (λV (hv:ZD w V)=>Zge V (hE.later hv));have C1:=Zd (λV (hv:ZD w V)=>M8 ka kn kc W.k na nn nc W.n ma mn mc W.m x0 V (hE.later hv) (hW.on hv).1 (hW.on hv).2.1 (hW.on hv).2.2 fp h0);have lN:W.n.length=nn:=hW.2.1.1;clear hE hW fp io h0;go_enter func12,ntmps12
 go_upto_region 1 with fail
 rw[<-hX];clear hX;go_wp2_with fail;refine (MV X HB).mono ?_;rintro e w1 ⟨rfl,fh⟩;have HB:=onb HB fh;have HX:=mvd fh HX;clear fh;obtain⟨z0,z1,z2,zl⟩:=cl3 HX;go_wp2_with fail;refine (C1 w1 HB).mono ?_;rintro e w2 ⟨rfl,fi⟩;have HB:=onb HB fi;have HX:=mvd fi HX;clear fi C1 z0 z1 z2 zl;by_cases hz:x0=0;rotate_left
 ·have gz:(x0 != 0)=true:=by simp[hz]
  go_wp2_with fail;refine (MV w2 HB).mono ?_;rintro e w3 ⟨rfl,ig⟩;have HB:=onb HB ig;clear ig MV;go_wp2;go_ret;exact⟨rfl,Za HB⟩
 subst hz;have gz:((0:Int) != 0)=false:=rfl;have HC:=Zd H0;obtain⟨h1,h4,_,_,_,ik,_⟩:=Xi H0;have gp:=Zd ik;have lv:1<=nn:=by omega
 have lw:nn<=4:=by omega
 have lu:nn<=nc:=sN.1;obtain⟨b,off,rfl,lp,_⟩:=HW.2.1.2 (by omega);have HL:=Zd lN;obtain⟨xs,K',y',hx,im⟩:=Zmy H0;have CS:=Zd (λV (hv:ZD w V) hy=>Hl ka kn kc (some ⟨b,off,none⟩) nn nc ma mn mc W xs K' y' V (HE.later hv) (HW.on hv).1 (HW.on hv).2.1 (HW.on hv).2.2 sK sN sM jk jj H0 hx hy);have fc:=Zd im;clear MV H0 h1 h4 ik hx im lN;obtain⟨z0,z1,z2,zl⟩:=cl3 HX;go_wp2_with fail
 go_loopw [33] (λlz V=>∃ i:Nat,i<=nn/\lz = E J i/\Hid (ZD w V)/\Hid (V.heap[w.heap.size]? = some (dE [F ka kn kc,F (some ⟨b,off,none⟩) nn nc,F ma mn mc].toArray 90 (0,0)))) (λi _=>nn - (intOf i).toNat)
 case atStart=>exact⟨0,aI _,rfl,HB,HX⟩
 case round=>
  obtain⟨i,hi,rfl,HB,HX⟩:=hrel;clear z0 z1 z2 zl;obtain⟨z0,z1,z2,zl⟩:=cl3 HX;have jz:=HB.size;have bl:b<wr.heap.size:=by omega
  by_cases kd:i<nn
  ·have hI:(i:Int)<(nn:Int):=(by omega);obtain⟨y,a1,n1,c1,a2,n2,c2,a3,n3,c3,hy,q0,q1,q2,q3,hc⟩:=Cf HW.2.1 kd;have r0:=Ze HB q0;have r1:=Ze HB q1;have r2:=Ze HB q2;have r3:=Ze HB q3;have da:=gp y (List.mem_of_getElem? hy);obtain⟨ce,dg⟩:=kh2 hc da;obtain⟨pa,fl⟩:∃ p,p=wr.heap.size:=⟨_,rfl⟩;obtain⟨Y,hY⟩:=ZG (wr.alloc (dE #[F a1 n1 c1,F a2 n2 c2,F a3 n3 c3,E J y.2.2.2] 67));have av:ZD wr Y:=(by rw[hY];exact Zh _ _);have HY:Hid (Y.heap[pa]? = some (dE [F a1 n1 c1,F a2 n2 c2,F a3 n3 c3,E J y.2.2.2].toArray 67 (0,0))):=(by rw[hY,fl];exact aG _ _);have gl:=onb HB av;have fe:=mvd av HX;obtain⟨v0,v1,v2,vl⟩:=cl3 fe;have lq:i<=nc:=(by omega);clear av hc da hy q0 q1 q2 q3 HB HX
   go_upto_region 7 with fail
   rw[<-hY,<-fl];clear hY fl r0 r1 r2 r3 z0 z1 z2 zl;go_wp2_with fail
   go_loopw [43] (λjv V=>∃ j:Nat,j<=i/\jv = E J j/\Hid (ZD w V)/\Hid (V.heap[w.heap.size]? = some (dE [F ka kn kc,F (some ⟨b,off,none⟩) nn nc,F ma mn mc].toArray 90 (0,0)))/\Hid (V.heap[pa]? = some (dE [F a1 n1 c1,F a2 n2 c2,F a3 n3 c3,E J y.2.2.2].toArray 67 (0,0)))) (λj _=>i - (intOf j).toNat)
   case atStart=>exact⟨0,aI _,rfl,gl,fe,HY⟩
   case round=>
    obtain⟨j,hj,rfl,HB,HX,HP⟩:=hrel;clear gl fe HY v0 v1 v2 vl;have jz:=HB.size;have lj:b<wr.heap.size:=(by omega);by_cases ls:j<i
    ·have kb:(j:Int)<(i:Int):=(by omega);obtain⟨z,d1,m1,e1,d2,m2,e2,d3,m3,e3,hz,q0,q1,q2,q3,hc⟩:=Cf HW.2.1 (show j<nn by omega);have r0:=Ze HB q0;have r1:=Ze HB q1;have r2:=Ze HB q2;have r3:=Ze HB q3;have il:=gp z (List.mem_of_getElem? hz);obtain⟨dq,cf⟩:=kh2 il hc;obtain⟨pb,fm⟩:∃ p,p=wr.heap.size:=⟨_,rfl⟩;obtain⟨Y2,el⟩:∃ Y,Y=wr.alloc (dE #[F d1 m1 e1,F d2 m2 e2,F d3 m3 e3,E J z.2.2.2] 67):=⟨_,rfl⟩;have av:ZD wr Y2:=(by rw[el];exact Zh _ _);have HQ:Hid (Y2.heap[pb]? = some (dE [F d1 m1 e1,F d2 m2 e2,F d3 m3 e3,E J z.2.2.2].toArray 67 (0,0))):=(by rw[el,fm];exact aG _ _);have HB:=onb HB av;have HX:=mvd av HX;have HP:=mvd av HP;have KS:Hid (∀ U:World,ZD Y2 U->(U.cell? ⟨pa,0,none⟩=some (F a1 n1 c1)/\U.cell? ⟨pa,1,none⟩=some (F a2 n2 c2)/\U.cell? ⟨pa,2,none⟩=some (F a3 n3 c3)/\U.cell? ⟨pa,3,none⟩=some (E J y.2.2.2)/\pa<U.heap.size/\U.cell? ⟨pb,0,none⟩=some (F d1 m1 e1)/\U.cell? ⟨pb,1,none⟩=some (F d2 m2 e2)/\U.cell? ⟨pb,2,none⟩=some (F d3 m3 e3)/\U.cell? ⟨pb,3,none⟩=some (E J z.2.2.2)/\pb<U.heap.size)):=λU hu=>⟨Ze hu (Zb HP 0 _ rfl),Ze hu (Zb HP 1 _ rfl),Ze hu (Zb HP 2 _ rfl),Ze hu (Zb HP 3 _ rfl),aD (aA HP) hu.size,Ze hu (Zb HQ 0 _ rfl),Ze hu (Zb HQ 1 _ rfl),Ze hu (Zb HQ 2 _ rfl),Ze hu (Zb HQ 3 _ rfl),aD (aA HQ) hu.size⟩
     have CA:=Zd (λV (hv:ZD w V)=>Zdl a1 a2 a3 n1 c1 n2 c2 n3 c3 y.1 y.2.2.2 V (ce.on hv).1 ce.2.2.2.1 (by rw[<-(Za ce).1.1];exact B9 dg));have CB:=Zd (λV (hv:ZD w V)=>Zdl d1 d2 d3 m1 e1 m2 e2 m3 e3 z.1 z.2.2.2 V (cf.on hv).1 cf.2.2.2.1 (by rw[<-(Za cf).1.1];exact B9 dq));clear av hc il hz q0 q1 q2 q3
     go_upto_region 10 with fail
     rw[<-el,<-fm];clear el fm r0 r1 r2 r3;refine dD (S:=λU=>U.cell? ⟨pa,0,none⟩=some (F a1 n1 c1)/\U.cell? ⟨pa,1,none⟩=some (F a2 n2 c2)/\U.cell? ⟨pa,2,none⟩=some (F a3 n3 c3)/\U.cell? ⟨pa,3,none⟩=some (E J y.2.2.2)/\pa<U.heap.size/\U.cell? ⟨pb,0,none⟩=some (F d1 m1 e1)/\U.cell? ⟨pb,1,none⟩=some (F d2 m2 e2)/\U.cell? ⟨pb,2,none⟩=some (F d3 m3 e3)/\U.cell? ⟨pb,3,none⟩=some (E J z.2.2.2)/\pb<U.heap.size) (by kernel_rfl) (KS _ (Zi Y2)) (λab=>?_);refine tkL 0 rfl ab ?_;refine tkL 1 rfl ab ?_;refine tkL 3 rfl ab ?_;refine tkL 4 rfl ab ?_;refine rdS 2 rfl (CA Y2.drew (Zf HB (Zi Y2))) ?_;rintro e w5 ⟨sa,sc,rfl,i1,t1,bq⟩;clear ab;have bq:=Zf (Zi Y2) bq;refine⟨_,rfl,KS _ bq,λab=>?_⟩;refine rdS 5 rfl (CB w5 (Zf HB bq)) ?_;rintro e w6 ⟨ta,tc,rfl,i2,t2,au⟩;clear ab;have fj:=Zf bq au;refine⟨_,rfl,KS _ fj,λab=>?_⟩;obtain⟨o,ho⟩:=ZF (decide (Uq y.1=Uq z.1));refine rdS 6 rfl (Tr.eqInt_is sa ta n1 m1 sc tc (Uq y.1) (Uq z.1) o w6 t1.len (i1.later au) i2 ho) ?_;rintro e w7 ⟨rfl,dw⟩;clear ab;have dl:=Zf fj dw;refine⟨_,rfl,KS _ dl,λab=>?_⟩;refine tkL 7 rfl ab ?_;refine wpAnyH_done (by kernel_rfl) ?_ _;clear ab KS CA CB i1 i2 t1 t2 bq au fj dw;have HB:=onb HB dl;have HX:=mvd dl HX;have HP:=mvd dl HP;have HQ:=mvd dl HQ;clear dl;cases o
     ·clear ho;go_wp2;go_roundw
      case rel=>exact⟨j+1,by omega,by go_num,HB,HX,HP⟩
      case measure=>simp[intOf];omega
     obtain⟨nf,ec⟩:=alike dg dq (of_decide_eq_true ho);have EC:=Zd ec;have gt:(y.2.2.2 != z.2.2.2)=false:=(by simp[nf]);have DA:=Zd (λV (hv:ZD w V)=>Nv ka kn kc W.k a1 a2 a3 n1 c1 n2 c2 n3 c3 y.1 y.2.1 y.2.2.1 y.2.2.2 0 V (HE.later hv) (HW.on hv).1 (ce.on hv).1 (ce.on hv).2.1 (ce.on hv).2.2.1 ce.2.2.2.1 ce.2.2.2.2.1 ce.2.2.2.2.2 (by rw[<-(Za ce).2.2.1.1];exact aN (Wh dg).1 (by decide)) (Wh dg).2 dg _ (if_pos rfl));have DB:=Zd (λV (hv:ZD w V)=>Nv ka kn kc W.k d1 d2 d3 m1 e1 m2 e2 m3 e3 z.1 z.2.1 z.2.2.1 z.2.2.2 0 V (HE.later hv) (HW.on hv).1 (cf.on hv).1 (cf.on hv).2.1 (cf.on hv).2.2.1 cf.2.2.2.1 cf.2.2.2.2.1 cf.2.2.2.2.2 (by rw[<-(Za cf).2.2.1.1];exact aN (Wh dq).1 (by decide)) (Wh dq).2 dq _ (if_pos rfl));clear nf ec ho;obtain⟨z0,z1,z2,zl⟩:=cl3 HX;obtain⟨g0,g1,g2,g3,ly⟩:=cl4 HP;go_wp2_with fail;refine (DA _ HB).mono ?_;rintro e w8 ⟨xa,xn,xc,rfl,ib,iv,cj⟩;have HB:=onb HB cj;have HX:=mvd cj HX;have HP:=mvd cj HP;have HQ:=mvd cj HQ;obtain⟨fa,gq⟩:=kh2 ib iv;clear cj ib iv DA z0 z1 z2 zl g0 g1 g2 g3 ly;obtain⟨z0,z1,z2,zl⟩:=cl3 HX;obtain⟨g0,g1,g2,g3,ly⟩:=cl4 HQ;go_wp2_with fail;refine (DB _ HB).mono ?_;rintro e w9 ⟨ya,yn,yc,rfl,eh,kq,cp⟩;have HB:=onb HB cp;have HX:=mvd cp HX;have HP:=mvd cp HP;have HQ:=mvd cp HQ;rw[<-Za EC] at eh;obtain rfl:xn=yn:=fa.1.symm.trans eh.1;have CU:=Zd (Zep xa ya xn xc yc _ w9 gq.len (fa.later cp) eh);clear cp eh kq DB fa gq z0 z1 z2 zl g0 g1 g2 g3 ly;obtain⟨f0,f1,f2,f3,nh⟩:=cl4 HP;obtain⟨g0,g1,g2,g3,ly⟩:=cl4 HQ
     go_wp2_with fail;refine CU.mono ?_;rintro e lx ⟨rfl,en⟩;have HB:=onb HB en;have HX:=mvd en HX;have HP:=mvd en HP;clear en CU HQ f0 f1 f2 f3 nh g0 g1 g2 g3 ly;go_wp2;go_roundw
     case rel=>exact⟨j+1,by omega,by go_num,HB,HX,HP⟩
     case measure=>simp[intOf];omega
    ·have kb:¬(j:Int)<(i:Int):=(by omega);clear HP;go_wp2;go_roundw
     case rel=>exact⟨i+1,by omega,by go_num,HB,HX⟩
     case measure=>simp[intOf];omega
  ·have hI:¬(i:Int)<(nn:Int):=(by omega);have HR:=Za fc
   rcases HR with ju|⟨rfl,rfl,da,dy,ij,fk,fg⟩
   ·subst ju;have C:=Zd (CS wr HB (λe=>absurd e (by decide)));clear fc CS;go_wp2_with fail;refine C.mono ?_;rintro e w5 ⟨bq,hr⟩
    obtain⟨_,rfl⟩:(12:Int)≠0/\e = dF (dG #[.agg #[F none 0 0,F none 0 0,F none 0 0],E J 12]):=by
     rcases hr with h|⟨h,_⟩
     ·exact h
     ·exact absurd h (by decide)
    have FB:Hid (∀ o,ZD w (w5.alloc o)):=λo=>Zf (Zf HB bq) (Zh _ _);clear bq hr C HX z0 z1 z2 zl;go_wp2;go_ret;exact⟨rfl,FB _⟩
   have fq:Zad y':=Ca da ⟨by rw[dy];exact aI _,by rw[dy];intro t ht;cases ht⟩;obtain⟨tv,hv,ip⟩:=works HC da ij;obtain⟨C,jh,jo,dg⟩:=kh4 (CS wr HB (λ_=>fq)) hv ip da;obtain⟨LV,ds⟩:∃ l,l=aR W.n.length y':=⟨_,rfl⟩;have ic:LV.length=nn:=(by rw[ds,List.length_replicate];exact Za HL);have id:∀ z,z∈LV->z=y':=λz hz=>by rw[ds] at hz;exact (List.mem_replicate.1 hz).2
   rw[<-ds] at C fk fg;obtain⟨jf,jc,go,fb,gs,jg⟩:=kh6 fk fg ic id fq ds;clear fc CS hv ip da dy ij fk fg ic id fq ds;go_wp2_with fail;refine C.mono ?_;rintro e w5 ⟨bq,hr⟩
   obtain⟨k1,k1n,k1c,n1,n1n,n1c,m1,bv,cm,rfl,hF,s1,s2,s3⟩:∃ k1 k1n k1c n1 n1n n1c m1 bv cm,e = dF (dG #[.agg #[F k1 k1n k1c,F n1 n1n n1c,F m1 bv cm],E J 0])/\Fresh wr.heap.size w5 (λw2=>WorldAt w2 ⟨W.k,LV,[]⟩ k1 k1n n1 n1n m1 bv)/\SlOk k1 k1n k1c/\SlOk n1 n1n n1c/\SlOk m1 bv cm:=by
    rcases hr with ⟨h,_⟩|⟨_,h⟩
    ·exact absurd rfl h
    ·exact h
   obtain⟨pv,fo⟩:∃ p,p=w5.heap.size:=⟨_,rfl⟩;obtain⟨V1,ei⟩:∃ V,V=w5.alloc (dE #[F k1 k1n k1c,F n1 n1n n1c,F m1 bv cm] 90):=⟨_,rfl⟩;have cl:ZD w5 V1:=(by rw[ei];exact Zh _ _);have am:Hid (V1.heap[pv]? = some (dE [F k1 k1n k1c,F n1 n1n n1c,F m1 bv cm].toArray 90 (0,0))):=(by rw[ei,fo];exact aG _ _);have HB:=onb HB (Zf bq cl);have HX:=mvd (Zf bq cl) HX;have dk:=(hF w5 (Gr.refl _ _)).on cl;obtain rfl:nn=n1n:=go.symm.trans dk.2.1.1;obtain rfl:0=bv:=dk.2.2.1;obtain⟨b1,o1,rfl,_,_⟩:=dk.2.1.2 (by omega);obtain⟨fd,S1,S2,S3⟩:=kh4 dk s1 s2 s3;obtain⟨y0,a1,f1,c1,a2,f2,c2,a3,f3,c3,iq,t0,t1,t2,t3,ih⟩:=Cf dk.2.1 (show 0<nn by omega);obtain rfl:y'=y0:=(fb y0 (List.mem_of_getElem? iq)).symm;rw[Nat.zero_mul,Nat.add_zero] at t0 t1 t2 t3;have cx:=Zd ih;have gy:Hid (∀ U:World,ZD V1 U->(U.cell? ⟨b1,o1,none⟩=some (F a1 f1 c1)/\U.cell? ⟨b1,o1+1,none⟩=some (F a2 f2 c2)/\U.cell? ⟨b1,o1+2,none⟩=some (F a3 f3 c3)/\U.cell? ⟨b1,o1+3,none⟩=some (E J y'.2.2.2)/\b1<U.heap.size)):=λU hu=>⟨Ze hu t0,Ze hu t1,Ze hu t2,Ze hu t3,aD (aE _ _ t0) hu.size⟩;have gu:Hid (ZD V1 V1):=Below.refl _ _;clear cl bq hr hF s1 s2 s3 dk ih iq t0 t1 t2 t3 C z0 z1 z2 zl
   go_upto_region 18 with fail
   rw[<-ei,<-fo];clear ei fo;obtain⟨et,eu,ev,ew⟩:=cl3 am;go_wp2_with fail
   go_loopw [102] (λlz V=>∃ q:Nat,q<=nn/\lz = E J q/\Hid (ZD V1 V)) (λq _=>nn - (intOf q).toNat)
   case atStart=>exact⟨0,aI _,rfl,gu⟩
   case round=>
    obtain⟨q,hq,rfl,HV⟩:=hrel;clear gu et eu ev ew;have am:=mvd HV am;by_cases kj:q<nn
    ·have ki:(q:Int)<(nn:Int):=(by omega);obtain⟨z,d1,g1,e1,d2,g2,e2,d3,g3,e3,hz,q0,q1,q2,q3,hc⟩:=Cf fd.2.1 kj;obtain rfl:y'=z:=(fb z (List.mem_of_getElem? hz)).symm;obtain rfl:f1=g1:=cx.1.1.symm.trans hc.1.1;obtain rfl:f2=g2:=cx.2.1.1.symm.trans hc.2.1.1;obtain rfl:f3=g3:=cx.2.2.1.1.symm.trans hc.2.2.1.1;have r0:=Ze HV q0;have r1:=Ze HV q1;have r2:=Ze HV q2;have r3:=Ze HV q3;have jt:b1<wr.heap.size:=aE _ _ r0;obtain⟨pn,db⟩:∃ p,p=wr.heap.size:=⟨_,rfl⟩;obtain⟨Y,hY⟩:=ZG (wr.alloc (dE #[F d1 f1 e1,F d2 f2 e2,F d3 f3 e3,E J y'.2.2.2] 67));have av:ZD wr Y:=(by rw[hY];exact Zh _ _);have HQ:Hid (Y.heap[pn]? = some (dE [F d1 f1 e1,F d2 f2 e2,F d3 f3 e3,E J y'.2.2.2].toArray 67 (0,0))):=(by rw[hY,db];exact aG _ _);have am:=mvd av am;have ef:=onb HV av
     have KS:Hid (∀ U:World,ZD Y U->(U.cell? ⟨pn,0,none⟩=some (F d1 f1 e1)/\U.cell? ⟨pn,1,none⟩=some (F d2 f2 e2)/\U.cell? ⟨pn,2,none⟩=some (F d3 f3 e3)/\U.cell? ⟨pn,3,none⟩=some (E J y'.2.2.2)/\pn<U.heap.size/\U.cell? ⟨pv,1,none⟩=some (F (some ⟨b1,o1,none⟩) nn n1c)/\pv<U.heap.size/\U.cell? ⟨b1,o1,none⟩=some (F a1 f1 c1)/\U.cell? ⟨b1,o1+1,none⟩=some (F a2 f2 c2)/\U.cell? ⟨b1,o1+2,none⟩=some (F a3 f3 c3)/\U.cell? ⟨b1,o1+3,none⟩=some (E J y'.2.2.2)/\b1<U.heap.size)):=λU hu=>⟨Ze hu (Zb HQ 0 _ rfl),Ze hu (Zb HQ 1 _ rfl),Ze hu (Zb HQ 2 _ rfl),Ze hu (Zb HQ 3 _ rfl),aD (aA HQ) hu.size,Ze hu (Zb am 1 _ rfl),aD (aA am) hu.size,gy U (Zf ef hu)⟩;have CN:=Zd (λV (hv:ZD V1 V)=>nodY d1 d2 a1 a2 d3 a3 f1 e1 f2 e2 c1 c2 f3 e3 c3 y'.1 y'.2.1 y'.2.2.1 y'.2.2.2 V (hc.on hv).1 (hc.on hv).2.1 (hc.on hv).2.2.1 (cx.on hv).1 (cx.on hv).2.1 (cx.on hv).2.2.1 hc.2.2.2.1 hc.2.2.2.2.1 hc.2.2.2.2.2);have kp:0<nn:=(by omega);clear av hc hz q0 q1 q2 q3
     go_upto_region 23 with fail
     rw[<-hY,<-db];clear hY db r0 r1 r2 r3;refine dD (S:=λU=>U.cell? ⟨pn,0,none⟩=some (F d1 f1 e1)/\U.cell? ⟨pn,1,none⟩=some (F d2 f2 e2)/\U.cell? ⟨pn,2,none⟩=some (F d3 f3 e3)/\U.cell? ⟨pn,3,none⟩=some (E J y'.2.2.2)/\pn<U.heap.size/\U.cell? ⟨pv,1,none⟩=some (F (some ⟨b1,o1,none⟩) nn n1c)/\pv<U.heap.size/\U.cell? ⟨b1,o1,none⟩=some (F a1 f1 c1)/\U.cell? ⟨b1,o1+1,none⟩=some (F a2 f2 c2)/\U.cell? ⟨b1,o1+2,none⟩=some (F a3 f3 c3)/\U.cell? ⟨b1,o1+3,none⟩=some (E J y'.2.2.2)/\b1<U.heap.size) (by kernel_rfl) (KS _ (Zi Y)) (λab=>?_);refine tkL 0 rfl ab ?_;refine tkL 1 rfl ab ?_;refine tkL 2 rfl ab ?_;refine tkL 3 rfl ab ?_;refine tkL 4 rfl ab ?_;refine rdS 5 rfl (CN Y.drew (Zf ef (Zi Y))) ?_;rintro e w6 ⟨rfl,au⟩;clear ab;have au:=Zf (Zi Y) au;refine⟨_,rfl,KS _ au,λab=>?_⟩;refine tkL 6 rfl ab ?_;refine wpAnyH_done (by kernel_rfl) ?_ _;clear ab KS CN;have jm:=onb ef au;clear au ef HQ;go_wp2;go_roundw
     case rel=>exact⟨q+1,by omega,by go_num,jm⟩
     case measure=>simp[intOf];omega
    have ki:¬(q:Int)<(nn:Int):=(by omega);have WK:=Zd (Tr.work_is a1 a2 f1 c1 f2 c2 y'.1 y'.2.1 y'.2.2.2 tv 0);have KS:Hid (∀ U:World,ZD wr U->(U.cell? ⟨pv,1,none⟩=some (F (some ⟨b1,o1,none⟩) nn n1c)/\pv<U.heap.size/\U.cell? ⟨b1,o1,none⟩=some (F a1 f1 c1)/\U.cell? ⟨b1,o1+1,none⟩=some (F a2 f2 c2)/\U.cell? ⟨b1,o1+2,none⟩=some (F a3 f3 c3)/\U.cell? ⟨b1,o1+3,none⟩=some (E J y'.2.2.2)/\b1<U.heap.size)):=λU hu=>⟨Ze hu (Zb am 1 _ rfl),aD (aA am) hu.size,gy U (Zf HV hu)⟩;have kp:0<nn:=(by omega);go_wp2_with fail;refine dD (S:=λU=>U.cell? ⟨pv,1,none⟩=some (F (some ⟨b1,o1,none⟩) nn n1c)/\pv<U.heap.size/\U.cell? ⟨b1,o1,none⟩=some (F a1 f1 c1)/\U.cell? ⟨b1,o1+1,none⟩=some (F a2 f2 c2)/\U.cell? ⟨b1,o1+2,none⟩=some (F a3 f3 c3)/\U.cell? ⟨b1,o1+3,none⟩=some (E J y'.2.2.2)/\b1<U.heap.size) (by kernel_rfl) (KS _ (Zi wr)) (λab=>?_);refine tkL 0 rfl ab ?_;refine tkL 1 rfl ab ?_;refine tkL 2 rfl ab ?_;refine tkL 3 rfl ab ?_;refine tkL 4 rfl ab ?_;refine tkL 5 rfl ab ?_;refine tkL 6 rfl ab ?_;refine tkL 7 rfl ab ?_;refine tkL 8 rfl ab ?_;refine tkL 9 rfl ab ?_;have dx:=cx.on (Zf HV (Zi wr));refine rdS 10 rfl (WK wr.drew dx.1 dx.2.1 dx.2.2.2.1 dx.2.2.2.2.1 jh) ?_;rintro e w6 ⟨rfl,au⟩;clear ab dx;have au:=Zf (Zi wr) au;refine⟨_,rfl,KS _ au,λab=>?_⟩;refine tkL 11 rfl ab ?_;refine tkL 12 rfl ab ?_;refine tkL 13 rfl ab ?_;refine tkL 14 rfl ab ?_;refine tkL 15 rfl ab ?_
    refine wpAnyH_done (by kernel_rfl) ?_ _;clear ab KS WK;have HV:=onb HV au;have am:=mvd au am;clear au;have gm:=onb HB HV;have jp:=mvd HV HX;obtain⟨z0,z1,z2,zl⟩:=cl3 jp;go_wp2_with fail
    go_loopw [131] (λlz V=>∃ q:Nat,q<=nn/\lz = E J q/\Hid (ZD w6 V)) (λq _=>nn - (intOf q).toNat)
    case atStart=>exact⟨0,aI _,rfl,Below.refl _ _⟩
    case round=>
     obtain⟨p,hp,rfl,H6⟩:=hrel;clear z0 z1 z2 zl;have cu:=onb gm H6;by_cases dy:p<nn
     ·have kh:(p:Int)<(nn:Int):=(by omega);obtain⟨z,d1,g1,e1,d2,g2,e2,d3,g3,e3,hz,q0,q1,q2,q3,hc⟩:=Cf HW.2.1 dy;have r0:=Ze cu q0;have r1:=Ze cu q1;have r2:=Ze cu q2;have r3:=Ze cu q3;have jt:b<wr.heap.size:=aE _ _ r0;obtain⟨tm,ii,kf⟩:=jo z (List.mem_of_getElem? hz);obtain⟨pn,db⟩:∃ p,p=wr.heap.size:=⟨_,rfl⟩;obtain⟨Y,hY⟩:=ZG (wr.alloc (dE #[F d1 g1 e1,F d2 g2 e2,F d3 g3 e3,E J z.2.2.2] 67));have av:ZD wr Y:=(by rw[hY];exact Zh _ _);have HQ:Hid (Y.heap[pn]? = some (dE [F d1 g1 e1,F d2 g2 e2,F d3 g3 e3,E J z.2.2.2].toArray 67 (0,0))):=(by rw[hY,db];exact aG _ _);have gx:=onb H6 av;have ez:=onb cu av;have WK:=Zd (Tr.work_is d1 d2 g1 e1 g2 e2 z.1 z.2.1 z.2.2.2 tm 0 Y (hc.on ez).1 (hc.on ez).2.1 hc.2.2.2.1 hc.2.2.2.2.1 ii);obtain⟨y0,y1,y2,y3,yl⟩:=cl4 HQ;have nj:¬tv<tm:=(by omega);clear av hc hz q0 q1 q2 q3 ii kf cu ez
      go_upto_region 30 with fail
      rw[<-hY,<-db];clear hY db r0 r1 r2 r3;go_wp2_with fail;refine WK.mono ?_;rintro e w7 ⟨rfl,dw⟩;have H7:=onb gx dw;clear dw gx HQ WK y0 y1 y2 y3 yl;go_wp2;go_roundw
      case rel=>exact⟨p+1,by omega,by go_num,H7⟩
      case measure=>simp[intOf];omega
     have kh:¬(p:Int)<(nn:Int):=(by omega);have gv:=onb HV H6;have am:=mvd H6 am;have ek:=fd.on gv;have C2:=Zd (Hl k1 k1n k1c (some ⟨b1,o1,none⟩) nn n1c m1 0 cm ⟨W.k,LV,[]⟩ 0 W.k y' wr (HE.later cu) ek.1 ek.2.1 ek.2.2 S1 S2 S3 (λz hz=>by rw[(Za fb) z hz];exact gs.2.2.2) (λm hm=>by cases hm) jf jc (λ_=>Za gs));obtain⟨et,eu,ev,ew⟩:=cl3 am;clear H6 gm ek;go_wp2_with fail;refine C2.mono ?_;rintro e w8 ⟨cj,hr⟩
     obtain⟨k2,fu,ft,n2,fy,fx,m2,fw,fv,rfl,hF,s1,s2,s3⟩:∃ k1 k1n k1c n1 n1n n1c m1 bv cm,e = dF (dG #[.agg #[F k1 k1n k1c,F n1 n1n n1c,F m1 bv cm],E J 0])/\Fresh wr.heap.size w8 (λw2=>WorldAt w2 ⟨W.k,aR LV.length y',[]⟩ k1 k1n n1 n1n m1 bv)/\SlOk k1 k1n k1c/\SlOk n1 n1n n1c/\SlOk m1 bv cm:=by
      rcases hr with ⟨h,_⟩|⟨_,h⟩
      ·exact absurd rfl h
      ·exact h
     rw[Za go,<-Za HL,<-Za jg] at hF;obtain⟨V2,ej⟩:∃ V,V=w8.alloc (dE #[F k2 fu ft,F n2 fy fx,F m2 fw fv] 90):=⟨_,rfl⟩;have cl:ZD w8 V2:=(by rw[ej];exact Zh _ _);have jl:Hid (V2.heap[w8.heap.size]? = some (dE [F k2 fu ft,F n2 fy fx,F m2 fw fv].toArray 90 (0,0))):=(by rw[ej];exact aG _ _);have dj:=(hF w8 (Gr.refl _ _)).on cl;have jd:=onb cu (Zf cj cl);have jn:=onb gv (Zf cj cl);have am:=mvd (Zf cj cl) am;have dv:=fd.on jn;obtain rfl:k1n=fu:=dv.1.1.symm.trans dj.1.1;obtain rfl:nn=fy:=dv.2.1.1.symm.trans dj.2.1.1;obtain rfl:0=fw:=dj.2.2.1;have CW:=Zd (Ziz k2 n2 k1 (some ⟨b1,o1,none⟩) k1n ft nn fx k1c n1c W.k LV V2 dj.1 dj.2.1 dv.1 dv.2.1 s1 s2 m2 m1 fv cm);clear cl cj hr hF s1 s2 s3 dj dv C2 et eu ev ew
     go_upto_region 35 with fail
     rw[<-ej];clear ej;obtain⟨v0,v1,v2,vl⟩:=cl3 jl;obtain⟨et,eu,ev,ew⟩:=cl3 am;go_wp2_with fail;refine CW.mono ?_;rintro e w9 ⟨rfl,cp⟩;have HB:=onb jd cp;clear cp CW;go_wp2;go_ret;exact⟨rfl,Za HB⟩
