import Derived.Test.YtmomfkikogbdeaaGreatDoorH
import Derived.Test.YtmomfkikogbdeaaGreatDoorG43
open Go.Proofs.Tryz
open Go renaming lt_of_block->aA,bodyPost_ret->bB,maxLen->cK,heap_alloc_new->aG,wp_region_held_drew->dD
open Go.Ending renaming returned->dF
open Go.IntKind renaming i64->J
open Go.Obj renaming cells->dE
open Go.Proofs.Tryz renaming prog->aB
open Go.Value renaming int->E,slice->F,tuple->dG,pointer->dH,bool->dI
open Go.World renaming block_lt_of_cell?->aE,size_alloc->cL
open Nat renaming zero_le->aI,lt_of_lt_of_le->aD
set_option maxHeartbeats 12800000
set_option maxRecDepth 10000
namespace Go.Proofs.YtmomfkikogbdeaaGreatDoor
open Go.RowKit
theorem Am(Z:Nat->Prop)(s:Nat)(x:Int)(W':WD)(w)(hC:Calls aB 121 #[dH (some ⟨s,0,none⟩)] w λe w'=>Uy Z s x W' w w' e) :
  Calls aB 120 #[dH (some ⟨s,0,none⟩)] w λe w'=>Uy Z s x W' w w' e:=by
 have C:=Zd hC;clear hC;go_enter func120,ntmps120;go_wp2_with fail;refine C.mono ?_;rintro e w' ⟨rfl,h1,h2⟩;obtain⟨H1,H2⟩:=kh2 h1 h2;clear h1 h2 C;go_wp2;go_ret;exact⟨rfl,Za H1,Za H2⟩
theorem Hl(ka kn kc na nn nc ma mn mc)(W:WD)(x:Int)(K')(y':Ye)(w)(hE:Env w)(hK:Bk.TextsAt w ka kn W.k)(hN:NodsAt w na nn W.n)(hM:MsgsAt w ma mn W.m)(sK:SlOk ka kn kc)(sN:SlOk na nn nc)(sM:SlOk ma mn mc)(au:∀ y∈W.n,Qo y)(ar:∀ m∈W.m,J3 m)(h0:Ur W.k W.n W.m=0)(hx:∀ Q,Stl W.n Q->Wo W.k ([],[],[],0) Q=(x,K',y'))(hy:x=0->Zad y') :
  Calls aB 49 #[.agg #[F ka kn kc,F na nn nc,F ma mn mc]] w λe w'=>M6 w w' x ⟨K',List.replicate W.n.length y',[]⟩ e:=by
 obtain⟨X,hX⟩:=ZG (Yv w [dE #[F ka kn kc,F na nn nc,F ma mn mc] 90,dE #[F none 0 0,F none 0 0,F none 0 0] 90]);have aq:X=(w.alloc (dE #[F ka kn kc,F na nn nc,F ma mn mc] 90)).alloc (dE #[F none 0 0,F none 0 0,F none 0 0] 90):=hX;have ab:ZD w X:=by rw[hX];exact Zs _ _
 have be:=kl0 hX _ _ rfl;have am:=kl hX 1 _ _ rfl;obtain⟨W',eW⟩:∃ W':WD,W'=⟨K',List.replicate W.n.length y',[]⟩:=⟨_,rfl⟩;rw[<-eW];obtain⟨C1,an,aa⟩:=kh3 (Hm ka kn kc na nn nc ma mn mc W 0 x x W' 120 #[] X (hE.later ab) (hK.later ab) (hN.later ab) (hM.later ab) sK sN sM au ar h0 (λ_=>⟨enters_of (fn:=Tryz.f120) (by kernel_rfl) (by kernel_rfl) rfl,λZ V s _ hV hS=>Am Z s x W' V (by rw[eW];exact Zfd Z s W x K' y' V (hE.later (Zf ab hV)) hS h0 hx hy)⟩) (if_pos rfl)) ab am;obtain⟨m0,m1,m2,ml⟩:=cl3 (Zd be);have bq:=aA am;clear hE hK hN hM sK sN sM au ar h0 hx hy ab be am hX eW;go_enter func49,ntmps49
 go_upto_region 1 with fail
 rw[<-aq];clear aq;go_wp2_with fail;refine C1.mono ?_;rintro e w1 ⟨ah,hr⟩;have ae:=onb an ah;have aa:=mvd ah aa;obtain⟨r0,r1,r2,rl⟩:=cl3 aa;have f0:=Zg aa 0;have f1:=Zg aa 1;have f2:=Zg aa 2;clear ah C1 an m0 m1 m2 ml aa
 rcases hr with ⟨hx,rfl⟩|⟨rfl,k1,k1n,k1c,n1,n1n,n1c,m1,ak,aj,rfl,hF,s1,s2,s3⟩
 ·have af:Hid (∀ V,Gr w1 V (λq=>q=w.heap.size+1)->M6 w V x W' (dF (dG #[.agg #[F none 0 0,F none 0 0,F none 0 0],E J x]))):=λV g=>⟨g.below ae ae.size (λq e=>by have e:q=w.heap.size+1:=e;omega),.inl ⟨hx,rfl⟩⟩;go_wp2;(try simp only[Exit.inBlock,Exit.then]);refine bB (v:=dG #[.agg #[F none 0 0,F none 0 0,F none 0 0],E J x]) ?_ rfl ?_
  ·rw[Zo rfl];go_simp
  ·refine af _ ?_
   repeat' first|refine Gr.one ?_ _ _ ?_ _|exact Gr.refl _ _
   all_goals exact Or.inl rfl
 ·have af:Hid (∀ V,Gr w1 V (λq=>q=w.heap.size+1)->M6 w V 0 W' (dF (dG #[.agg #[F k1 k1n k1c,F n1 n1n n1c,F m1 ak aj],E J 0]))):=λV g=>⟨g.below ae ae.size (λq e=>by have e:q=w.heap.size+1:=e;omega),.inr ⟨rfl,k1,k1n,k1c,n1,n1n,n1c,m1,ak,aj,rfl,(hF.on (g.mono (λq _ e=>by have e:q=w.heap.size+1:=e;omega))).less (by omega),s1,s2,s3⟩⟩;clear hF s1 s2 s3;go_wp2;(try simp only[Exit.inBlock,Exit.then]);refine bB (v:=dG #[.agg #[F k1 k1n k1c,F n1 n1n n1c,F m1 ak aj],E J 0]) ?_ rfl ?_
  ·rw[Zo rfl];go_simp
  ·refine af _ ?_
   repeat' first|refine Gr.one ?_ _ _ ?_ _|exact Gr.refl _ _
   all_goals exact Or.inl rfl
def Su{α : Type}(Z:Tr.Rec α)(f:Nat):Prop:=(∀ args w,(callFunc f args).run aB w = .ok (.enter f args) w)/\∀ V cs ds x,Z.C V cs x->Z.C V ds x->Calls aB f #[.agg cs.toArray,.agg ds.toArray] V λe w'=>e = dF (dI true)/\ZD V w'
def coinR:Tr.Rec Zj where
 sz:=6
 C w cs x:=∃ a n c,cs=[E J x.1,E J x.2.1,E J (cv x),F a n c,E J (ch x),dI (cr x)]/\OpsAt w a n (ck x)/\SlOk a n c
 R:=CoinAt
 wide _ _ _:=by rintro ⟨a,n,c,rfl,_⟩;rfl
 one _ _ _:=by rintro ⟨a,n,c,rfl,_⟩ v hv;simp at hv;rcases hv with rfl|rfl|rfl|rfl|rfl|rfl <;> rfl
 kept _ _ _ _ hb:=by rintro ⟨a,n,c,rfl,h1,h2⟩;exact⟨a,n,c,rfl,h1.later hb,h2⟩
 rc _ _ _ _:=by
  rintro ⟨h0,h1,h2,⟨a,n,c,h3,h6⟩,h4,h5⟩;refine⟨_,λj u hj=>?_,a,n,c,rfl,h6⟩
  match j,hj with
  | 0,hj=>cases hj;exact h0
  | 1,hj=>cases hj;exact h1
  | 2,hj=>cases hj;exact h2
  | 3,hj=>cases hj;exact h3
  | 4,hj=>cases hj;exact h4
  | 5,hj=>cases hj;exact h5
 cr _ _ _ _ _ h:=by rintro ⟨a,n,c,rfl,h1⟩;exact⟨h 0 _ rfl,h 1 _ rfl,h 2 _ rfl,⟨a,n,c,h 3 _ rfl,h1⟩,h 4 _ rfl,h 5 _ rfl⟩
theorem ca2{w w':World}{b o v0 v1}(hb:ZD w w')(h:Tr.CellsAt w b o [v0,v1]):w'.cell? ⟨b,o,none⟩=some v0/\w'.cell? ⟨b,o+1,none⟩=some v1/\b<w'.heap.size:=⟨Ze hb (h 0 _ rfl),Ze hb (h 1 _ rfl),aE _ _ (Ze hb (h 0 _ rfl))⟩
theorem ca3{w w':World}{b o v0 v1 v2}(hb:ZD w w')(h:Tr.CellsAt w b o [v0,v1,v2]):w'.cell? ⟨b,o,none⟩=some v0/\w'.cell? ⟨b,o+1,none⟩=some v1/\w'.cell? ⟨b,o+2,none⟩=some v2/\b<w'.heap.size:=⟨Ze hb (h 0 _ rfl),Ze hb (h 1 _ rfl),Ze hb (h 2 _ rfl),aE _ _ (Ze hb (h 0 _ rfl))⟩
theorem ca4{w w':World}{b o v0 v1 v2 v3}(hb:ZD w w')(h:Tr.CellsAt w b o [v0,v1,v2,v3]):w'.cell? ⟨b,o,none⟩=some v0/\w'.cell? ⟨b,o+1,none⟩=some v1/\w'.cell? ⟨b,o+2,none⟩=some v2/\w'.cell? ⟨b,o+3,none⟩=some v3/\b<w'.heap.size:=⟨Ze hb (h 0 _ rfl),Ze hb (h 1 _ rfl),Ze hb (h 2 _ rfl),Ze hb (h 3 _ rfl),aE _ _ (Ze hb (h 0 _ rfl))⟩
theorem ca5{w w':World}{b o v0 v1 v2 v3 v4}(hb:ZD w w')(h:Tr.CellsAt w b o [v0,v1,v2,v3,v4]):w'.cell? ⟨b,o,none⟩=some v0/\w'.cell? ⟨b,o+1,none⟩=some v1/\w'.cell? ⟨b,o+2,none⟩=some v2/\w'.cell? ⟨b,o+3,none⟩=some v3/\w'.cell? ⟨b,o+4,none⟩=some v4/\b<w'.heap.size:=⟨Ze hb (h 0 _ rfl),Ze hb (h 1 _ rfl),Ze hb (h 2 _ rfl),Ze hb (h 3 _ rfl),Ze hb (h 4 _ rfl),aE _ _ (Ze hb (h 0 _ rfl))⟩
theorem ca6{w w':World}{b o v0 v1 v2 v3 v4 v5}(hb:ZD w w')(h:Tr.CellsAt w b o [v0,v1,v2,v3,v4,v5]):w'.cell? ⟨b,o,none⟩=some v0/\w'.cell? ⟨b,o+1,none⟩=some v1/\w'.cell? ⟨b,o+2,none⟩=some v2/\w'.cell? ⟨b,o+3,none⟩=some v3/\w'.cell? ⟨b,o+4,none⟩=some v4/\w'.cell? ⟨b,o+5,none⟩=some v5/\b<w'.heap.size:=⟨Ze hb (h 0 _ rfl),Ze hb (h 1 _ rfl),Ze hb (h 2 _ rfl),Ze hb (h 3 _ rfl),Ze hb (h 4 _ rfl),Ze hb (h 5 _ rfl),aE _ _ (Ze hb (h 0 _ rfl))⟩
theorem cl6{V:World}{b:Nat}{t:TypeId}{v0 v1 v2 v3 v4 v5}(h:Hid (V.heap[b]? = some (dE [v0,v1,v2,v3,v4,v5].toArray t (0,0)))):V.cell? ⟨b,0,none⟩=some v0/\V.cell? ⟨b,1,none⟩=some v1/\V.cell? ⟨b,2,none⟩=some v2/\V.cell? ⟨b,3,none⟩=some v3/\V.cell? ⟨b,4,none⟩=some v4/\V.cell? ⟨b,5,none⟩=some v5/\b<V.heap.size:=⟨Zb h 0 _ rfl,Zb h 1 _ rfl,Zb h 2 _ rfl,Zb h 3 _ rfl,Zb h 4 _ rfl,Zb h 5 _ rfl,aA h⟩
theorem Zkz(f:Nat)(hf:Su Tr.inR f)(a b)(n c d:Nat)(l)(w:World)(hn:n<=cK)(hA:RowsAt Tr.inR.R 3 w a n l)(hB:RowsAt Tr.inR.R 3 w b n l) :
  ZH 95 #[F a n c,F b n d,.func (.func f) #[] #[]] w (dI true):=by
 unfold cK at hn;have eg:=hf.1;obtain⟨HF,H1,H2⟩:=kh3 hf.2 hA hB;have g0:((n:Int) != (n:Int))=false:=by simp
 clear hA hB hf;go_enter func95,ntmps95;go_wp2
 go_loopw [17] (λi wr=>∃ j:Nat,j<=n/\i = E J j/\Hid (ZD w wr)) (λi _=>n - (intOf i).toNat)
 case atStart=>exact⟨0,aI _,rfl,Below.refl _ _⟩
 case round=>
  obtain⟨j,hk,rfl,HB⟩:=hrel;by_cases bv:j<n
  ·obtain⟨b1,o1,rfl,_,h1⟩:=H1.2 (by omega);obtain⟨b2,o2,rfl,_,h2⟩:=H2.2 (by omega);have hl:j<l.length:=(by rw[(Za H1).1];exact bv);obtain⟨cs,hc,C1⟩:=Tr.inR.rc _ _ _ _ (h1 j hl);obtain⟨ds,hd,C2⟩:=Tr.inR.rc _ _ _ _ (h2 j hl);obtain⟨x,hx⟩:=ZF (l[j]);rw[hx] at C1 C2;have CC:=Zd (λV (hv:ZD w V)=>HF V cs ds x (Tr.inR.kept _ _ _ _ hv C1) (Tr.inR.kept _ _ _ _ hv C2));obtain⟨ax,p1n,p1c,rfl,_⟩:=C1;obtain⟨ay,bb,az,rfl,_⟩:=C2;obtain⟨br,bs,bt,cp⟩:=ca3 HB hc;obtain⟨bk,bo,bq,lt2⟩:=ca3 HB hd;obtain⟨X,hX⟩:=ZG (wr.alloc (dE #[E J x.1,E J x.2.1,F ax p1n p1c] 119));have ae:ZD wr X:=(by rw[hX];exact Zh _ _);obtain⟨Y,hY⟩:=ZG (X.alloc (dE #[E J x.1,E J x.2.1,F ay bb az] 119));have af:ZD X Y:=(by rw[hY];exact Zh _ _);have bu:X.heap.size=wr.heap.size+1:=(by rw[hX];simp);have HA:Hid (Y.heap[wr.heap.size]? = some (dE [E J x.1,E J x.2.1,F ax p1n p1c].toArray 119 (0,0))):=(af.block _ (by omega)).trans (by rw[hX];exact aG _ _);have ap:Hid (Y.heap[wr.heap.size+1]? = some (dE [E J x.1,E J x.2.1,F ay bb az].toArray 119 (0,0))):=(by rw[<-bu,hY];exact aG _ _);obtain⟨bh,bi,bj,el⟩:=ca3 (Zf HB ae) hd;obtain⟨bz,ca,cb,al⟩:=cl3 HA;obtain⟨cc,cd,ce,dl⟩:=cl3 ap;have aq:=onb HB (Zf ae af);have C:=Zd (CC Y aq);have cm:(j:Int)<(n:Int):=(by omega);clear ae af hx HA ap hc hd CC h1 h2 hl
   go_upto_region 6 with fail
   rw[<-hX];clear hX
   go_upto_region 7 with fail
   rw[<-hY];clear hY br bk bh bs bo bi bt bq bj;go_wp2_with fail;refine C.mono ?_;rintro e w3 ⟨rfl,au⟩;have be:=onb aq au;clear au C;go_wp2;go_roundw
   case rel=>exact⟨j+1,by omega,by go_num,be⟩
   case measure=>simp[intOf];omega
  ·go_wp2;go_ret;exact⟨rfl,Za HB⟩
theorem Dg(f:Nat)(hf:Su Tr.outR f)(a b)(n c d:Nat)(l)(w:World)(hn:n<=cK)(hA:RowsAt Tr.outR.R 2 w a n l)(hB:RowsAt Tr.outR.R 2 w b n l) :
  ZH 96 #[F a n c,F b n d,.func (.func f) #[] #[]] w (dI true):=by
 unfold cK at hn;have eg:=hf.1;obtain⟨HF,H1,H2⟩:=kh3 hf.2 hA hB;have g0:((n:Int) != (n:Int))=false:=by simp
 clear hA hB hf;go_enter func96,ntmps96;go_wp2
 go_loopw [17] (λi wr=>∃ j:Nat,j<=n/\i = E J j/\Hid (ZD w wr)) (λi _=>n - (intOf i).toNat)
 case atStart=>exact⟨0,aI _,rfl,Below.refl _ _⟩
 case round=>
  obtain⟨j,hk,rfl,HB⟩:=hrel;by_cases bs:j<n
  ·obtain⟨b1,o1,rfl,_,h1⟩:=H1.2 (by omega);obtain⟨b2,o2,rfl,_,h2⟩:=H2.2 (by omega);have hl:j<l.length:=(by rw[(Za H1).1];exact bs);obtain⟨cs,hc,C1⟩:=Tr.outR.rc _ _ _ _ (h1 j hl);obtain⟨ds,hd,C2⟩:=Tr.outR.rc _ _ _ _ (h2 j hl);obtain⟨x,hx⟩:=ZF (l[j]);rw[hx] at C1 C2;have CC:=Zd (λV (hv:ZD w V)=>HF V cs ds x (Tr.outR.kept _ _ _ _ hv C1) (Tr.outR.kept _ _ _ _ hv C2));obtain⟨ax,p1n,p1c,rfl,_⟩:=C1;obtain⟨ay,bb,az,rfl,_⟩:=C2;obtain⟨bo,bq,cg⟩:=ca2 HB hc;obtain⟨bj,bk,lt2⟩:=ca2 HB hd;obtain⟨X,hX⟩:=ZG (wr.alloc (dE #[E J x.1,F ax p1n p1c] 122));have ae:ZD wr X:=(by rw[hX];exact Zh _ _);obtain⟨Y,hY⟩:=ZG (X.alloc (dE #[E J x.1,F ay bb az] 122));have af:ZD X Y:=(by rw[hY];exact Zh _ _);have br:X.heap.size=wr.heap.size+1:=(by rw[hX];simp);have HA:Hid (Y.heap[wr.heap.size]? = some (dE [E J x.1,F ax p1n p1c].toArray 122 (0,0))):=(af.block _ (by omega)).trans (by rw[hX];exact aG _ _);have ap:Hid (Y.heap[wr.heap.size+1]? = some (dE [E J x.1,F ay bb az].toArray 122 (0,0))):=(by rw[<-br,hY];exact aG _ _);obtain⟨bh,bi,el⟩:=ca2 (Zf HB ae) hd;obtain⟨bu,bv,al⟩:=cl2 HA;obtain⟨bx,bz,dl⟩:=cl2 ap;have aq:=onb HB (Zf ae af);have C:=Zd (CC Y aq);have ce:(j:Int)<(n:Int):=(by omega);clear ae af hx HA ap hc hd CC h1 h2 hl
   go_upto_region 6 with fail
   rw[<-hX];clear hX
   go_upto_region 7 with fail
   rw[<-hY];clear hY bo bj bh bq bk bi;go_wp2_with fail;refine C.mono ?_;rintro e w3 ⟨rfl,au⟩;have be:=onb aq au;clear au C;go_wp2;go_roundw
   case rel=>exact⟨j+1,by omega,by go_num,be⟩
   case measure=>simp[intOf];omega
  ·go_wp2;go_ret;exact⟨rfl,Za HB⟩
theorem Sm(f:Nat)(hf:Su Tr.txR f)(a b)(n c d:Nat)(l)(w:World)(hn:n<=cK)(hA:RowsAt Tr.txR.R 3 w a n l)(hB:RowsAt Tr.txR.R 3 w b n l) :
  ZH 29 #[F a n c,F b n d,.func (.func f) #[] #[]] w (dI true):=by
 unfold cK at hn;have eg:=hf.1;obtain⟨HF,H1,H2⟩:=kh3 hf.2 hA hB;have g0:((n:Int) != (n:Int))=false:=by simp
 clear hA hB hf;go_enter func29,ntmps29;go_wp2
 go_loopw [17] (λi wr=>∃ j:Nat,j<=n/\i = E J j/\Hid (ZD w wr)) (λi _=>n - (intOf i).toNat)
 case atStart=>exact⟨0,aI _,rfl,Below.refl _ _⟩
 case round=>
  obtain⟨j,hk,rfl,HB⟩:=hrel;by_cases cd:j<n
  ·obtain⟨b1,o1,rfl,_,h1⟩:=H1.2 (by omega);obtain⟨b2,o2,rfl,_,h2⟩:=H2.2 (by omega);have hl:j<l.length:=(by rw[(Za H1).1];exact cd);obtain⟨cs,hc,C1⟩:=Tr.txR.rc _ _ _ _ (h1 j hl);obtain⟨ds,hd,C2⟩:=Tr.txR.rc _ _ _ _ (h2 j hl);obtain⟨x,hx⟩:=ZF (l[j]);rw[hx] at C1 C2;have CC:=Zd (λV (hv:ZD w V)=>HF V cs ds x (Tr.txR.kept _ _ _ _ hv C1) (Tr.txR.kept _ _ _ _ hv C2));obtain⟨ax,p1n,p1c,bd,bf,be,rfl,_⟩:=C1;obtain⟨ay,bb,az,bg,bi,bh,rfl,_⟩:=C2;obtain⟨bz,ca,cb,cy⟩:=ca3 HB hc;obtain⟨bu,bv,bx,lt2⟩:=ca3 HB hd;obtain⟨X,hX⟩:=ZG (wr.alloc (dE #[E J x.1,F ax p1n p1c,F bd bf be] 59));have ae:ZD wr X:=(by rw[hX];exact Zh _ _);obtain⟨Y,hY⟩:=ZG (X.alloc (dE #[E J x.1,F ay bb az,F bg bi bh] 59));have af:ZD X Y:=(by rw[hY];exact Zh _ _);have cc:X.heap.size=wr.heap.size+1:=(by rw[hX];simp);have HA:Hid (Y.heap[wr.heap.size]? = some (dE [E J x.1,F ax p1n p1c,F bd bf be].toArray 59 (0,0))):=(af.block _ (by omega)).trans (by rw[hX];exact aG _ _);have ap:Hid (Y.heap[wr.heap.size+1]? = some (dE [E J x.1,F ay bb az,F bg bi bh].toArray 59 (0,0))):=(by rw[<-cc,hY];exact aG _ _);obtain⟨br,bs,bt,el⟩:=ca3 (Zf HB ae) hd;obtain⟨cf,cg,cj,al⟩:=cl3 HA;obtain⟨cl,cm,cn,dl⟩:=cl3 ap;have aq:=onb HB (Zf ae af);have C:=Zd (CC Y aq);have cw:(j:Int)<(n:Int):=(by omega);clear ae af hx HA ap hc hd CC h1 h2 hl
   go_upto_region 6 with fail
   rw[<-hX];clear hX
   go_upto_region 7 with fail
   rw[<-hY];clear hY bz bu br ca bv bs cb bx bt;go_wp2_with fail;refine C.mono ?_;rintro e w3 ⟨rfl,au⟩;have bk:=onb aq au;clear au C;go_wp2;go_roundw
   case rel=>exact⟨j+1,by omega,by go_num,bk⟩
   case measure=>simp[intOf];omega
  ·go_wp2;go_ret;exact⟨rfl,Za HB⟩
theorem Dh(f:Nat)(hf:Su Tr.blkR f)(a b)(n c d:Nat)(l)(w:World)(hn:n<=cK)(hA:RowsAt Tr.blkR.R 5 w a n l)(hB:RowsAt Tr.blkR.R 5 w b n l) :
  ZH 122 #[F a n c,F b n d,.func (.func f) #[] #[]] w (dI true):=by
 unfold cK at hn;have eg:=hf.1;obtain⟨HF,H1,H2⟩:=kh3 hf.2 hA hB;have g0:((n:Int) != (n:Int))=false:=by simp
 clear hA hB hf;go_enter func122,ntmps122;go_wp2
 go_loopw [17] (λi wr=>∃ j:Nat,j<=n/\i = E J j/\Hid (ZD w wr)) (λi _=>n - (intOf i).toNat)
 case atStart=>exact⟨0,aI _,rfl,Below.refl _ _⟩
 case round=>
  obtain⟨j,hk,rfl,HB⟩:=hrel;by_cases cd:j<n
  ·obtain⟨b1,o1,rfl,_,h1⟩:=H1.2 (by omega);obtain⟨b2,o2,rfl,_,h2⟩:=H2.2 (by omega);have hl:j<l.length:=(by rw[(Za H1).1];exact cd);obtain⟨cs,hc,C1⟩:=Tr.blkR.rc _ _ _ _ (h1 j hl);obtain⟨ds,hd,C2⟩:=Tr.blkR.rc _ _ _ _ (h2 j hl);obtain⟨x,hx⟩:=ZF (l[j]);rw[hx] at C1 C2;have CC:=Zd (λV (hv:ZD w V)=>HF V cs ds x (Tr.blkR.kept _ _ _ _ hv C1) (Tr.blkR.kept _ _ _ _ hv C2));obtain⟨ax,p1n,p1c,rfl,_⟩:=C1;obtain⟨ay,bb,az,rfl,_⟩:=C2;obtain⟨bv,bx,bz,ca,cb,dc⟩:=ca5 HB hc;obtain⟨bq,br,bs,bt,bu,lt2⟩:=ca5 HB hd;obtain⟨X,hX⟩:=ZG (wr.alloc (dE #[E J x.1,E J x.2.1,E J x.2.2.1,E J x.2.2.2.1,F ax p1n p1c] 39));have ae:ZD wr X:=(by rw[hX];exact Zh _ _);obtain⟨Y,hY⟩:=ZG (X.alloc (dE #[E J x.1,E J x.2.1,E J x.2.2.1,E J x.2.2.2.1,F ay bb az] 39));have af:ZD X Y:=(by rw[hY];exact Zh _ _);have cc:X.heap.size=wr.heap.size+1:=(by rw[hX];simp);have HA:Hid (Y.heap[wr.heap.size]? = some (dE [E J x.1,E J x.2.1,E J x.2.2.1,E J x.2.2.2.1,F ax p1n p1c].toArray 39 (0,0))):=(af.block _ (by omega)).trans (by rw[hX];exact aG _ _);have ap:Hid (Y.heap[wr.heap.size+1]? = some (dE [E J x.1,E J x.2.1,E J x.2.2.1,E J x.2.2.2.1,F ay bb az].toArray 39 (0,0))):=(by rw[<-cc,hY];exact aG _ _);obtain⟨bh,bi,bj,bk,bo,el⟩:=ca5 (Zf HB ae) hd;obtain⟨cf,cg,cj,cl,cm,al⟩:=cl5 HA;obtain⟨cn,cp,cq,ct,cu,dl⟩:=cl5 ap;have aq:=onb HB (Zf ae af);have C:=Zd (CC Y aq)
   have da:(j:Int)<(n:Int):=(by omega);clear ae af hx HA ap hc hd CC h1 h2 hl
   go_upto_region 6 with fail
   rw[<-hX];clear hX
   go_upto_region 7 with fail
   rw[<-hY];clear hY bv bq bh bx br bi bz bs bj ca bt bk cb bu bo;go_wp2_with fail;refine C.mono ?_;rintro e w3 ⟨rfl,au⟩;have be:=onb aq au;clear au C;go_wp2;go_roundw
   case rel=>exact⟨j+1,by omega,by go_num,be⟩
   case measure=>simp[intOf];omega
  ·go_wp2;go_ret;exact⟨rfl,Za HB⟩
theorem Zgw(f:Nat)(hf:Su Tr.nodR f)(a b)(n c d:Nat)(l)(w:World)(hn:n<=cK)(hA:RowsAt Tr.nodR.R 4 w a n l)(hB:RowsAt Tr.nodR.R 4 w b n l) :
  ZH 54 #[F a n c,F b n d,.func (.func f) #[] #[]] w (dI true):=by
 unfold cK at hn;have eg:=hf.1;obtain⟨HF,H1,H2⟩:=kh3 hf.2 hA hB;have g0:((n:Int) != (n:Int))=false:=by simp
 clear hA hB hf;go_enter func54,ntmps54;go_wp2
 go_loopw [17] (λi wr=>∃ j:Nat,j<=n/\i = E J j/\Hid (ZD w wr)) (λi _=>n - (intOf i).toNat)
 case atStart=>exact⟨0,aI _,rfl,Below.refl _ _⟩
 case round=>
  obtain⟨j,hk,rfl,HB⟩:=hrel;by_cases cq:j<n
  ·obtain⟨b1,o1,rfl,_,h1⟩:=H1.2 (by omega);obtain⟨b2,o2,rfl,_,h2⟩:=H2.2 (by omega);have hl:j<l.length:=(by rw[(Za H1).1];exact cq);obtain⟨cs,hc,C1⟩:=Tr.nodR.rc _ _ _ _ (h1 j hl);obtain⟨ds,hd,C2⟩:=Tr.nodR.rc _ _ _ _ (h2 j hl);obtain⟨x,hx⟩:=ZF (l[j]);rw[hx] at C1 C2;have CC:=Zd (λV (hv:ZD w V)=>HF V cs ds x (Tr.nodR.kept _ _ _ _ hv C1) (Tr.nodR.kept _ _ _ _ hv C2));obtain⟨ax,p1n,p1c,bd,bf,be,bj,bo,bk,rfl,_⟩:=C1;obtain⟨ay,bb,az,bg,bi,bh,bq,bs,br,rfl,_⟩:=C2;obtain⟨cj,cl,cm,cn,dj⟩:=ca4 HB hc;obtain⟨cd,ce,cf,cg,lt2⟩:=ca4 HB hd;obtain⟨X,hX⟩:=ZG (wr.alloc (dE #[F ax p1n p1c,F bd bf be,F bj bo bk,E J x.2.2.2] 67));have ae:ZD wr X:=(by rw[hX];exact Zh _ _);obtain⟨Y,hY⟩:=ZG (X.alloc (dE #[F ay bb az,F bg bi bh,F bq bs br,E J x.2.2.2] 67));have af:ZD X Y:=(by rw[hY];exact Zh _ _);have cp:X.heap.size=wr.heap.size+1:=(by rw[hX];simp);have HA:Hid (Y.heap[wr.heap.size]? = some (dE [F ax p1n p1c,F bd bf be,F bj bo bk,E J x.2.2.2].toArray 67 (0,0))):=(af.block _ (by omega)).trans (by rw[hX];exact aG _ _);have ap:Hid (Y.heap[wr.heap.size+1]? = some (dE [F ay bb az,F bg bi bh,F bq bs br,E J x.2.2.2].toArray 67 (0,0))):=(by rw[<-cp,hY];exact aG _ _);obtain⟨bz,ca,cb,cc,el⟩:=ca4 (Zf HB ae) hd;obtain⟨cu,cw,cx,cy,al⟩:=cl4 HA;obtain⟨cz,da,db,dc,dl⟩:=cl4 ap;have aq:=onb HB (Zf ae af);have C:=Zd (CC Y aq);have dh:(j:Int)<(n:Int):=(by omega);clear ae af hx HA ap hc hd CC h1 h2 hl
   go_upto_region 6 with fail
   rw[<-hX];clear hX
   go_upto_region 7 with fail
   rw[<-hY];clear hY cj cd bz cl ce ca cm cf cb cn cg cc;go_wp2_with fail;refine C.mono ?_;rintro e w3 ⟨rfl,au⟩;have bu:=onb aq au;clear au C;go_wp2;go_roundw
   case rel=>exact⟨j+1,by omega,by go_num,bu⟩
   case measure=>simp[intOf];omega
  ·go_wp2;go_ret;exact⟨rfl,Za HB⟩
theorem Zgy(f:Nat)(hf:Su coinR f)(a b)(n c d:Nat)(l)(w:World)(hn:n<=cK)(hA:RowsAt coinR.R 6 w a n l)(hB:RowsAt coinR.R 6 w b n l) :
  ZH 67 #[F a n c,F b n d,.func (.func f) #[] #[]] w (dI true):=by
 unfold cK at hn;have eg:=hf.1;obtain⟨HF,H1,H2⟩:=kh3 hf.2 hA hB;have g0:((n:Int) != (n:Int))=false:=by simp
 clear hA hB hf;go_enter func67,ntmps67;go_wp2
 go_loopw [17] (λi wr=>∃ j:Nat,j<=n/\i = E J j/\Hid (ZD w wr)) (λi _=>n - (intOf i).toNat)
 case atStart=>exact⟨0,aI _,rfl,Below.refl _ _⟩
 case round=>
  obtain⟨j,hk,rfl,HB⟩:=hrel;by_cases cg:j<n
  ·obtain⟨b1,o1,rfl,_,h1⟩:=H1.2 (by omega);obtain⟨b2,o2,rfl,_,h2⟩:=H2.2 (by omega);have hl:j<l.length:=(by rw[(Za H1).1];exact cg);obtain⟨cs,hc,C1⟩:=coinR.rc _ _ _ _ (h1 j hl);obtain⟨ds,hd,C2⟩:=coinR.rc _ _ _ _ (h2 j hl);obtain⟨x,hx⟩:=ZF (l[j]);rw[hx] at C1 C2;have CC:=Zd (λV (hv:ZD w V)=>HF V cs ds x (coinR.kept _ _ _ _ hv C1) (coinR.kept _ _ _ _ hv C2));obtain⟨ax,p1n,p1c,rfl,_⟩:=C1;obtain⟨ay,bb,az,rfl,_⟩:=C2;obtain⟨bz,ca,cb,cc,cd,ce,dh⟩:=ca6 HB hc;obtain⟨br,bs,bt,bu,bv,bx,lt2⟩:=ca6 HB hd;obtain⟨X,hX⟩:=ZG (wr.alloc (dE #[E J x.1,E J x.2.1,E J (cv x),F ax p1n p1c,E J (ch x),dI (cr x)] 124));have ae:ZD wr X:=(by rw[hX];exact Zh _ _);obtain⟨Y,hY⟩:=ZG (X.alloc (dE #[E J x.1,E J x.2.1,E J (cv x),F ay bb az,E J (ch x),dI (cr x)] 124));have af:ZD X Y:=(by rw[hY];exact Zh _ _);have cf:X.heap.size=wr.heap.size+1:=(by rw[hX];simp);have HA:Hid (Y.heap[wr.heap.size]? = some (dE [E J x.1,E J x.2.1,E J (cv x),F ax p1n p1c,E J (ch x),dI (cr x)].toArray 124 (0,0))):=(af.block _ (by omega)).trans (by rw[hX];exact aG _ _);have ap:Hid (Y.heap[wr.heap.size+1]? = some (dE [E J x.1,E J x.2.1,E J (cv x),F ay bb az,E J (ch x),dI (cr x)].toArray 124 (0,0))):=(by rw[<-cf,hY];exact aG _ _);obtain⟨bh,bi,bj,bk,bo,bq,el⟩:=ca6 (Zf HB ae) hd;obtain⟨cl,cm,cn,cp,cq,ct,al⟩:=cl6 HA;obtain⟨cu,cw,cx,cy,cz,da,dl⟩:=cl6 ap
   have aq:=onb HB (Zf ae af);have C:=Zd (CC Y aq);have df:(j:Int)<(n:Int):=(by omega);clear ae af hx HA ap hc hd CC h1 h2 hl
   go_upto_region 6 with fail
   rw[<-hX];clear hX
   go_upto_region 7 with fail
   rw[<-hY];clear hY bz br bh ca bs bi cb bt bj cc bu bk cd bv bo ce bx bq;go_wp2_with fail;refine C.mono ?_;rintro e w3 ⟨rfl,au⟩;have be:=onb aq au;clear au C;go_wp2;go_roundw
   case rel=>exact⟨j+1,by omega,by go_num,be⟩
   case measure=>simp[intOf];omega
  ·go_wp2;go_ret;exact⟨rfl,Za HB⟩
theorem Pq(a b)(n c d:Nat)(l)(w:World)(hn:n<=cK)(hA:OpsAt w a n l)(hB:OpsAt w b n l) :
  ZH 94 #[F a n c,F b n d] w (dI true):=by
 unfold cK at hn;obtain⟨H1,H2⟩:=kh2 hA hB;have g0:((n:Int) != (n:Int))=false:=by simp
 clear hA hB;go_enter func94,ntmps94;go_wp2
 go_loopw [13] (λi wr=>∃ k m:Nat,k<=n/\i = E J k/\wr=w.drewN m) (λi _=>n - (intOf i).toNat)
 case atStart=>exact⟨0,0,aI _,rfl,rfl⟩
 case round=>
  obtain⟨k,m,hk,rfl,rfl⟩:=hrel;by_cases ab:k<n
  ·obtain⟨b1,o1,rfl,h1⟩:=H1.2 (by omega);obtain⟨b2,o2,rfl,h2⟩:=H2.2 (by omega);obtain⟨g1,g2⟩:=h1 k ab;obtain⟨g3,g4⟩:=h2 k ab;obtain⟨⟨q1,q2⟩,hq⟩:∃ q,q=l.getD k (0,0):=⟨_,rfl⟩;rw[<-hq] at g1 g2 g3 g4;clear hq h1 h2;go_wp2
   go_quiet (fail)
   go_wp2;go_roundw
   case rel=>exact⟨k+1,m+nq,by omega,by go_num,rfl⟩
   case measure=>simp[intOf];omega
  ·go_wp2;go_ret;exact⟨rfl,Qm w m⟩
theorem Zqj(f:Nat)(hf:f=97\/f=192):Su Tr.outR f:=by
 have ah:∀ args w,(callFunc f args).run aB w = .ok (.enter f args) w:=by rcases hf with rfl|rfl;exact enters_of func97 (by kernel_rfl) rfl;exact enters_of func192 (by kernel_rfl) rfl
 refine⟨ah,λw cs ds x h1 h2=>?_⟩;obtain⟨a,n,c,rfl,hA,sA⟩:=h1;obtain⟨b,m,d,rfl,hB,_⟩:=h2;obtain⟨t,l⟩:=x;simp only at hA hB ⊢;obtain rfl:n=m:=hA.1.symm.trans hB.1
 rcases hf with rfl|rfl
 all_goals
  obtain⟨X,hX⟩:=ZG ((w.alloc (dE #[E J t,F a n c] 122)).alloc (dE #[E J t,F b n d] 122));have hb:ZD w X:=by rw[hX];exact Zf (Zh _ _) (Zh _ _)
  have aj:Hid (X.heap[w.heap.size]? = some (dE [E J t,F a n c].toArray 122 (0,0))):=by rw[hX];exact ((Zh _ _).block _ (by simp)).trans (aG _ _)
  have ak:Hid (X.heap[w.heap.size+1]? = some (dE [E J t,F b n d].toArray 122 (0,0))):=by
   rw[hX];have:=aG (w.alloc (dE #[E J t,F a n c] 122)) (dE #[E J t,F b n d] 122);rwa [cL] at this
  have HB:=Zd hb;have C0:=Zd (λW (hw:ZD w W)=>Pq a b n c d l W sA.len (hA.later hw) (hB.later hw));obtain⟨au,av,xl⟩:=cl2 aj;obtain⟨an,ap,vl⟩:=cl2 ak;have D0:=Zd (C0 X hb);clear hA hB sA hb
  first|go_enter func97,ntmps97|go_enter func192,ntmps192
  go_upto_region 1 with fail
  rw[<-hX];clear hX;go_wp2_with fail;refine D0.mono ?_;rintro e w1 ⟨rfl,hb⟩;have HB:=onb HB hb;clear hb;go_wp2;go_ret;exact⟨rfl,Za HB⟩
theorem inF:Su Tr.inR 93:=by
 refine⟨enters_of func93 (by kernel_rfl) rfl,λw cs ds x h1 h2=>?_⟩;obtain⟨a,n,c,rfl,hA,sA⟩:=h1;obtain⟨b,m,d,rfl,hB,_⟩:=h2;obtain⟨t,u,l⟩:=x;simp only at hA hB ⊢;obtain rfl:n=m:=hA.1.symm.trans hB.1;obtain⟨X,hX⟩:=ZG ((w.alloc (dE #[E J t,E J u,F a n c] 119)).alloc (dE #[E J t,E J u,F b n d] 119));have hb:ZD w X:=by rw[hX];exact Zf (Zh _ _) (Zh _ _)
 have ag:Hid (X.heap[w.heap.size]? = some (dE [E J t,E J u,F a n c].toArray 119 (0,0))):=by rw[hX];exact ((Zh _ _).block _ (by simp)).trans (aG _ _)
 have ah:Hid (X.heap[w.heap.size+1]? = some (dE [E J t,E J u,F b n d].toArray 119 (0,0))):=by
  rw[hX];have:=aG (w.alloc (dE #[E J t,E J u,F a n c] 119)) (dE #[E J t,E J u,F b n d] 119);rwa [cL] at this
 have HB:=Zd hb;have C0:=Zd (λW (hw:ZD w W)=>Pq a b n c d l W sA.len (hA.later hw) (hB.later hw));obtain⟨ar,au,av,xl⟩:=cl3 ag;obtain⟨ak,am,an,vl⟩:=cl3 ah;have D0:=Zd (C0 X hb);clear hA hB sA hb;go_enter func93,ntmps93
 go_upto_region 1 with fail
 rw[<-hX];clear hX;go_wp2_with fail;refine D0.mono ?_;rintro e w1 ⟨rfl,hb⟩;have HB:=onb HB hb;clear hb;go_wp2;go_ret;exact⟨rfl,Za HB⟩
theorem txF:Su Tr.txR 30:=by
 refine⟨enters_of func30 (by kernel_rfl) rfl,λw cs ds x h1 h2=>?_⟩;obtain⟨ia,n1,ic,oa,n2,oc,rfl,hI,sI,hO,sO⟩:=h1;obtain⟨ja,m1,jc,qa,m2,qc,rfl,hJ,_,hQ,_⟩:=h2;obtain⟨t,I,O⟩:=x;simp only at hI hJ hO hQ ⊢;obtain rfl:n1=m1:=hI.1.symm.trans hJ.1;obtain rfl:n2=m2:=hO.1.symm.trans hQ.1;obtain⟨X,hX⟩:=ZG ((w.alloc (dE #[E J t,F ia n1 ic,F oa n2 oc] 59)).alloc (dE #[E J t,F ja n1 jc,F qa n2 qc] 59));have hb:ZD w X:=by rw[hX];exact Zf (Zh _ _) (Zh _ _)
 have af:Hid (X.heap[w.heap.size]? = some (dE [E J t,F ia n1 ic,F oa n2 oc].toArray 59 (0,0))):=by rw[hX];exact ((Zh _ _).block _ (by simp)).trans (aG _ _)
 have ag:Hid (X.heap[w.heap.size+1]? = some (dE [E J t,F ja n1 jc,F qa n2 qc].toArray 59 (0,0))):=by
  rw[hX];have:=aG (w.alloc (dE #[E J t,F ia n1 ic,F oa n2 oc] 59)) (dE #[E J t,F ja n1 jc,F qa n2 qc] 59);rwa [cL] at this
 have HB:=Zd hb;have C0:=Zd (λW (hw:ZD w W)=>Zkz 93 inF ia ja n1 ic jc I W sI.len (hI.later hw) (hJ.later hw));have C1:=Zd (λW (hw:ZD w W)=>Dg 97 (Zqj _ (.inl rfl)) oa qa n2 oc qc O W sO.len (hO.later hw) (hQ.later hw));obtain⟨bu,bv,bx,xl⟩:=cl3 af;obtain⟨bk,bo,bq,vl⟩:=cl3 ag;have D0:=Zd (C0 X hb);clear hI hJ hO hQ sI sO hb;go_enter func30,ntmps30
 go_upto_region 1 with fail
 rw[<-hX];clear hX;go_wp2_with fail;refine D0.mono ?_;rintro e w1 ⟨rfl,hb⟩;have HB:=onb HB hb;have af:=mvd hb af;have ag:=mvd hb ag;obtain⟨br,bs,bt,xl⟩:=cl3 af;obtain⟨bh,bi,bj,vl⟩:=cl3 ag;have D1:=Zd (C1 w1 HB);clear hb;go_wp2_with fail;refine D1.mono ?_;rintro e w2 ⟨rfl,hb⟩;have HB:=onb HB hb;clear hb;go_wp2;go_ret;exact⟨rfl,Za HB⟩
theorem Bc:Su Tr.txR 127:=by
 refine⟨enters_of func127 (by kernel_rfl) rfl,λw cs ds x h1 h2=>?_⟩;obtain⟨ia,n,ic,oa,m,oc,rfl,hI,sI,hO,sO⟩:=h1;obtain⟨ja,n',jc,qa,m',qc,rfl,hJ,_,hQ,_⟩:=h2;obtain⟨t,I,O⟩:=x;simp only at hI hJ hO hQ ⊢;obtain rfl:n=n':=hI.1.symm.trans hJ.1;obtain rfl:m=m':=hO.1.symm.trans hQ.1;have nI:n<=9223372036854775807:=sI.len;obtain⟨X,hX⟩:=ZG ((w.alloc (dE #[E J t,F ia n ic,F oa m oc] 59)).alloc (dE #[E J t,F ja n jc,F qa m qc] 59));have HB:Hid (ZD w X):=by rw[hX];exact Zf (Zh _ _) (Zh _ _)
 have av:Hid (X.heap[w.heap.size]? = some (dE [E J t,F ia n ic,F oa m oc].toArray 59 (0,0))):=by rw[hX];exact ((Zh _ _).block _ (by simp)).trans (aG _ _)
 have ad:Hid (X.heap[w.heap.size+1]? = some (dE [E J t,F ja n jc,F qa m qc].toArray 59 (0,0))):=by
  rw[hX];have:=aG (w.alloc (dE #[E J t,F ia n ic,F oa m oc] 59)) (dE #[E J t,F ja n jc,F qa m qc] 59);rwa [cL] at this
 obtain⟨HI,HJ⟩:=kh2 hI hJ;have CO:=Zd (λW (hw:ZD w W)=>Dg 192 (Zqj _ (.inr rfl)) oa qa m oc qc O W sO.len (hO.later hw) (hQ.later hw));obtain⟨x0,x1,x2,xl⟩:=cl3 av;obtain⟨v0,v1,v2,vl⟩:=cl3 ad;have g0:((n:Int) != (n:Int))=false:=by simp
 clear hI hJ hO hQ sI sO;go_enter func127,ntmps127
 go_upto_region 1 with fail
 rw[<-hX];clear hX;go_wp2_with fail
 go_loopw [24] (λi V=>∃ j:Nat,j<=n/\i = E J j/\Hid (ZD X V)) (λi _=>n - (intOf i).toNat)
 case atStart=>exact⟨0,aI _,rfl,Below.refl _ _⟩
 case round=>
  obtain⟨j,hj,rfl,HV⟩:=hrel;clear x0 x1 x2 xl v0 v1 v2 vl;have ac:=onb HB HV;have av:=mvd HV av;have ad:=mvd HV ad;by_cases dd:j<n
  ·obtain⟨b1,o1,rfl,_,h1⟩:=HI.2 (by omega);obtain⟨b2,o2,rfl,_,h2⟩:=HJ.2 (by omega);have hl:j<I.length:=(by rw[(Za HI).1];exact dd);have hI:=h1 j hl;have hJ:=h2 j hl;obtain⟨⟨q1,q2,l⟩,hx⟩:=ZF (I[j]);rw[hx] at hI hJ;obtain⟨p0,p1,ka,kn,kc,p2,hK,sK⟩:=hI;obtain⟨r0,r1,la,ln,lc,r2,hL,_⟩:=hJ;simp only at p0 p1 hK r0 r1 hL;obtain rfl:kn=ln:=hK.1.symm.trans hL.1;have c0:=Ze ac p0;have c1:=Ze ac p1;have c2:=Ze ac p2;have c3:=Ze ac r0;have c4:=Ze ac r1;have c5:=Ze ac r2;have bl:=aE _ _ c0;have cy:=aE _ _ c3;obtain⟨pn,bi⟩:∃ p,p=wr.heap.size:=⟨_,rfl⟩;obtain⟨Y,hY⟩:=ZG (wr.alloc (dE #[E J q1,E J q2,F ka kn kc] 119));have af:ZD wr Y:=(by rw[hY];exact Zh _ _);have HQ:Hid (Y.heap[pn]? = some (dE [E J q1,E J q2,F ka kn kc].toArray 119 (0,0))):=(by rw[hY,bi];exact aG _ _);have ad:=mvd af ad
   have KS:Hid (∀ U:World,ZD Y U->(U.cell? ⟨pn,0,none⟩=some (E J q1)/\U.cell? ⟨pn,1,none⟩=some (E J q2)/\U.cell? ⟨pn,2,none⟩=some (F ka kn kc)/\pn<U.heap.size/\U.cell? ⟨w.heap.size+1,1,none⟩=some (F (some ⟨b2,o2,none⟩) n jc)/\w.heap.size+1<U.heap.size/\U.cell? ⟨b2,o2+j*3,none⟩=some (E J q1)/\U.cell? ⟨b2,o2+j*3+1,none⟩=some (E J q2)/\U.cell? ⟨b2,o2+j*3+2,none⟩=some (F la kn lc)/\b2<U.heap.size)):=λU hu=>⟨Ze hu (Zb HQ 0 _ rfl),Ze hu (Zb HQ 1 _ rfl),Ze hu (Zb HQ 2 _ rfl),aD (aA HQ) hu.size,Ze hu (Zb ad 1 _ rfl),aD (aA ad) hu.size,Ze (Zf af hu) c3,Ze (Zf af hu) c4,Ze (Zf af hu) c5,aD cy (Zf af hu).size⟩;have CE:=Zd (λW (hw:ZD w W)=>Pq ka la kn kc lc l W sK.len (hK.later hw) (hL.later hw));have ca:=onb HV af;have bx:=onb ac af;have dc:(j:Int)<(n:Int):=(by omega);clear hx h1 h2 hl p0 p1 p2 r0 r1 r2 hK sK hL af
   go_upto_region 6 with fail
   rw[<-hY,<-bi];clear hY bi c0 c1 c2;refine dD (S:=λU=>U.cell? ⟨pn,0,none⟩=some (E J q1)/\U.cell? ⟨pn,1,none⟩=some (E J q2)/\U.cell? ⟨pn,2,none⟩=some (F ka kn kc)/\pn<U.heap.size/\U.cell? ⟨w.heap.size+1,1,none⟩=some (F (some ⟨b2,o2,none⟩) n jc)/\w.heap.size+1<U.heap.size/\U.cell? ⟨b2,o2+j*3,none⟩=some (E J q1)/\U.cell? ⟨b2,o2+j*3+1,none⟩=some (E J q2)/\U.cell? ⟨b2,o2+j*3+2,none⟩=some (F la kn lc)/\b2<U.heap.size) (by kernel_rfl) (KS _ (Zi Y)) (λaa=>?_);refine tkL 0 rfl aa ?_;refine tkL 1 rfl aa ?_;refine tkL 2 rfl aa ?_;refine tkL 3 rfl aa ?_;refine tkL 4 rfl aa ?_;refine tkL 5 rfl aa ?_;refine tkL 6 rfl aa ?_;refine tkL 7 rfl aa ?_;refine tkL 8 rfl aa ?_;refine tkL 9 rfl aa ?_;refine tkL 10 rfl aa ?_;refine tkL 11 rfl aa ?_;refine tkL 12 rfl aa ?_;refine tkL 13 rfl aa ?_;refine tkL 14 rfl aa ?_;refine tkL 15 rfl aa ?_;refine tkL 16 rfl aa ?_;refine tkL 17 rfl aa ?_;refine rdS 18 rfl (CE Y.drew (Zf bx (Zi Y))) ?_;rintro e w6 ⟨rfl,ae⟩;clear aa;have ae:=Zf (Zi Y) ae;refine⟨_,rfl,KS _ ae,λaa=>?_⟩;refine tkL 19 rfl aa ?_;refine tkL 20 rfl aa ?_;refine wpAnyH_done (by kernel_rfl) ?_ _;clear aa KS CE;have cx:=onb ca ae;clear ae ca bx HQ;go_wp2;go_roundw
   case rel=>exact⟨j+1,by omega,by go_num,cx⟩
   case measure=>simp[intOf];omega
  ·have dc:¬(j:Int)<(n:Int):=(by omega);obtain⟨x0,x1,x2,xl⟩:=cl3 av;obtain⟨v0,v1,v2,vl⟩:=cl3 ad;go_wp2_with fail;refine (CO wr ac).mono ?_;rintro e w6 ⟨rfl,ae⟩;have cu:=onb ac ae;clear ae;go_wp2;go_ret;exact⟨rfl,Za cu⟩
theorem blkF:Su Tr.blkR 37:=by
 refine⟨enters_of func37 (by kernel_rfl) rfl,λw cs ds x h1 h2=>?_⟩;obtain⟨a,n,c,rfl,hT,sT⟩:=h1;obtain⟨b,m,d,rfl,ae,_⟩:=h2;obtain⟨p,h,k,o,T⟩:=x;simp only at hT ae ⊢;obtain rfl:n=m:=hT.1.symm.trans ae.1;obtain⟨X,hX⟩:=ZG ((w.alloc (dE #[E J p,E J h,E J k,E J o,F a n c] 39)).alloc (dE #[E J p,E J h,E J k,E J o,F b n d] 39));have HB:Hid (ZD w X):=by rw[hX];exact Zf (Zh _ _) (Zh _ _)
 have aj:Hid (X.heap[w.heap.size]? = some (dE [E J p,E J h,E J k,E J o,F a n c].toArray 39 (0,0))):=by rw[hX];exact ((Zh _ _).block _ (by simp)).trans (aG _ _)
 have ak:Hid (X.heap[w.heap.size+1]? = some (dE [E J p,E J h,E J k,E J o,F b n d].toArray 39 (0,0))):=by
  rw[hX];have:=aG (w.alloc (dE #[E J p,E J h,E J k,E J o,F a n c] 39)) (dE #[E J p,E J h,E J k,E J o,F b n d] 39);rwa [cL] at this
 have KS:Hid (∀ U:World,ZD X U->(U.cell? ⟨w.heap.size,0,none⟩=some (E J p)/\U.cell? ⟨w.heap.size,1,none⟩=some (E J h)/\U.cell? ⟨w.heap.size,2,none⟩=some (E J k)/\U.cell? ⟨w.heap.size,3,none⟩=some (E J o)/\U.cell? ⟨w.heap.size,4,none⟩=some (F a n c)/\w.heap.size<U.heap.size/\U.cell? ⟨w.heap.size+1,0,none⟩=some (E J p)/\U.cell? ⟨w.heap.size+1,1,none⟩=some (E J h)/\U.cell? ⟨w.heap.size+1,2,none⟩=some (E J k)/\U.cell? ⟨w.heap.size+1,3,none⟩=some (E J o)/\U.cell? ⟨w.heap.size+1,4,none⟩=some (F b n d)/\w.heap.size+1<U.heap.size)):=λU hu=>by
  obtain⟨a0,a1,a2,a3,a4,a5⟩:=cl5 (mvd hu aj);obtain⟨d0,d1,d2,d3,d4,d5⟩:=cl5 (mvd hu ak);exact⟨a0,a1,a2,a3,a4,a5,d0,d1,d2,d3,d4,d5⟩
 have C3:=Zd (λW (hw:ZD w W)=>Sm 30 txF a b n c d T W sT.len (hT.later hw) (ae.later hw));have EQ:∀ W,(binOp .eql 187 (.agg #[E J p,E J h,E J k,E J o]) (.agg #[E J p,E J h,E J k,E J o])).run aB W = .ok (dI true) W:=λW=>by rw[Zgp];simp
 clear hT ae sT aj ak;go_enter func37,ntmps37;go_wp2_with fail;rw[<-hX];clear hX;refine dD (S:=λU=>U.cell? ⟨w.heap.size,0,none⟩=some (E J p)/\U.cell? ⟨w.heap.size,1,none⟩=some (E J h)/\U.cell? ⟨w.heap.size,2,none⟩=some (E J k)/\U.cell? ⟨w.heap.size,3,none⟩=some (E J o)/\U.cell? ⟨w.heap.size,4,none⟩=some (F a n c)/\w.heap.size<U.heap.size/\U.cell? ⟨w.heap.size+1,0,none⟩=some (E J p)/\U.cell? ⟨w.heap.size+1,1,none⟩=some (E J h)/\U.cell? ⟨w.heap.size+1,2,none⟩=some (E J k)/\U.cell? ⟨w.heap.size+1,3,none⟩=some (E J o)/\U.cell? ⟨w.heap.size+1,4,none⟩=some (F b n d)/\w.heap.size+1<U.heap.size) (by kernel_rfl) (KS _ (Zi X)) (λaa=>?_);refine tkL 0 rfl aa ?_;refine tkL 2 rfl aa ?_;refine rdS 1 rfl (Rf p h k o a n c X.drew) ?_;rintro e w2 ⟨rfl,af⟩;clear aa;have af:=Zf (Zi X) af;refine⟨_,rfl,KS _ af,λaa=>?_⟩;refine rdS 3 rfl (Rf p h k o b n d w2) ?_;rintro e w3 ⟨rfl,ac⟩;clear aa;have ac:=Zf af ac;refine⟨_,rfl,KS _ ac,λaa=>?_⟩;refine tkL 4 rfl aa ?_;refine tkL 5 rfl aa ?_;refine tkL 6 rfl aa ?_;refine tkL 7 rfl aa ?_;refine tkL 8 rfl aa ?_;refine tkL 9 rfl aa ?_;refine rdS 10 rfl (C3 w3 (Zf HB ac)) ?_;rintro e w4 ⟨rfl,ag⟩;clear aa;have ag:=Zf ac ag;refine⟨_,rfl,KS _ ag,λaa=>?_⟩;refine tkL 11 rfl aa ?_;refine tkL 12 rfl aa ?_;refine wpAnyH_done (by kernel_rfl) ?_ _;clear aa;have aq:=onb HB ag;go_wp2;go_ret;exact⟨rfl,Za aq⟩
theorem coiF:Su coinR 68:=by
 refine⟨enters_of func68 (by kernel_rfl) rfl,λw cs ds x h1 h2=>?_⟩;obtain⟨a,n,c,rfl,hA,sA⟩:=h1;obtain⟨b,m,d,rfl,hB,sB⟩:=h2;obtain⟨X,hX⟩:=ZG ((w.alloc (dE #[E J x.1,E J x.2.1,E J (cv x),F a n c,E J (ch x),dI (cr x)] 124)).alloc (dE #[E J x.1,E J x.2.1,E J (cv x),F b m d,E J (ch x),dI (cr x)] 124));have hb:ZD w X:=by rw[hX];exact Zf (Zh _ _) (Zh _ _)
 have ac:Hid (X.heap[w.heap.size]? = some (dE [E J x.1,E J x.2.1,E J (cv x),F a n c,E J (ch x),dI (cr x)].toArray 124 (0,0))):=by rw[hX];exact ((Zh _ _).block _ (by simp)).trans (aG _ _)
 have ad:Hid (X.heap[w.heap.size+1]? = some (dE [E J x.1,E J x.2.1,E J (cv x),F b m d,E J (ch x),dI (cr x)].toArray 124 (0,0))):=by
  rw[hX];have:=aG (w.alloc (dE #[E J x.1,E J x.2.1,E J (cv x),F a n c,E J (ch x),dI (cr x)] 124)) (dE #[E J x.1,E J x.2.1,E J (cv x),F b m d,E J (ch x),dI (cr x)] 124);rwa [cL] at this
 have HB:=Zd hb;have C0:=Zd (λW (hw:ZD w W)=>(Zqj _ (.inl rfl)).2 W [E J (cv x),F a n c] [E J (cv x),F b m d] (cv x,ck x) ⟨a,n,c,rfl,hA.later hw,sA⟩ ⟨b,m,d,rfl,hB.later hw,sB⟩);obtain⟨bq,br,bs,bt,bu,bv,xl⟩:=cl6 ac;obtain⟨ax,ay,az,bb,bd,be,vl⟩:=cl6 ad;have D0:=Zd (C0 X hb);clear hA hB sA sB hb;go_enter func68,ntmps68
 go_upto_region 1 with fail
 rw[<-hX];clear hX;go_wp2_with fail;refine D0.mono ?_;rintro e w1 ⟨rfl,hb⟩;have HB:=onb HB hb;have ac:=mvd hb ac;have ad:=mvd hb ad;obtain⟨bg,bh,bi,bj,bk,bo,xl⟩:=cl6 ac;obtain⟨ap,aq,ar,au,av,aw,vl⟩:=cl6 ad;clear hb;go_wp2;go_ret;exact⟨rfl,Za HB⟩
theorem Zep(a b)(n c d:Nat)(C)(w:World)(hn:n<=cK)(hA:CoinsAt w a n C)(hB:CoinsAt w b n C):ZH 19 #[F a n c,F b n d] w (dI true):=by
 have C1:=Zd (Zgy 68 coiF a b n c d C w hn hA hB);clear hA hB hn;go_enter func19,ntmps19;go_wp2_with fail;refine C1.mono ?_;rintro e w' ⟨rfl,hb⟩;have HB:=Zd hb;clear hb C1;go_wp2;go_ret;exact⟨rfl,Za HB⟩
theorem nodY(na ba na' ba' pa pa' nn nc bn bc nc' bc' pn pc pc' N T P)(t:Int)(w:World)(hN:Tr.IntsAt w na nn N)(hT:Tr.BlksAt w ba bn T)(hP:TxsAt w pa pn P)(ag:Tr.IntsAt w na' nn N)(aj:Tr.BlksAt w ba' bn T)(ah:TxsAt w pa' pn P)(sN:SlOk na nn nc)(sT:SlOk ba bn bc)(sP:SlOk pa pn pc) :
  ZH 50 #[.agg #[F na nn nc,F ba bn bc,F pa pn pc,E J t],.agg #[F na' nn nc',F ba' bn bc',F pa' pn pc',E J t]] w (dI true):=by
 obtain⟨X,hX⟩:=ZG ((w.alloc (dE #[F na nn nc,F ba bn bc,F pa pn pc,E J t] 67)).alloc (dE #[F na' nn nc',F ba' bn bc',F pa' pn pc',E J t] 67));have hb:ZD w X:=by rw[hX];exact Zf (Zh _ _) (Zh _ _)
 have ad:Hid (X.heap[w.heap.size]? = some (dE [F na nn nc,F ba bn bc,F pa pn pc,E J t].toArray 67 (0,0))):=by rw[hX];exact ((Zh _ _).block _ (by simp)).trans (aG _ _)
 have ae:Hid (X.heap[w.heap.size+1]? = some (dE [F na' nn nc',F ba' bn bc',F pa' pn pc',E J t].toArray 67 (0,0))):=by
  rw[hX];have:=aG (w.alloc (dE #[F na nn nc,F ba bn bc,F pa pn pc,E J t] 67)) (dE #[F na' nn nc',F ba' bn bc',F pa' pn pc',E J t] 67);rwa [cL] at this
 have HB:=Zd hb;have C0:=Zd (λW (hw:ZD w W)=>Tr.eqInt_is na na' nn nn nc nc' N N true W sN.len (hN.later hw) (ag.later hw) (by simp));have C1:=Zd (λW (hw:ZD w W)=>Dh 37 blkF ba ba' bn bc bc' T W sT.len (hT.later hw) (aj.later hw));have C2:=Zd (λW (hw:ZD w W)=>Sm 30 txF pa pa' pn pc pc' P W sP.len (hP.later hw) (ah.later hw));obtain⟨bq,bv,bx,bz,xl⟩:=cl4 ad;obtain⟨ay,bf,bg,bh,vl⟩:=cl4 ae;have D0:=Zd (C0 X hb);clear hN hT hP ag aj ah sN sT sP hb;go_enter func50,ntmps50
 go_upto_region 1 with fail
 rw[<-hX];clear hX;go_wp2_with fail;refine D0.mono ?_;rintro e w1 ⟨rfl,hb⟩;have HB:=onb HB hb;have ad:=mvd hb ad;have ae:=mvd hb ae;obtain⟨bi,bj,bk,bo,xl⟩:=cl4 ad;obtain⟨au,av,aw,ax,vl⟩:=cl4 ae;have D1:=Zd (C1 w1 HB);clear hb;go_wp2_with fail;refine D1.mono ?_;rintro e w2 ⟨rfl,hb⟩;have HB:=onb HB hb;have ad:=mvd hb ad;have ae:=mvd hb ae;obtain⟨br,bs,bt,bu,xl⟩:=cl4 ad;obtain⟨az,bb,bd,be,vl⟩:=cl4 ae;have D2:=Zd (C2 w2 HB);clear hb;go_wp2_with fail;refine D2.mono ?_;rintro e w3 ⟨rfl,hb⟩;have HB:=onb HB hb;clear hb;go_wp2;go_ret;exact⟨rfl,Za HB⟩
theorem Zjb(p h k o:Int)(a b n c m d T)(w:World)(hT:TxsAt w a n T)(ad:TxsAt w b m T)(sT:SlOk a n c) :
  ZH 126 #[.agg #[E J p,E J h,E J k,E J o,F a n c],.agg #[E J p,E J h,E J k,E J o,F b m d]] w (dI true):=by
 obtain rfl:n=m:=hT.1.symm.trans ad.1;obtain⟨X,hX⟩:=ZG ((w.alloc (dE #[E J p,E J h,E J k,E J o,F a n c] 39)).alloc (dE #[E J p,E J h,E J k,E J o,F b n d] 39));have hb:ZD w X:=by rw[hX];exact Zf (Zh _ _) (Zh _ _)
 have af:Hid (X.heap[w.heap.size]? = some (dE [E J p,E J h,E J k,E J o,F a n c].toArray 39 (0,0))):=by rw[hX];exact ((Zh _ _).block _ (by simp)).trans (aG _ _)
 have ag:Hid (X.heap[w.heap.size+1]? = some (dE [E J p,E J h,E J k,E J o,F b n d].toArray 39 (0,0))):=by
  rw[hX];have:=aG (w.alloc (dE #[E J p,E J h,E J k,E J o,F a n c] 39)) (dE #[E J p,E J h,E J k,E J o,F b n d] 39);rwa [cL] at this
 have HB:=Zd hb;have C0:=Zd (λW (hw:ZD w W)=>Sm 127 Bc a b n c d T W sT.len (hT.later hw) (ad.later hw));obtain⟨ar,au,av,aw,ax,xl⟩:=cl5 af;obtain⟨ah,aj,ak,am,an,vl⟩:=cl5 ag;have D0:=Zd (C0 X hb);clear hT ad sT hb;go_enter func126,ntmps126
 go_upto_region 1 with fail
 rw[<-hX];clear hX;go_wp2_with fail;refine D0.mono ?_;rintro e w1 ⟨rfl,hb⟩;have HB:=onb HB hb;clear hb;go_wp2;go_ret;exact⟨rfl,Za HB⟩
theorem Zfj:Su Tr.blkR 126:=by
 refine⟨enters_of func126 (by kernel_rfl) rfl,λV cs ds x h1 h2=>?_⟩;obtain⟨a,n,c,rfl,hT,sT⟩:=h1;obtain⟨b,m,d,rfl,aa,_⟩:=h2;exact Zjb x.1 x.2.1 x.2.2.1 x.2.2.2.1 a b n c m d x.2.2.2.2 V hT aa sT
theorem Zfh(a b a' b' n c m d c' d' N T)(w:World)(hN:Tr.IntsAt w a n N)(hT:Tr.BlksAt w b m T)(am:Tr.IntsAt w a' n N)(an:Tr.BlksAt w b' m T)(sN:SlOk a n c)(sT:SlOk b m d) :
  ZH 191 #[.agg #[F a n c,F b m d],.agg #[F a' n c',F b' m d']] w (dI true):=by
 obtain⟨X,hX⟩:=ZG ((w.alloc (dE #[F a n c,F b m d] 28)).alloc (dE #[F a' n c',F b' m d'] 28));have hb:ZD w X:=by rw[hX];exact Zf (Zh _ _) (Zh _ _)
 have aj:Hid (X.heap[w.heap.size]? = some (dE [F a n c,F b m d].toArray 28 (0,0))):=by rw[hX];exact ((Zh _ _).block _ (by simp)).trans (aG _ _)
 have ak:Hid (X.heap[w.heap.size+1]? = some (dE [F a' n c',F b' m d'].toArray 28 (0,0))):=by
  rw[hX];have:=aG (w.alloc (dE #[F a n c,F b m d] 28)) (dE #[F a' n c',F b' m d'] 28);rwa [cL] at this
 have HB:=Zd hb;have C0:=Zd (λW (hw:ZD w W)=>Tr.eqInt_is a a' n n c c' N N true W sN.len (hN.later hw) (am.later hw) (by simp));have C1:=Zd (λW (hw:ZD w W)=>Dh 126 Zfj b b' m d d' T W sT.len (hT.later hw) (an.later hw));obtain⟨bd,be,xl⟩:=cl2 aj;obtain⟨ax,ay,vl⟩:=cl2 ak;have D0:=Zd (C0 X hb);clear hN hT am an sN sT hb;go_enter func191,ntmps191
 go_upto_region 1 with fail
 rw[<-hX];clear hX;go_wp2_with fail;refine D0.mono ?_;rintro e w1 ⟨rfl,hb⟩;have HB:=onb HB hb;have aj:=mvd hb aj;have ak:=mvd hb ak;obtain⟨az,bb,xl⟩:=cl2 aj;obtain⟨av,aw,vl⟩:=cl2 ak;have D1:=Zd (C1 w1 HB);clear hb;go_wp2_with fail;refine D1.mono ?_;rintro e w2 ⟨rfl,hb⟩;have HB:=onb HB hb;clear hb;go_wp2;go_ret;exact⟨rfl,Za HB⟩
theorem Zja(na ba na' ba' pa pa' nn nc bn bc nc' bc' pn pc pc' N T P)(t:Int)(w:World)(hN:Tr.IntsAt w na nn N)(hT:Tr.BlksAt w ba bn T)(hP:TxsAt w pa pn P)(ag:Tr.IntsAt w na' nn N)(aj:Tr.BlksAt w ba' bn T)(ah:TxsAt w pa' pn P)(sN:SlOk na nn nc)(sT:SlOk ba bn bc)(sP:SlOk pa pn pc) :
  ZH 123 #[.agg #[F na nn nc,F ba bn bc,F pa pn pc,E J t],.agg #[F na' nn nc',F ba' bn bc',F pa' pn pc',E J t]] w (dI true):=by
 obtain⟨X,hX⟩:=ZG ((w.alloc (dE #[F na nn nc,F ba bn bc,F pa pn pc,E J t] 67)).alloc (dE #[F na' nn nc',F ba' bn bc',F pa' pn pc',E J t] 67));have hb:ZD w X:=by rw[hX];exact Zf (Zh _ _) (Zh _ _)
 have ae:Hid (X.heap[w.heap.size]? = some (dE [F na nn nc,F ba bn bc,F pa pn pc,E J t].toArray 67 (0,0))):=by rw[hX];exact ((Zh _ _).block _ (by simp)).trans (aG _ _)
 have af:Hid (X.heap[w.heap.size+1]? = some (dE [F na' nn nc',F ba' bn bc',F pa' pn pc',E J t].toArray 67 (0,0))):=by
  rw[hX];have:=aG (w.alloc (dE #[F na nn nc,F ba bn bc,F pa pn pc,E J t] 67)) (dE #[F na' nn nc',F ba' bn bc',F pa' pn pc',E J t] 67);rwa [cL] at this
 have HB:=Zd hb;have C0:=Zd (λW (hw:ZD w W)=>Zfh na ba na' ba' nn nc bn bc nc' bc' N T W (hN.later hw) (hT.later hw) (ag.later hw) (aj.later hw) sN sT);have C1:=Zd (λW (hw:ZD w W)=>Sm 127 Bc pa pa' pn pc pc' P W sP.len (hP.later hw) (ah.later hw));obtain⟨bg,bh,bi,bj,xl⟩:=cl4 ae;obtain⟨aw,ax,ay,az,vl⟩:=cl4 af;have D0:=Zd (C0 X hb);clear hN hT hP ag aj ah sN sT sP hb;go_enter func123,ntmps123
 go_upto_region 1 with fail
 rw[<-hX];clear hX;go_wp2_with fail;refine D0.mono ?_;rintro e w1 ⟨rfl,hb⟩;have HB:=onb HB hb;have ae:=mvd hb ae;have af:=mvd hb af;obtain⟨bb,bd,be,bf,xl⟩:=cl4 ae;obtain⟨aq,ar,au,av,vl⟩:=cl4 af;have D1:=Zd (C1 w1 HB);clear hb;go_wp2_with fail;refine D1.mono ?_;rintro e w2 ⟨rfl,hb⟩;have HB:=onb HB hb;clear hb;go_wp2;go_ret;exact⟨rfl,Za HB⟩
theorem Zfi:Su Tr.nodR 123:=by
 refine⟨enters_of func123 (by kernel_rfl) rfl,λV cs ds x h1 h2=>?_⟩;obtain⟨a,n,c,b,m,d,p,q,r,rfl,hN,hT,hP,sN,sT,sP⟩:=h1;obtain⟨a',n',c',b',m',d',p',q',r',rfl,aa,ac,ab,_⟩:=h2;obtain rfl:n=n':=hN.1.symm.trans aa.1;obtain rfl:m=m':=hT.1.symm.trans ac.1;obtain rfl:q=q':=hP.1.symm.trans ab.1;exact Zja a b a' b' p p' n c m d c' d' q r r' x.1 x.2.1 x.2.2.1 x.2.2.2 V hN hT hP aa ac ab sN sT sP
theorem Zgx(a b c d v w) :
  Calls aB 124 #[F a 0 c,F b 0 d,v] w λe w'=>e = dF (dI true)/\w=w':=by
 go_enter func124,ntmps124;go_wp2;refine wp_loop_rounds 1 ?_;rw[rounds_succ];go_wp2;go_ret;exact⟨rfl,rfl⟩
theorem Ziz(ka na ka' na' kn kc nn nc kc' nc' K L)(w:World)(hK:Bk.TextsAt w ka kn K)(hN:NodsAt w na nn L)(aj:Bk.TextsAt w ka' kn K)(ak:NodsAt w na' nn L)(sK:SlOk ka kn kc)(sN:SlOk na nn nc)(ma ag mc ah) :
  ZH 51 #[.agg #[F ka kn kc,F na nn nc,F ma 0 mc],.agg #[F ka' kn kc',F na' nn nc',F ag 0 ah]] w (dI true):=by
 obtain⟨X,hX⟩:=ZG ((w.alloc (dE #[F ka kn kc,F na nn nc,F ma 0 mc] 90)).alloc (dE #[F ka' kn kc',F na' nn nc',F ag 0 ah] 90));have hb:ZD w X:=by rw[hX];exact Zf (Zh _ _) (Zh _ _)
 have ac:Hid (X.heap[w.heap.size]? = some (dE [F ka kn kc,F na nn nc,F ma 0 mc].toArray 90 (0,0))):=by rw[hX];exact ((Zh _ _).block _ (by simp)).trans (aG _ _)
 have ad:Hid (X.heap[w.heap.size+1]? = some (dE [F ka' kn kc',F na' nn nc',F ag 0 ah].toArray 90 (0,0))):=by
  rw[hX];have:=aG (w.alloc (dE #[F ka kn kc,F na nn nc,F ma 0 mc] 90)) (dE #[F ka' kn kc',F na' nn nc',F ag 0 ah] 90);rwa [cL] at this
 have HB:=Zd hb;have C0:=Zd (λW (hw:ZD w W)=>Bk.eqStr_is ka ka' kn kn kc kc' K K true W sK.len (hK.later hw) (aj.later hw) (by simp));have C1:=Zd (λW (hw:ZD w W)=>Zgw 123 Zfi na na' nn nc nc' L W sN.len (hN.later hw) (ak.later hw));have C2:=Zd (λW (hw:ZD w W)=>(Zgx ma ag mc ah (.func (.func 125) #[] #[]) W).mono (λe w' (h:_/\W=w')=>(⟨h.1,h.2 ▸ Below.refl _ _⟩:e = dF (dI true)/\ZD W w')));obtain⟨bk,bs,bt,xl⟩:=cl3 ac;obtain⟨az,bf,bg,vl⟩:=cl3 ad;have D0:=Zd (C0 X hb);clear hK hN aj ak sK sN hb;go_enter func51,ntmps51
 go_upto_region 1 with fail
 rw[<-hX];clear hX;go_wp2_with fail;refine D0.mono ?_;rintro e w1 ⟨rfl,hb⟩;have HB:=onb HB hb;have ac:=mvd hb ac;have ad:=mvd hb ad;obtain⟨bh,bi,bj,xl⟩:=cl3 ac;obtain⟨aw,ax,ay,vl⟩:=cl3 ad;have D1:=Zd (C1 w1 HB);clear hb;go_wp2_with fail;refine D1.mono ?_;rintro e w2 ⟨rfl,hb⟩;have HB:=onb HB hb;have ac:=mvd hb ac;have ad:=mvd hb ad;obtain⟨bo,bq,br,xl⟩:=cl3 ac;obtain⟨bb,bd,be,vl⟩:=cl3 ad;have D2:=Zd (C2 w2 HB);clear hb;go_wp2_with fail;refine D2.mono ?_;rintro e w3 ⟨rfl,hb⟩;have HB:=onb HB hb;clear hb;go_wp2;go_ret;exact⟨rfl,Za HB⟩
