import Derived.Test.YtmomfkikogbdeaaGreatDoorH
import Derived.Test.YtmomfkikogbdeaaGreatDoorG25
open Go.Proofs.Tryz
open Go renaming maxLen->cH,bodyPost_ret->aW,rounds_succ->bF
open Go.Ending renaming returned->cS
open Go.Exit renaming inBlock->aR
open Go.IntKind renaming i64->J
open Go.Obj renaming cells->cR
open Go.Proofs.Tryz renaming prog->aA,underlying3->aK
open Go.Value renaming slice->aY,int->cE,int->E,slice->F,tuple->cT,pointer->cU,bool->cV
open Go.World renaming cell?->bD,block_lt_of_cell?->aD
open List renaming take_succ_eq_append_getElem->aV,take_of_length_le->aN,length_eq_zero_iff->aG
open List.cons renaming injEq->bC
open Nat renaming le_refl->aF,zero_le->aM
set_option maxHeartbeats 6400000
set_option maxRecDepth 10000
namespace Go.Proofs.YtmomfkikogbdeaaGreatDoor
open Go.RowKit
def FeI(w:World)(b:Nat)(z:Int):Prop:=w.heap[b]? = some (cR #[E J z] 3 (0,0))
theorem Zbn(b z p:Nat)(va vc K)(L:List TxD)(aa:Int)(u0 u1 u2 t)(wA w:World)(h:St b p wA (F va L.length vc) K L)(Q:Int)(h2:FeI wA z Q)(bj:b≠z)(dc:z<p)(f1:0<=Q)(f2:Q<=1000000000)(f3:0<=aa)(f4:aa<=1000000000)(hb:ZD wA w)(hF:Fresh wA.heap.size w (λw2=>Tr.txR.C w2 [u0,u1,u2] t))(hl:L.length<8) :
  Calls aA 79 (#[.agg #[u0,u1,u2],E J aa]++#[cU (some ⟨b,0,none⟩),cU (some ⟨z,0,none⟩)]) w λe w'=>e = cS (cT #[])/\(∃ v',∃ K',St b p w' v' K' (L++[t])/\FeI w' z (Q+aa))/\Gr w w' (λq=>(q=b\/q=z)\/(aY va L.length vc).ownBlock=some q):=by
 obtain⟨i0,hi,cj,cl,cm⟩:=info_parts Tryz.infoTx9;obtain⟨ai,ni,ci,ao,no,co,e,_⟩:=hF w (Gr.refl _ _);simp only[bC,and_true] at e;obtain⟨rfl,rfl,rfl⟩:=e;obtain⟨U,hU⟩:=ZG ((w.alloc (cR #[E J t.1,F ai ni ci,F ao no co] 59)).alloc (cR #[E J t.1,F ai ni ci,F ao no co] 59));have ax:ZD w U:=by rw[hU];exact Zf (Zh _ _) (Zh _ _)
 have bh:U.heap[w.heap.size+1]? = some (cR #[E J t.1,F ai ni ci,F ao no co] 59 (0,0)):=by
  rw[hU];have:=Zv (w.alloc (cR #[E J t.1,F ai ni ci,F ao no co] 59)) (E J t.1) (F ai ni ci) (F ao no co) 59;rw[show (w.alloc (cR #[E J t.1,F ai ni ci,F ao no co] 59)).heap.size=w.heap.size+1 by simp] at this;exact this
 have db:U.heap.size=w.heap.size+2:=by rw[hU];simp
 have dd:=h.bp;have cf:=h.pl;have cg:=hb.size;have am:=Zf hb ax;have be:U.ownsRow (p+1) 59 3 (F va L.length vc) L.length K.flatten:=(Gr.of (S:=λ_=>False) am).own h.own (λ_ _ q=>q);have av:=(hb.block b (by omega)).trans h.box;have bf:=(am.block b (by omega)).trans h.box;have b0:=Zb av 0 _ rfl;have bl:b<w.heap.size:=lt_of_block av;have bg:=(am.block z (by omega)).trans h2;have ca:Hid (∀ j u,[cE .i64 t.1,F ai ni ci,F ao no co][j]? = some u->bD ((w.alloc (cR #[E J t.1,F ai ni ci,F ao no co] 59)).alloc (cR #[E J t.1,F ai ni ci,F ao no co] 59)) ((⟨w.heap.size+1,0,none⟩:Addr).add j)=some u):=by rw[<-hU];exact World.news_of_block bh
 have bd:Hid (World.ownsRow ((w.alloc (cR #[E J t.1,F ai ni ci,F ao no co] 59)).alloc (cR #[E J t.1,F ai ni ci,F ao no co] 59)) (p+1) 59 3 (F va L.length vc) L.length K.flatten):=by rw[<-hU];exact be
 have ce:p+1<=((w.alloc (cR #[E J t.1,F ai ni ci,F ao no co] 59)).alloc (cR #[E J t.1,F ai ni ci,F ao no co] 59)).heap.size:=by rw[<-hU];omega
 have ar:Hid (∀ q,q<=p->(aY va L.length vc).ownBlock≠some q):=λq hq e=>by have:=(h.own.lt q e).1;omega
 have HH:=Zd h;have br:=Zd hb;have bt:=Zd hF;have bq:=Zd ax;have ap:=Zd bf;have aq:=Zd hl;obtain⟨n,hn⟩:=ZF (L.length);have az:=Zd bg;have fw:w.cell? ⟨z,0,none⟩=some (E J Q):=Zb ((hb.block z (by omega)).trans h2) 0 _ rfl;have HN:=Zd hn;rw[hn] at bd aq b0 ar ap HH bf;simp only[hn];clear h hb hF ax bh be av am cf cg hn hl h2 bg;go_enter func79,ntmps79
 go_wp2_with (at_builtin;refine wpList_append_lies _ rfl _ _ 37 rfl (p+1) 59 i0 (.agg #[E J 0,F none 0 0,F none 0 0]) 3 56 underlying37 hi cj cl cm rfl (by decide) _ _ _ rfl bd ⟨w.heap.size+1,0,none⟩ 1 1 [E J t.1,F ai ni ci,F ao no co] rfl rfl ca (λu hu=>by simp at hu;rcases hu with rfl|rfl|rfl <;> rfl) (by decide) (by have:=Za aq;unfold cH;omega) (by have:=Za aq;omega) ce _ rfl ?_;intro g7 ag w7 bk aj ay _;rw[<-hU] at aj ay;have ak:=(aj.block b (lt_of_block ap) (λe=>ar b (by omega) e.symm)).trans ap;have cp:=Zd ak;have bx:=Zd bk;have bu:=Zd aj;have bz:=Zd ay;have de:=Zb ak 0 _ rfl;have dg:=lt_of_block ak;have df:=Zg ak 0;have ah:=(aj.block z (lt_of_block az) (λe=>ar z (by omega) e.symm)).trans az;have bs:=Zd ah;have cx:=Zb ah 0 _ rfl;have cz:=lt_of_block ah;have cy:=Zg ah 0;clear ah;clear ak bk aj ay)
 have PU:=St.push (v':=F (some ⟨g7,0,none⟩) (n+1) ag) HH br bt bq bu (by rw[Za HN];exact Za bx) (by
  rcases Za bz with q|q
  ·exact .inl q
  ·exact .inr ⟨g7,rfl,by omega⟩)
 have g9:Gr (w7.setCell ⟨b,0,none⟩ (F (some ⟨g7,0,none⟩) (n+1) ag)) ((w7.setCell ⟨b,0,none⟩ (F (some ⟨g7,0,none⟩) (n+1) ag)).setCell ⟨z,0,none⟩ (E J (Q+aa))) (λq=>q=z):=(Gr.refl _ (λq=>q=z)).one z 0 (.inl rfl) _;have R1:=Zd (PU.1.on g9 (λq e=>by subst e;exact⟨by omega,λq=>bj q.symm⟩));have R2:Hid (FeI ((w7.setCell ⟨b,0,none⟩ (F (some ⟨g7,0,none⟩) (n+1) ag)).setCell ⟨z,0,none⟩ (E J (Q+aa))) z (Q+aa)):=Va ((heap_setCell_other w7 ⟨b,0,none⟩ z _ (λe=>bj e.symm)).trans bs);have R3:Hid (Gr w ((w7.setCell ⟨b,0,none⟩ (F (some ⟨g7,0,none⟩) (n+1) ag)).setCell ⟨z,0,none⟩ (E J (Q+aa))) (λq=>(q=b\/q=z)\/(aY va n vc).ownBlock=some q)):=(PU.2.mono (λq _ e=>e.elim (λe=>.inl (.inl e)) .inr)).trans (g9.mono (λq _ e=>.inl (.inr e)));clear PU g9;(try go_wp2)
 ((try simp only[aR,Exit.then]);first|refine bodyPost_end (results_none rfl _ _ _) rfl ?_|refine aW (results_none rfl _ _ _) rfl ?_)
 exact⟨rfl,⟨_,_,Za R1,Za R2⟩,Za R3⟩
theorem Zad(b p:Nat)(va vc K)(L:List TxD)(br:Int)(u0 u1 u2 t)(wA w:World)(h:St b p wA (F va L.length vc) K L)(Q:ZD wA w)(hF:Fresh wA.heap.size w (λw2=>Tr.txR.C w2 [u0,u1,u2] t))(hl:L.length<8) :
  Calls aA 88 (#[.agg #[u0,u1,u2],E J br]++#[cU (some ⟨b,0,none⟩)]) w λe w'=>e = cS (cT #[])/\(∃ v',∃ K',St b p w' v' K' (L++[t]))/\Gr w w' (λq=>q=b\/(aY va L.length vc).ownBlock=some q):=by
 obtain⟨i0,hi,bu,bv,bx⟩:=info_parts Tryz.infoTx9;obtain⟨ai,ni,ci,ao,no,co,e,_⟩:=hF w (Gr.refl _ _);simp only[bC,and_true] at e;obtain⟨rfl,rfl,rfl⟩:=e;obtain⟨U,z⟩:=ZG ((w.alloc (cR #[E J t.1,F ai ni ci,F ao no co] 59)).alloc (cR #[E J t.1,F ai ni ci,F ao no co] 59));have ak:ZD w U:=by rw[z];exact Zf (Zh _ _) (Zh _ _)
 have ax:U.heap[w.heap.size+1]? = some (cR #[E J t.1,F ai ni ci,F ao no co] 59 (0,0)):=by
  rw[z];have:=Zv (w.alloc (cR #[E J t.1,F ai ni ci,F ao no co] 59)) (E J t.1) (F ai ni ci) (F ao no co) 59;rw[show (w.alloc (cR #[E J t.1,F ai ni ci,F ao no co] 59)).heap.size=w.heap.size+1 by simp] at this;exact this
 have cb:U.heap.size=w.heap.size+2:=by rw[z];simp
 have cc:=h.bp;have bs:=h.pl;have bt:=Q.size;have aj:=Zf Q ak;have ar:U.ownsRow (p+1) 59 3 (F va L.length vc) L.length K.flatten:=(Gr.of (S:=λ_=>False) aj).own h.own (λ_ _ q=>q);have ah:=(Q.block b (by omega)).trans h.box;have av:=(aj.block b (by omega)).trans h.box;have b0:=Zb ah 0 _ rfl;have bl:b<w.heap.size:=lt_of_block ah;have bk:Hid (∀ j u,[cE .i64 t.1,F ai ni ci,F ao no co][j]? = some u->bD ((w.alloc (cR #[E J t.1,F ai ni ci,F ao no co] 59)).alloc (cR #[E J t.1,F ai ni ci,F ao no co] 59)) ((⟨w.heap.size+1,0,none⟩:Addr).add j)=some u):=by rw[<-z];exact World.news_of_block ax
 have aq:Hid (World.ownsRow ((w.alloc (cR #[E J t.1,F ai ni ci,F ao no co] 59)).alloc (cR #[E J t.1,F ai ni ci,F ao no co] 59)) (p+1) 59 3 (F va L.length vc) L.length K.flatten):=by rw[<-z];exact ar
 have bo:p+1<=((w.alloc (cR #[E J t.1,F ai ni ci,F ao no co] 59)).alloc (cR #[E J t.1,F ai ni ci,F ao no co] 59)).heap.size:=by rw[<-z];omega
 have an:Hid (∀ q,q<=p->(aY va L.length vc).ownBlock≠some q):=λq hq e=>by have:=(h.own.lt q e).1;omega
 have HH:=Zd h;have be:=Zd Q;have bf:=Zd hF;have bd:=Zd ak;have af:=Zd av;have ag:=Zd hl;obtain⟨n,hn⟩:=ZF (L.length);have HN:=Zd hn;rw[hn] at aq ag b0 an af HH av;simp only[hn];clear h Q hF ak ax ar ah aj bs bt hn hl;go_enter func88,ntmps88
 go_wp2_with (at_builtin;refine wpList_append_lies _ rfl _ _ 37 rfl (p+1) 59 i0 (.agg #[E J 0,F none 0 0,F none 0 0]) 3 56 underlying37 hi bu bv bx rfl (by decide) _ _ _ rfl aq ⟨w.heap.size+1,0,none⟩ 1 1 [E J t.1,F ai ni ci,F ao no co] rfl rfl bk (λu hu=>by simp at hu;rcases hu with rfl|rfl|rfl <;> rfl) (by decide) (by have:=Za ag;unfold cH;omega) (by have:=Za ag;omega) bo _ rfl ?_;intro g7 bq w7 az ad al _;rw[<-z] at ad al;have aa:=(ad.block b (lt_of_block af) (λe=>an b (by omega) e.symm)).trans af;have ca:=Zd aa;have bi:=Zd az;have bg:=Zd ad;have bj:=Zd al;have ce:=Zb aa 0 _ rfl;have cg:=lt_of_block aa;have cf:=Zg aa 0;clear aa az ad al)
 have PU:=St.push (v':=F (some ⟨g7,0,none⟩) (n+1) bq) HH be bf bd bg (by rw[Za HN];exact Za bi) (by
  rcases Za bj with q|q
  ·exact .inl q
  ·exact .inr ⟨g7,rfl,by omega⟩)
 have ap:=Zd PU;clear PU;(try go_wp2)
 ((try simp only[aR,Exit.then]);first|refine bodyPost_end (results_none rfl _ _ _) rfl ?_|refine aW (results_none rfl _ _ _) rfl ?_)
 exact⟨rfl,⟨_,_,ap.1⟩,ap.2⟩
theorem Zhc(b z p:Nat)(va vc K)(L:List TxD)(aa:Int)(u0 u1 u2 t)(wA w:World)(h:St b p wA (F va L.length vc) K L)(Q:Int)(h2:FeI wA z Q)(bj:b≠z)(dd:z<p)(f1:0<=Q)(f2:Q<=1000000000)(f3:0<=aa)(f4:aa<=1000000000)(hb:ZD wA w)(hF:Fresh wA.heap.size w (λw2=>Tr.txR.C w2 [u0,u1,u2] t))(hl:L.length<3) :
  Calls aA 82 (#[.agg #[u0,u1,u2],E J aa]++#[cU (some ⟨b,0,none⟩),cU (some ⟨z,0,none⟩)]) w λe w'=>e = cS (cT #[])/\(∃ v',∃ K',St b p w' v' K' (L++[t])/\FeI w' z (Q+aa))/\Gr w w' (λq=>(q=b\/q=z)\/(aY va L.length vc).ownBlock=some q):=by
 obtain⟨i0,hi,cj,cl,cm⟩:=info_parts Tryz.infoTx9;obtain⟨ai,ni,ci,ao,no,co,e,_⟩:=hF w (Gr.refl _ _);simp only[bC,and_true] at e;obtain⟨rfl,rfl,rfl⟩:=e;obtain⟨U,hU⟩:=ZG ((w.alloc (cR #[E J t.1,F ai ni ci,F ao no co] 59)).alloc (cR #[E J t.1,F ai ni ci,F ao no co] 59));have ax:ZD w U:=by rw[hU];exact Zf (Zh _ _) (Zh _ _)
 have bh:U.heap[w.heap.size+1]? = some (cR #[E J t.1,F ai ni ci,F ao no co] 59 (0,0)):=by
  rw[hU];have:=Zv (w.alloc (cR #[E J t.1,F ai ni ci,F ao no co] 59)) (E J t.1) (F ai ni ci) (F ao no co) 59;rw[show (w.alloc (cR #[E J t.1,F ai ni ci,F ao no co] 59)).heap.size=w.heap.size+1 by simp] at this;exact this
 have dc:U.heap.size=w.heap.size+2:=by rw[hU];simp
 have de:=h.bp;have cf:=h.pl;have cg:=hb.size;have an:=Zf hb ax;have be:U.ownsRow (p+1) 59 3 (F va L.length vc) L.length K.flatten:=(Gr.of (S:=λ_=>False) an).own h.own (λ_ _ q=>q);have av:=(hb.block b (by omega)).trans h.box;have bf:=(an.block b (by omega)).trans h.box;have b0:=Zb av 0 _ rfl;have bl:b<w.heap.size:=lt_of_block av;have bg:=(an.block z (by omega)).trans h2;have ca:Hid (∀ j u,[cE .i64 t.1,F ai ni ci,F ao no co][j]? = some u->bD ((w.alloc (cR #[E J t.1,F ai ni ci,F ao no co] 59)).alloc (cR #[E J t.1,F ai ni ci,F ao no co] 59)) ((⟨w.heap.size+1,0,none⟩:Addr).add j)=some u):=by rw[<-hU];exact World.news_of_block bh
 have bd:Hid (World.ownsRow ((w.alloc (cR #[E J t.1,F ai ni ci,F ao no co] 59)).alloc (cR #[E J t.1,F ai ni ci,F ao no co] 59)) (p+1) 59 3 (F va L.length vc) L.length K.flatten):=by rw[<-hU];exact be
 have ce:p+1<=((w.alloc (cR #[E J t.1,F ai ni ci,F ao no co] 59)).alloc (cR #[E J t.1,F ai ni ci,F ao no co] 59)).heap.size:=by rw[<-hU];omega
 have ar:Hid (∀ q,q<=p->(aY va L.length vc).ownBlock≠some q):=λq hq e=>by have:=(h.own.lt q e).1;omega
 have HH:=Zd h;have br:=Zd hb;have bt:=Zd hF;have bq:=Zd ax;have aq:=Zd bf;have am:=Zd hl;obtain⟨n,hn⟩:=ZF (L.length);have az:=Zd bg;have fw:w.cell? ⟨z,0,none⟩=some (E J Q):=Zb ((hb.block z (by omega)).trans h2) 0 _ rfl;have HN:=Zd hn;rw[hn] at bd am b0 ar aq HH bf;simp only[hn];clear h hb hF ax bh be av an cf cg hn hl h2 bg;go_enter func82,ntmps82;have gl:(n:Int)<3:=by have:=Za am;omega
 go_wp2_with (at_builtin;refine wpList_append_lies _ rfl _ _ 37 rfl (p+1) 59 i0 (.agg #[E J 0,F none 0 0,F none 0 0]) 3 56 underlying37 hi cj cl cm rfl (by decide) _ _ _ rfl bd ⟨w.heap.size+1,0,none⟩ 1 1 [E J t.1,F ai ni ci,F ao no co] rfl rfl ca (λu hu=>by simp at hu;rcases hu with rfl|rfl|rfl <;> rfl) (by decide) (by have:=Za am;unfold cH;omega) (by have:=Za am;omega) ce _ rfl ?_;intro g7 ag w7 bk aj ay _;rw[<-hU] at aj ay;have ak:=(aj.block b (lt_of_block aq) (λe=>ar b (by omega) e.symm)).trans aq;have cp:=Zd ak;have bx:=Zd bk;have bu:=Zd aj;have bz:=Zd ay;have df:=Zb ak 0 _ rfl;have dh:=lt_of_block ak;have dg:=Zg ak 0;have ah:=(aj.block z (lt_of_block az) (λe=>ar z (by omega) e.symm)).trans az;have bs:=Zd ah;have cx:=Zb ah 0 _ rfl;have cz:=lt_of_block ah;have cy:=Zg ah 0;clear ah;clear ak bk aj ay)
 have PU:=St.push (v':=F (some ⟨g7,0,none⟩) (n+1) ag) HH br bt bq bu (by rw[Za HN];exact Za bx) (by
  rcases Za bz with q|q
  ·exact .inl q
  ·exact .inr ⟨g7,rfl,by omega⟩)
 have g9:Gr (w7.setCell ⟨b,0,none⟩ (F (some ⟨g7,0,none⟩) (n+1) ag)) ((w7.setCell ⟨b,0,none⟩ (F (some ⟨g7,0,none⟩) (n+1) ag)).setCell ⟨z,0,none⟩ (E J (Q+aa))) (λq=>q=z):=(Gr.refl _ (λq=>q=z)).one z 0 (.inl rfl) _;have R1:=Zd (PU.1.on g9 (λq e=>by subst e;exact⟨by omega,λq=>bj q.symm⟩));have R2:Hid (FeI ((w7.setCell ⟨b,0,none⟩ (F (some ⟨g7,0,none⟩) (n+1) ag)).setCell ⟨z,0,none⟩ (E J (Q+aa))) z (Q+aa)):=Va ((heap_setCell_other w7 ⟨b,0,none⟩ z _ (λe=>bj e.symm)).trans bs);have R3:Hid (Gr w ((w7.setCell ⟨b,0,none⟩ (F (some ⟨g7,0,none⟩) (n+1) ag)).setCell ⟨z,0,none⟩ (E J (Q+aa))) (λq=>(q=b\/q=z)\/(aY va n vc).ownBlock=some q)):=(PU.2.mono (λq _ e=>e.elim (λe=>.inl (.inl e)) .inr)).trans (g9.mono (λq _ e=>.inl (.inr e)));clear PU g9;(try go_wp2)
 ((try simp only[aR,Exit.then]);first|refine bodyPost_end (results_none rfl _ _ _) rfl ?_|refine aW (results_none rfl _ _ _) rfl ?_)
 exact⟨rfl,⟨_,_,Za R1,Za R2⟩,Za R3⟩
theorem Cy(b b2 p:Nat)(va vc K)(L:List TxD)(ad:Int)(u0 u1 u2 t)(wA w:World)(h:St b p wA (F va L.length vc) K L)(Q:ZD wA w)(hF:Fresh wA.heap.size w (λw2=>Tr.txR.C w2 [u0,u1,u2] t))(hl:3<=L.length) :
  Calls aA 82 (#[.agg #[u0,u1,u2],E J ad]++#[cU (some ⟨b,0,none⟩),cU (some ⟨b2,0,none⟩)]) w λe w'=>e = cS (cT #[])/\ZD w w':=by
 obtain⟨ai,ni,ci,ao,no,co,e,_⟩:=hF w (Gr.refl _ _);simp only[bC,and_true] at e;obtain⟨rfl,rfl,rfl⟩:=e;have HB:=Zd (Zh w (cR #[E J t.1,F ai ni ci,F ao no co] 59));have af:=h.bp;have ah:=h.pl;have z:=(Q.block b (by omega)).trans h.box;have b0:=Zb z 0 _ rfl;have bl:b<w.heap.size:=lt_of_block z;have gl:¬((L.length:Int)<3):=by omega
 obtain⟨n,hn⟩:=ZF (L.length);rw[hn] at b0 gl;clear h Q hF af ah z hl hn;go_enter func82,ntmps82;go_wp2
 ((try simp only[aR,Exit.then]);first|refine bodyPost_end (results_none rfl _ _ _) rfl ?_|refine aW (results_none rfl _ _ _) rfl ?_)
 exact⟨rfl,Za HB⟩
def D0(lo hi:Nat):Nat->Prop:=λq=>(lo<=q/\q<hi)\/(aY none 0 0).ownBlock=some q
theorem D0.ge{lo hi q:Nat}(h:D0 lo hi q):lo<=q/\q<hi:=by
 rcases h with h|h
 ·exact h
 ·cases h
def DV(lo hi:Nat)(v:Value):Nat->Prop:=λq=>(lo<=q/\q<hi)\/v.ownBlock=some q
theorem DV.dirty{lo hi b p:Nat}{w:World}{v K L}{z:Nat}(h:St b p w v K L)(Q:hi<=z)(hp:z<=p)(q:Nat)(hq:DV lo hi v q):q≠p/\q<w.heap.size/\(D0 lo hi q\/z<=q):=by
 have:=h.pl
 rcases hq with e|e
 ·exact⟨by omega,by omega,.inl (.inl e)⟩
 ·have:=h.own.lt q e;exact⟨by omega,this.2,.inr (by omega)⟩
def SwI(b b2 lo hi N0:Nat)(C0:List Zj)(p:Nat)(D:Nat->Prop)(w:World)(X:List (TxD×List Zj)):Prop:=
 ∃ z Q K,St b p w (.slice z (X.map (·.1)).length Q) K (X.map (·.1))/\FeI w b2 (Zr C0 - Zr (Y4 C0 X))/\N0<=p/\D=DV lo hi (.slice z (X.map (·.1)).length Q)/\0<=Zr C0 - Zr (Y4 C0 X)/\(X=[]\/(Zr C0<=1000000000/\Y8 (Y4 C0 X)))
theorem Gz{C}(h:Y8 C):0<=Zr C:=Vg C (λc z=>by have:=Y7 (h.one c z);omega)
theorem Znc(b z lo hi:Nat)(w0:World)(C0)(hb:w0.heap[b]? = some (cR #[F none 0 0] 37 (0,0)))(ak:FeI w0 z 0)(h1:lo<=b/\b<hi)(h2:lo<=z/\z<hi)(ar:b≠z)(ap:hi<=w0.heap.size) :
  Zlj 79 #[cU (some ⟨b,0,none⟩),cU (some ⟨z,0,none⟩)] w0 C0 (D0 lo hi) (SwI b z lo hi w0.heap.size C0) where
 enters:=enters_of (fn:=Tryz.f79) (by kernel_rfl) (by kernel_rfl) rfl
 start p w hw hp pl:=⟨none,0,[],St.start ((hw.block b (by omega)).trans hb) (by omega) pl,by
  have:Zr C0 - Zr (Y4 C0 [])=0:=by rw[W8];omega
  unfold FeI;rw[this];exact (hw.block z (by omega)).trans ak,hp,rfl,by rw[W8];omega,.inl rfl⟩
 dirty p D w X:=by
  rintro ⟨va,vc,K,h,_,hp,rfl,_⟩ q hq;exact DV.dirty h ap hp q hq
 on p D w w' X:=by
  rintro ⟨va,vc,K,h,Q,hp,hD,r⟩ g;exact⟨va,vc,K,h.on g (λq e=>by subst e;exact⟨aF _,by omega⟩),(g.block z (lt_of_block Q) (λe=>by have e:z=p:=e;omega)).trans Q,hp,hD,r⟩
 call p D wA w X t C' u0 u1 u2:=by
  rintro ⟨va,vc,K,h,Q,hp,rfl,h0,hr⟩ al hF r1 r2 r3 hl
  have hs:Zr C0<=1000000000:=by
   rcases hr with rfl|hr
   ·rw[W8] at r1;exact r1.sum
   ·exact hr.1
  have n1:=Gz r1;have n2:=Gz r2;have n3:=r1.sum;refine (Zbn b z p va vc K (X.map (·.1)) _ u0 u1 u2 t wA w h _ Q ar (by omega) h0 (by omega) (by omega) (by omega) al hF (by rw[List.length_map];exact hl)).mono ?_;rintro e w' ⟨rfl,⟨v',K',hS,am⟩,hg⟩;obtain⟨a,c,rfl,_,_⟩:=hS.txs;have e1:(X++[(t,C')]).map (·.1)=X.map (·.1)++[t]:=by simp
  refine⟨rfl,hg.mono (λq _ e=>?_),DV lo hi (.slice a ((X++[(t,C')]).map (·.1)).length c),a,c,K',?_,?_,hp,rfl,?_,.inr ⟨hs,?_⟩⟩
  ·rcases e with (e|e)|e
   ·subst e;exact .inl h1
   ·subst e;exact .inl h2
   ·exact .inr e
  ·rw[e1];exact hS
  ·rw[Wh];have:Zr C0 - Zr (Y4 C0 X)+(Zr (Y4 C0 X) - Zr C')=Zr C0 - Zr C':=(by omega);rw[<-this];exact am
  ·rw[Wh];omega
  ·rw[Wh];exact r2
theorem St.reads{b p:Nat}{w w2 z vc K}{L:List TxD}{S:Nat->Prop}(h:St b p w (F z L.length vc) K L)(g:Gr w w2 S)(Q:∀ q,S q->q<=p):TxsAt w2 z L.length L/\SlOk z L.length vc:=by
 have o:=g.own h.own (λk hk e=>by have:=(h.own.lt k hk).1;have:=Q k e;omega);obtain⟨a,c,e,h1,h2⟩:=Tr.rows_of_own Tr.txR o (h.kept w2 (g.mono (λq _ e=>.inl (Q q e)))) rfl;injection e with e1 _ e3;subst e1 e3;exact⟨h1,h2⟩
def Ziu(w w':World)(x:Int)(K:List ByteArray)(L:List TxD)(C:List Zj)(f:Int)(e:Ending):Prop:=
 ∃ ka kn kc sa sn sc z Q cc,e = cS (cT #[.agg #[F ka kn kc],F sa sn sc,F z Q cc,E J f,E J x]) /\
  Fresh w.heap.size w' (λw2=>Bk.TextsAt w2 ka kn K/\TxsAt w2 sa sn L/\CoinsAt w2 z Q C)/\SlOk ka kn kc/\SlOk sa sn sc/\SlOk z Q cc/\ZD w w'
def swF(K:List ByteArray)(C:List Zj)(l:List TxD)(h x:Int):List ByteArray×List TxD×List Zj×Int:=
 if x=0 then ((Zu h l (K,C)).2.1,(Zu h l (K,C)).1,(Zu h l (K,C)).2.2,Zr C - Zr (Zu h l (K,C)).2.2) else ([],[],[],0)
def Yr(w:World):List Obj->World
 | []=>w
 | o :: r=>Yr (w.alloc o) r
theorem Zy:∀ (os:List Obj) (w:World),(Yr w os).heap.size=w.heap.size+os.length
 | [],_=>rfl
 | o :: r,w=>by rw[Yr,Zy r,List.length_cons];simp;omega
theorem Zs:∀ (os:List Obj) (w:World),ZD w (Yr w os)
 | [],_=>Below.refl _ _
 | o :: r,w=>Zf (Zh w o) (Zs r (w.alloc o))
theorem Zk:∀ (os:List Obj) (w:World) (i:Nat) (o:Obj),os[i]? = some o->(Yr w os).heap[w.heap.size+i]? = some o
 | [],_,_,_,h=>by simp at h
 | o :: r,w,0,x,h=>by
  simp at h;subst h;have h1:(w.alloc o).heap[w.heap.size]? = some o:=heap_alloc_new w o;exact ZE (Zs r (w.alloc o)) h1
 | o :: r,w,i+1,x,h=>by
  have:=Zk r (w.alloc o) i x (by simpa using h);rw[show (w.alloc o).heap.size+i=w.heap.size+(i+1) by simp;omega] at this;exact this
theorem Ri{fn:Func}{p q u v al:Tmp}{ty z Q:TypeId}(h:fn.results=#[.cell p ty,.cell q z,.tmp u,.cell v Q,.tmp al])(tmps:Array Value)(P:Program)(w) :
  (results fn tmps).run P w =
   ((asAddr (tmps.getD p undef)).run P w).andThen λa w₁=>((loadVar ty a).run P w₁).andThen λx w₂=>((asAddr (tmps.getD q undef)).run P w₂).andThen λa2 w₃=>((loadVar z a2).run P w₃).andThen λy w₄=>((asAddr (tmps.getD v undef)).run P w₄).andThen λa3 w₅=>((loadVar Q a3).run P w₅).andThen λz3 w₆=>.ok (cT #[x,y,tmps.getD u undef,z3,tmps.getD al undef]) w₆:=by
 simp only[results,h];simp[Sem.run_bind,Result.andThen]
theorem Mi(ka kn kc K la ln lc C a m c L)(h x:Int)(K' Q C')(f:Int)(w)
  (hE:Env w) (hK:Bk.TextsAt w ka kn K) (hC:CoinsAt w la ln C) (sC:SlOk la ln lc) (hL:TxsAt w a m L) (hx:swE K C L h=x) (hr:swF K C L h x=(K',Q,C',f)) :
  Calls aA 23 #[.agg #[F ka kn kc],F la ln lc,F a m c,E J h] w λe w'=>Ziu w w' x K' Q C' f e:=by
 obtain⟨X,hX⟩:=ZG (Yr w [cR #[F ka kn kc] 24,cR #[F none 0 0] 24,cR #[F none 0 0] 37,cR #[E J 0] 3]);have ag:ZD w X:=by rw[hX];exact Zs _ _
 have bv:X.heap.size=w.heap.size+4:=by rw[hX];exact Zy _ _
 have x0:X.heap[w.heap.size]? = some (cR #[F ka kn kc] 24 (0,0)):=by rw[hX];exact Zk _ w 0 _ rfl
 have x1:X.heap[w.heap.size+1]? = some (cR #[F none 0 0] 24 (0,0)):=by rw[hX];exact Zk _ w 1 _ rfl
 have x2:X.heap[w.heap.size+2]? = some (cR #[F none 0 0] 37 (0,0)):=by rw[hX];exact Zk _ w 2 _ rfl
 have x3:X.heap[w.heap.size+3]? = some (cR #[E J 0] 3 (0,0)):=by rw[hX];exact Zk _ w 3 _ rfl
 have bu:X=(((w.alloc (cR #[F ka kn kc] 24)).alloc (cR #[F none 0 0] 24)).alloc (cR #[F none 0 0] 37)).alloc (cR #[E J 0] 3):=hX;have bs:=Znc (w.heap.size+2) (w.heap.size+3) (w.heap.size+2) (w.heap.size+4) X C x2 x3 (by omega) (by omega) (by omega) (by omega);have au:∀ V,Gr X V (D0 (w.heap.size+2) (w.heap.size+4))->ZD w V:=λV g=>g.below ag ag.size (λq e=>by have:=e.ge;omega);have C1:=Zd (Sm _ _ _ _ ka kn kc K la ln lc C a m c L h x X bs w au hE hK hC sC hL hx);have cl:=Zd ag;have cp:=Zd bv;have HR:=Zd hr;have cm:=Zd au;have af:=Zd x1;have bj:=Zd x2;have bk:=Zd x3;have t0:=Zb (X:=[F ka kn kc]) x0 0 _ rfl;have tl:=lt_of_block x0;clear hE hK hC sC hL hx hr ag bv x0 x1 x2 x3 hX bs au;go_enter func23,ntmps23;go_wp2_with fail;rw[<-bu];clear bu;(try go_wp2_with fail);refine C1.mono ?_;rintro e w1 cx
 rcases cx with ⟨h0,rfl,ab⟩|⟨h0,p,D,rfl,hp,ah,hd,hI⟩
 ·have gx:(x != 0)=true:=by simp[h0]
  have z:=ZE ab af;have y2:=ZE ab bj;have y3:=ZE ab bk;have cz:=Zb (X:=[F none 0 0]) z 0 _ rfl;have bi:=Zb (X:=[F none 0 0]) y2 0 _ rfl;have cf:=Zb (X:=[E J 0]) y3 0 _ rfl;have da:=Zg z 0;have dc:=Zg y2 0;have de:=Zg y3 0;have db:=lt_of_block z;have dd:=lt_of_block y2;have df:=lt_of_block y3
  have cn:Hid (K'=[]/\Q=[]/\C'=[]/\f=0):=by
   have:=Za HR;unfold swF at this;rw[if_neg h0] at this;simp only[Prod.mk.injEq] at this;exact⟨this.1.symm,this.2.1.symm,this.2.2.1.symm,this.2.2.2.symm⟩
  have HB:=Zd (Zf cl ab);clear ab z y2 y3 C1 HR;go_wp2;(try simp only[aR,Exit.then]);refine aW (v:=cT #[.agg #[F none 0 0],F none 0 0,F none 0 0,E J 0,E J x]) ?_ rfl ?_
  ·rw[Ri rfl];go_simp
  ·obtain⟨rfl,rfl,rfl,rfl⟩:=Za cn;exact⟨_,_,_,_,_,_,_,_,_,rfl,λ_ _=>⟨Bk.TextsAt.nil _ _,RowsAt.nil _ _,RowsAt.nil _ _⟩,Zp,Zp,Zp,(((HB.setCell (p:=⟨w.heap.size+1,0,none⟩) (by simp) _).setCell (p:=⟨w.heap.size+2,0,none⟩) (by simp) _).setCell (p:=⟨w.heap.size+3,0,none⟩) (by simp) _)⟩
 ·obtain⟨va,vc,Kl,hS,hf,_,_,_,_⟩:=hI;obtain⟨ka',kn',kc',aw,az,ay,aj,ar,cd,cc⟩:=hd;have z:=(ah.block _ (lt_of_block af) (λe=>by have:=e.ge;omega)).trans af;have cz:=Zb (X:=[F none 0 0]) z 0 _ rfl;have bi:=Zb (X:=[_]) hS.box 0 _ rfl;have cf:=Zb (X:=[_]) hf 0 _ rfl;have p0:=Zb aj 0 _ rfl;have p1:=Zb aj 1 _ rfl;have pl:=lt_of_block aj;have da:=Zg z 0;have dc:=Zg hS.box 0;have de:=Zg hf 0;have db:=lt_of_block z;have dd:=lt_of_block hS.box;have df:=lt_of_block hf;subst h0
  have cu:Zu h L (K,C)=(Q,K',C')/\f=Zr C - Zr C':=by
   have:=Za HR;unfold swF at this;rw[if_pos rfl] at this;simp only[Prod.mk.injEq] at this;obtain⟨r1,r2,r3,r4⟩:=this;exact⟨Prod.ext r2 (Prod.ext r1 r3),by rw[<-r4,r3]⟩
  obtain⟨ak,bx⟩:=cu;have e1:(swT h L (K,C)).map (·.1)=Q:=by rw[Un,ak]
  have e2:Y4 C (swT h L (K,C))=C':=by have:=Gy h L (K,C);rw[ak] at this;exact this
  rw[ak] at ar;rw[e1] at hS bi;rw[e2,<-bx] at hf cf;obtain⟨n,hn⟩:=ZF (Q.length)
  have cg:Hid (∀ W,Gr w1 W (λq=>w.heap.size+1<=q/\q<w.heap.size+4)->Ziu w W 0 K' Q C' f (cS (cT #[.agg #[F ka' kn' kc'],F va n vc,F aw az ay,E J f,E J 0]))):=λW g=>by
   have dj:=Za cp;have ab:=cm w1 ah;have di:=ah.size;subst hn;refine⟨ka',kn',kc',va,Q.length,vc,aw,az,ay,rfl,λW2 g2=>?_,cd,(hS.reads (Gr.refl w1 (λ_=>False)) (λ_ q=>q.elim)).2,cc,g.below ab ab.size (λq e=>by omega)⟩;have r1:=ar W2 ((g.mono (λq _ e=>by omega)).trans (g2.mono (λq _ e=>by omega)));have r2:=(hS.reads ((g.mono (T:=λq=>q<w.heap.size+4) (λq _ e=>e.2)).trans (g2.mono (λq _ e=>by omega))) (λq e=>by omega)).1;exact⟨r1.1,r2,r1.2⟩
  rw[hn] at bi;clear hS hf ar aj ah ak bx e1 e2 z HR C1 cd cc af bj bk hn;go_wp2_with fail
  go_region
  go_wp2;(try simp only[aR,Exit.then]);refine aW (v:=cT #[.agg #[F ka' kn' kc'],F va n vc,F aw az ay,E J f,E J 0]) ?_ rfl ?_
  ·rw[Ri rfl];go_simp
  ·exact cg _ ((((Gr.refl w1 (λq=>w.heap.size+1<=q/\q<w.heap.size+4)).one (w.heap.size+1) 0 (.inl (by omega)) _).one (w.heap.size+1+1) 0 (.inl (by omega)) _).one (w.heap.size+1+1+1) 0 (.inl (by omega)) _).draw
open Go.RowKit Go.Maps
def Zlr(v:Value):Option (DataW Value×List MemPlace):=some (.held v,[])
abbrev Fy:Value:=F none 0 0
abbrev Znb(x:Int):Lit:=.int .i64 x
theorem Zlq:Keyed aA 3:=int_keyed aK
theorem Zlw(w):(zeroValue 29).run aA w = .ok (F none 0 0) w:=by kernel_rfl
theorem Zkj{x y:Int}(h:x≠y):Znb x≠Znb y:=by
 intro e;injection e with _ e;exact h e
theorem Gq{x:Int}(h : -1000000<=x)(h2:x<=1000000):(Lit.int .i64 x).wf=true:=by simp[Lit.wf,IntKind.min,IntKind.max,IntKind.signed,IntKind.bits];omega
def BMap(bm n:Nat)(f:Int->Value)(w:World):Prop:=∃ D,w.ownsMap aA 3 Zlr bm n D/\IsMap D/\∀ x:Int,D.atKey (Znb x) (.held Fy) = .held (f x)
theorem BMap.heap{bm n:Nat}{f:Int->Value}{w w':World}(h:BMap bm n f w)(hb:w'.heap[bm]? = w.heap[bm]?):BMap bm n f w':=by
 obtain⟨D,⟨Q,z,h1,r⟩,r2⟩:=h;exact⟨D,⟨Q,z,hb.trans h1,r⟩,r2⟩
theorem BMap.lt{bm n:Nat}{f:Int->Value}{w:World}(h:BMap bm n f w):bm<w.heap.size:=by
 obtain⟨D,h1,_⟩:=h;exact h1.lt
theorem BMap.keep{bm n:Nat}{f:Int->Value}{w w':World}(h:BMap bm n f w)(z:ZD w w'):BMap bm n f w':=h.heap (z.block bm h.lt)
theorem BMap.gr{bm n:Nat}{f:Int->Value}{w w'}{S:Nat->Prop}(h:BMap bm n f w)(g:Gr w w' S)(z:¬S bm):BMap bm n f w':=h.heap (g.block bm h.lt z)
theorem BMap.isMap{bm n:Nat}{f:Int->Value}{w:World}(h:BMap bm n f w):∃ Q z,w.heap[bm]? = some (.map Q z):=by
 obtain⟨D,⟨Q,z,h1,r⟩,r2⟩:=h;exact⟨Q,z,h1⟩
theorem BMap.made(w:World):BMap w.heap.size 0 (λ_=>Fy) (w.alloc (.map #[] 0)):=
 ⟨.map [],World.ownsMap_made w aA 3 Zlr,⟨_,rfl⟩,λ_=>rfl⟩
theorem BMap.look{bm n:Nat}{f:Int->Value}{w}(h:BMap bm n f w)(x:Int)(hx:(Lit.int .i64 x).wf=true):(Instr.lookup 252 (.map (some bm)) (.int .i64 x) false).run aA w = .ok (f x) w:=by
 obtain⟨D,h1,_,h3⟩:=h;obtain⟨v,ps,z,Q⟩:=h1.lookup Zlq underlying252 (Zlw w) (zd:=.held Fy) (zp:=[]) rfl (keyOf_int_mk aK hx);rw[h3] at Q;have aa:v=f x:=DataW.held.inj (Prod.mk.inj (Option.some.inj Q)).1;rw[aa] at z;exact z
theorem BMap.drew_look{bm n:Nat}{f:Int->Value}{w:World}(h:BMap bm n f w)(x:Int)(hx:(Lit.int .i64 x).wf=true):(Instr.lookup 252 (.map (some bm)) (.int .i64 x) false).run aA w.drew = .ok (f x) w.drew:=BMap.look (w:=w.drew) (h.heap rfl) x hx
theorem BMap.put{bm n:Nat}{f:Int->Value}{w:World}(h:BMap bm n f w)(hn:n<1000000)(x:Int)(hx:(Lit.int .i64 x).wf=true)(v) :
  ∃ w',(Instr.mapUpdate 252 (.map (some bm)) (.int .i64 x) v).run aA w = .ok () w'/\BMap bm (n+1) (λy=>if y=x then v else f y) w'/\w.grownBy w' (some bm):=by
 obtain⟨D,h1,h2,h3⟩:=h;obtain⟨w',z,Q,r2⟩:=h1.update Zlq underlying252 (by unfold cH;omega) (keyOf_int_mk aK hx) (val:=v) (d:=.held v) (ps:=[]) rfl;refine⟨w',z,⟨_,Q,?_,λy=>?_⟩,r2⟩
 ·obtain⟨es,rfl⟩:=h2;exact⟨_,rfl⟩
 ·by_cases e:y=x
  ·subst e;rw[atKey_put_same h2 (by simp[WideAt.IsKeyLit])];show _=DataW.held (if y=y then v else f y);rw[if_pos rfl]
  ·rw[atKey_put_other (Zkj e),h3];show _=DataW.held (if y=x then v else f y);rw[if_neg e]
theorem Qi(w:World)(n:Nat):ZD w (w.drewN n):=⟨rfl,rfl,rfl,aF _,λ_ _=>rfl⟩
theorem U5{α : Type}{l k:List α}{j:Nat}(h1:j<l.length)(h2:j<k.length)(h:l.take j=k.take j)(e:l[j]=k[j]):l.take (j+1)=k.take (j+1):=by
 rw[aV h1,aV h2,h,e]
theorem Vf{α : Type}{l k:List α}{j:Nat}(h1:j<l.length)(h2:j<k.length)(e:l[j]≠k[j]):l≠k:=λh=>by
 subst h;exact e rfl
theorem Em(b1 o1 b2 o2 n c d:Nat)(l k:List (Int×Int))(o:Bool)(w:World)(hn:n<=cH)(z1:l.length=n)(z2:k.length=n)
  (h1:∀ i,i<n->w.cell? ⟨b1,o1+i*2,none⟩=some (E J (l.getD i (0,0)).1)/\w.cell? ⟨b1,o1+i*2+1,none⟩=some (E J (l.getD i (0,0)).2))
  (h2:∀ i,i<n->w.cell? ⟨b2,o2+i*2,none⟩=some (E J (k.getD i (0,0)).1)/\w.cell? ⟨b2,o2+i*2+1,none⟩=some (E J (k.getD i (0,0)).2)) (ho:decide (l=k)=o) :
  Calls aA 94 #[F (some ⟨b1,o1,none⟩) n c,F (some ⟨b2,o2,none⟩) n d] w λe w'=>e = cS (cV o)/\∃ m,w'=w.drewN m:=by
 subst ho;unfold cH at hn;have H1:=Zd h1;have H2:=Zd h2;have Z1:=Zd z1;have Z2:=Zd z2;clear h1 h2 z1 z2;go_enter func94,ntmps94;go_wp2
 go_loopw [13] (λi wr=>∃ j m:Nat,j<=n/\i = E J j/\wr=w.drewN m/\Hid (l.take j=k.take j)) (λi _=>n - (intOf i).toNat)
 case atStart=>exact⟨0,0,aM _,rfl,rfl,rfl⟩
 case round=>
  obtain⟨j,m,hk,rfl,rfl,A⟩:=hrel;by_cases aa:j<n
  ·have ae:j<l.length:=(by rw[Za Z1];exact aa);have af:j<k.length:=(by rw[Za Z2];exact aa);obtain⟨g1,g2⟩:=H1 j aa;obtain⟨g3,g4⟩:=H2 j aa;have e1:l.getD j (0,0)=l[j]:=(by simp[ae]);have e2:k.getD j (0,0)=k[j]:=(by simp[af]);rw[e1] at g1 g2;rw[e2] at g3 g4;have Q:=Zd (U5 ae af A);have z:=Zd (Vf ae af);obtain⟨q,hq⟩:=ZF (l[j]);obtain⟨r,hr⟩:=ZF (k[j]);rw[hq] at g1 g2;rw[hr] at g3 g4;rw[hq,hr] at Q z;obtain⟨q1,q2⟩:=q;obtain⟨r1,r2⟩:=r;simp only at g1 g2 g3 g4;clear hq hr e1 e2 A;by_cases he:q1=r1
   ·subst he;by_cases hf:q2=r2
    ·subst hf;have T:=Zd (Q rfl);clear Q z;go_wp2
     go_quiet (fail)
     go_wp2;go_roundw
     case rel=>exact⟨j+1,m+nq,by omega,by go_num,rfl,T⟩
     case measure=>simp[intOf];omega
    ·have U:Hid (decide (l=k)=false):=decide_eq_false (z (λe=>hf (by injection e)));clear Q z;go_wp2
     go_quiet (fail)
     go_wp2;go_ret;exact⟨by rw[Za U];rfl,m+nq,by simp[World.drewN,Nat.add_assoc]⟩
   ·have U:Hid (decide (l=k)=false):=decide_eq_false (z (λe=>he (by injection e)));clear Q z;go_wp2
    go_quiet (fail)
    go_wp2;go_ret;exact⟨by rw[Za U];rfl,m+nq,by simp[World.drewN,Nat.add_assoc]⟩
  ·have U:Hid (decide (l=k)=true):=by
    have h:=Za A;rw[aN (by rw[Za Z1];omega),aN (by rw[Za Z2];omega)] at h;exact decide_eq_true h
   clear A;go_wp2;go_ret;exact⟨by rw[Za U];rfl,m,rfl⟩
theorem Eo(a b)(n m c d:Nat)(w)(h:n≠m) :
  Calls aA 94 #[F a n c,F b m d] w λe w'=>e = cS (cV false)/\w=w':=by
 have g:((n:Int) != (m:Int))=true:=by simp;omega
 clear h;go_enter func94,ntmps94;go_wp2;go_ret;exact⟨rfl,rfl⟩
theorem En(a b c d w) :
  Calls aA 94 #[F a 0 c,F b 0 d] w λe w'=>e = cS (cV true)/\w=w':=by
 go_enter func94,ntmps94;go_wp2;refine wp_loop_rounds 1 ?_;rw[bF];go_wp2;go_ret;exact⟨rfl,rfl⟩
theorem An(a b)(n m c d:Nat)(l k)(o:Bool)(w:World)(hn:n<=cH)(Q:OpsAt w a n l)(hB:OpsAt w b m k)(z:decide (l=k)=o) :
  ZH 94 #[F a n c,F b m d] w (cV o):=by
 by_cases h:n=m
 ·subst h;by_cases h0:n=0
  ·subst h0;have e1:l=[]:=aG.1 Q.1;have e2:k=[]:=aG.1 hB.1;subst e1 e2;rw[decide_eq_true rfl] at z;subst z;exact (En a b c d w).mono λe w' ⟨h1,h2⟩=>⟨h1,h2 ▸ Below.refl _ _⟩
  ·obtain⟨b1,o1,rfl,h1⟩:=Q.2 (by omega);obtain⟨b2,o2,rfl,h2⟩:=hB.2 (by omega);exact (Em b1 o1 b2 o2 n c d l k o w hn Q.1 hB.1 h1 h2 z).mono λe w' ⟨e1,q,e2⟩=>⟨e1,by rw[e2];exact Qi w q⟩
 ·have e:l≠k:=λe=>h (by rw[<-Q.1,<-hB.1,e]);rw[decide_eq_false e] at z;subst z;exact (Eo a b n m c d w h).mono λe w' ⟨h1,h2⟩=>⟨h1,h2 ▸ Below.refl _ _⟩
theorem Zbv(x y:InD)(a b)(n c m d:Nat)(o:Bool)(w:World)(hn:n<=cH)(hA:OpsAt w a n x.2.2)(hB:OpsAt w b m y.2.2)(Q:decide (x=y)=o) :
  ZH 93 #[.agg #[E J x.1,E J x.2.1,F a n c],.agg #[E J y.1,E J y.2.1,F b m d]] w (cV o):=by
 obtain⟨x1,x2,k⟩:=x;obtain⟨y1,y2,l⟩:=y;simp only at hA hB ⊢;have z:=Zf (Zh w (cR #[E J x1,E J x2,F a n c] 119)) (Zh _ (cR #[E J y1,E J y2,F b m d] 119));have HB:=Zd z;by_cases h1:x1=y1
 ·subst h1;by_cases h2:x2=y2
  ·subst h2;have C:=Zd (An a b n m c d k l o _ hn (hA.later z) (hB.later z) (by rw[<-Q];simp));clear hA hB z Q;go_enter func93,ntmps93;go_wp2_with fail;refine C.mono ?_;rintro e w2 ⟨rfl,ac⟩;have ah:=Zd (Zf HB ac);clear ac;go_wp2;go_ret;exact⟨rfl,Za ah⟩
  ·have e:o=false:=(by rw[<-Q];exact decide_eq_false (λe=>h2 (by injection e with _ e;injection e)));subst e;clear hA hB z Q;go_enter func93,ntmps93;go_wp2;go_ret;exact⟨rfl,Za HB⟩
 ·have e:o=false:=by rw[<-Q];exact decide_eq_false (λe=>h1 (by injection e))
  subst e;clear hA hB z Q;go_enter func93,ntmps93;go_wp2;go_ret;exact⟨rfl,Za HB⟩
theorem B8(x y:Zz)(a b)(n c m d:Nat)(o:Bool)(w:World)(hn:n<=cH)(Q:OpsAt w a n x.2)(hB:OpsAt w b m y.2)(ho:decide (x=y)=o) :
  ZH 97 #[.agg #[E J x.1,F a n c],.agg #[E J y.1,F b m d]] w (cV o):=by
 obtain⟨x1,k⟩:=x;obtain⟨y1,l⟩:=y;simp only at Q hB ⊢;have z:=Zf (Zh w (cR #[E J x1,F a n c] 122)) (Zh _ (cR #[E J y1,F b m d] 122));have HB:=Zd z;by_cases h1:x1=y1
 ·subst h1;have C:=Zd (An a b n m c d k l o _ hn (Q.later z) (hB.later z) (by rw[<-ho];simp));clear Q hB z ho;go_enter func97,ntmps97;go_wp2_with fail;refine C.mono ?_;rintro e w2 ⟨rfl,ae⟩;have af:=Zd (Zf HB ae);clear ae;go_wp2;go_ret;exact⟨rfl,Za af⟩
 ·have e:o=false:=by rw[<-ho];exact decide_eq_false (λe=>h1 (by injection e))
  have g:(x1 == y1)=false:=by simp[h1]
  subst e;clear Q hB z ho;go_enter func97,ntmps97;go_wp2;go_ret;exact⟨rfl,Za HB⟩
theorem Ep(b1 o1 b2 o2 n c d:Nat)(l k:List InD)(o:Bool)(w:World)(hn:n<=cH)(z1:l.length=n)(z2:k.length=n)
  (h1:∀ i (h:i<l.length),InAt w b1 (o1+i*3) l[i]) (h2:∀ i (h:i<k.length),InAt w b2 (o2+i*3) k[i]) (ho:decide (l=k)=o) :
  ZH 95 #[F (some ⟨b1,o1,none⟩) n c,F (some ⟨b2,o2,none⟩) n d,.func (.func 93) #[] #[]] w (cV o):=by
 subst ho;unfold cH at hn;have H1:=Zd h1;have H2:=Zd h2;have Z1:=Zd z1;have Z2:=Zd z2;clear h1 h2 z1 z2;go_enter func95,ntmps95;go_wp2
 go_loopw [17] (λi wr=>∃ j:Nat,j<=n/\i = E J j/\ZD w wr/\Hid (l.take j=k.take j)) (λi _=>n - (intOf i).toNat)
 case atStart=>exact⟨0,aM _,rfl,Below.refl _ _,rfl⟩
 case round=>
  obtain⟨j,hk,rfl,hb,A⟩:=hrel;have HB:=Zd hb;by_cases bj:j<n
  ·have aw:j<l.length:=(by rw[Za Z1];exact bj);have ax:j<k.length:=(by rw[Za Z2];exact bj);have g:=InAt.kept _ _ _ _ _ hb (H1 j aw);have f:=InAt.kept _ _ _ _ _ hb (H2 j ax);have TS:=Zd (U5 aw ax A);have TU:=Zd (Vf aw ax);obtain⟨q,hq⟩:=ZF (l[j]);obtain⟨r,hr⟩:=ZF (k[j]);rw[hq] at g;rw[hr] at f;rw[hq,hr] at TS TU;obtain⟨g1,g2,qa,qn,qc,g3,g4,g5⟩:=g;obtain⟨f1,f2,ra,rn,rc,f3,f4,_⟩:=f;obtain⟨Q,q2,qk⟩:=q;obtain⟨r1,r2,rk⟩:=r;simp only at g1 g2 g3 g4 f1 f2 f3 f4;have cb:b2<wr.heap.size:=aD _ _ f1;have ah:=Zf (Zh wr (cR #[E J Q,E J q2,F qa qn qc] 119)) (Zh _ (cR #[E J r1,E J r2,F ra rn rc] 119));have be:=Zd ah
   have C:Hid (∀ o,decide (((Q,q2,qk):InD)=(r1,r2,rk))=o->Calls aA 93 #[.agg #[E J Q,E J q2,F qa qn qc],.agg #[E J r1,E J r2,F ra rn rc]] ((wr.alloc (cR #[E J Q,E J q2,F qa qn qc] 119)).alloc (cR #[E J r1,E J r2,F ra rn rc] 119)) λe w'=>e = cS (cV o)/\Below _ _ w'):=
    λo ho=>Zbv (Q,q2,qk) (r1,r2,rk) qa ra qn qc rn rc o _ g5.len (g4.later ah) (f4.later ah) ho
   clear hq hr A g4 f4 g5 hb ah;by_cases z:((Q,q2,qk):InD)=(r1,r2,rk)
   ·have T:=Zd (TS z);have C2:=Zd (C true (decide_eq_true z));clear TS TU C z;go_wp2_with fail;refine C2.mono ?_;rintro e w3 ⟨rfl,ae⟩;have aq:=Zd (Zf (Zf HB be) ae);clear ae;go_wp2;go_roundw
    case rel=>exact⟨j+1,by omega,by go_num,Za aq,T⟩
    case measure=>simp[intOf];omega
   ·have U:Hid (decide (l=k)=false):=decide_eq_false (TU z);have C2:=Zd (C false (decide_eq_false z));clear TS TU C z;go_wp2_with fail;refine C2.mono ?_;rintro e w3 ⟨rfl,ae⟩;have aq:=Zd (Zf (Zf HB be) ae);clear ae;go_wp2;go_ret;exact⟨by rw[Za U];rfl,Za aq⟩
  ·have U:Hid (decide (l=k)=true):=by
    have h:=Za A;rw[aN (by rw[Za Z1];omega),aN (by rw[Za Z2];omega)] at h;exact decide_eq_true h
   clear A hb;go_wp2;go_ret;exact⟨by rw[Za U];rfl,Za HB⟩
theorem Ak(b1 o1 b2 o2 n c d:Nat)(l k:List Zz)(o:Bool)(w:World)(hn:n<=cH)(z1:l.length=n)(z2:k.length=n)
  (h1:∀ i (h:i<l.length),OutAt w b1 (o1+i*2) l[i]) (h2:∀ i (h:i<k.length),OutAt w b2 (o2+i*2) k[i]) (ho:decide (l=k)=o) :
  ZH 96 #[F (some ⟨b1,o1,none⟩) n c,F (some ⟨b2,o2,none⟩) n d,.func (.func 97) #[] #[]] w (cV o):=by
 subst ho;unfold cH at hn;have H1:=Zd h1;have H2:=Zd h2;have Z1:=Zd z1;have Z2:=Zd z2;clear h1 h2 z1 z2;go_enter func96,ntmps96;go_wp2
 go_loopw [17] (λi wr=>∃ j:Nat,j<=n/\i = E J j/\ZD w wr/\Hid (l.take j=k.take j)) (λi _=>n - (intOf i).toNat)
 case atStart=>exact⟨0,aM _,rfl,Below.refl _ _,rfl⟩
 case round=>
  obtain⟨j,hk,rfl,hb,A⟩:=hrel;have HB:=Zd hb;by_cases bh:j<n
  ·have au:j<l.length:=(by rw[Za Z1];exact bh);have av:j<k.length:=(by rw[Za Z2];exact bh);have g:=OutAt.kept _ _ _ _ _ hb (H1 j au);have f:=OutAt.kept _ _ _ _ _ hb (H2 j av);have TS:=Zd (U5 au av A);have TU:=Zd (Vf au av);obtain⟨q,hq⟩:=ZF (l[j]);obtain⟨r,hr⟩:=ZF (k[j]);rw[hq] at g;rw[hr] at f;rw[hq,hr] at TS TU;obtain⟨g1,qa,qn,qc,g3,g4,g5⟩:=g;obtain⟨f1,ra,rn,rc,f3,f4,_⟩:=f;obtain⟨Q,qk⟩:=q;obtain⟨r1,rk⟩:=r;simp only at g1 g3 g4 f1 f3 f4;have bx:b2<wr.heap.size:=aD _ _ f1;have af:=Zf (Zh wr (cR #[E J Q,F qa qn qc] 122)) (Zh _ (cR #[E J r1,F ra rn rc] 122));have bb:=Zd af
   have C:Hid (∀ o,decide (((Q,qk):Zz)=(r1,rk))=o->Calls aA 97 #[.agg #[E J Q,F qa qn qc],.agg #[E J r1,F ra rn rc]] ((wr.alloc (cR #[E J Q,F qa qn qc] 122)).alloc (cR #[E J r1,F ra rn rc] 122)) λe w'=>e = cS (cV o)/\Below _ _ w'):=
    λo ho=>B8 (Q,qk) (r1,rk) qa ra qn qc rn rc o _ g5.len (g4.later af) (f4.later af) ho
   clear hq hr A g4 f4 g5 hb af;by_cases z:((Q,qk):Zz)=(r1,rk)
   ·have T:=Zd (TS z);have C2:=Zd (C true (decide_eq_true z));clear TS TU C z;go_wp2_with fail;refine C2.mono ?_;rintro e w3 ⟨rfl,ac⟩;have an:=Zd (Zf (Zf HB bb) ac);clear ac;go_wp2;go_roundw
    case rel=>exact⟨j+1,by omega,by go_num,Za an,T⟩
    case measure=>simp[intOf];omega
   ·have U:Hid (decide (l=k)=false):=decide_eq_false (TU z);have C2:=Zd (C false (decide_eq_false z));clear TS TU C z;go_wp2_with fail;refine C2.mono ?_;rintro e w3 ⟨rfl,ac⟩;have an:=Zd (Zf (Zf HB bb) ac);clear ac;go_wp2;go_ret;exact⟨by rw[Za U];rfl,Za an⟩
  ·have U:Hid (decide (l=k)=true):=by
    have h:=Za A;rw[aN (by rw[Za Z1];omega),aN (by rw[Za Z2];omega)] at h;exact decide_eq_true h
   clear A hb;go_wp2;go_ret;exact⟨by rw[Za U];rfl,Za HB⟩
theorem Es(a b)(n m c d:Nat)(v w)(h:n≠m) :
  Calls aA 95 #[F a n c,F b m d,v] w λe w'=>e = cS (cV false)/\w=w':=by
 have g:((n:Int) != (m:Int))=true:=by simp;omega
 clear h;go_enter func95,ntmps95;go_wp2;go_ret;exact⟨rfl,rfl⟩
theorem Er(a b c d v w) :
  Calls aA 95 #[F a 0 c,F b 0 d,v] w λe w'=>e = cS (cV true)/\w=w':=by
 go_enter func95,ntmps95;go_wp2;refine wp_loop_rounds 1 ?_;rw[bF];go_wp2;go_ret;exact⟨rfl,rfl⟩
theorem Ao(a b)(n m c d:Nat)(l k)(o:Bool)(w:World)(hn:n<=cH)(Q:InsAt w a n l)(hB:InsAt w b m k)(z:decide (l=k)=o) :
  ZH 95 #[F a n c,F b m d,.func (.func 93) #[] #[]] w (cV o):=by
 by_cases h:n=m
 ·subst h;by_cases h0:n=0
  ·subst h0;have e1:l=[]:=aG.1 Q.1;have e2:k=[]:=aG.1 hB.1;subst e1 e2;rw[decide_eq_true rfl] at z;subst z;exact (Er a b c d _ w).mono λe w' ⟨h1,h2⟩=>⟨h1,h2 ▸ Below.refl _ _⟩
  ·obtain⟨b1,o1,rfl,_,h1⟩:=Q.2 (by omega);obtain⟨b2,o2,rfl,_,h2⟩:=hB.2 (by omega);exact Ep b1 o1 b2 o2 n c d l k o w hn Q.1 hB.1 h1 h2 z
 ·have e:l≠k:=λe=>h (by rw[<-Q.1,<-hB.1,e]);rw[decide_eq_false e] at z;subst z;exact (Es a b n m c d _ w h).mono λe w' ⟨h1,h2⟩=>⟨h1,h2 ▸ Below.refl _ _⟩
theorem Am(a b)(n m c d:Nat)(v w)(h:n≠m) :
  Calls aA 96 #[F a n c,F b m d,v] w λe w'=>e = cS (cV false)/\w=w':=by
 have g:((n:Int) != (m:Int))=true:=by simp;omega
 clear h;go_enter func96,ntmps96;go_wp2;go_ret;exact⟨rfl,rfl⟩
theorem Al(a b c d v w) :
  Calls aA 96 #[F a 0 c,F b 0 d,v] w λe w'=>e = cS (cV true)/\w=w':=by
 go_enter func96,ntmps96;go_wp2;refine wp_loop_rounds 1 ?_;rw[bF];go_wp2;go_ret;exact⟨rfl,rfl⟩
theorem Zdx(a b)(n m c d:Nat)(l k)(o:Bool)(w:World)(hn:n<=cH)(Q:OutsAt w a n l)(hB:OutsAt w b m k)(z:decide (l=k)=o) :
  ZH 96 #[F a n c,F b m d,.func (.func 97) #[] #[]] w (cV o):=by
 by_cases h:n=m
 ·subst h;by_cases h0:n=0
  ·subst h0;have e1:l=[]:=aG.1 Q.1;have e2:k=[]:=aG.1 hB.1;subst e1 e2;rw[decide_eq_true rfl] at z;subst z;exact (Al a b c d _ w).mono λe w' ⟨h1,h2⟩=>⟨h1,h2 ▸ Below.refl _ _⟩
  ·obtain⟨b1,o1,rfl,_,h1⟩:=Q.2 (by omega);obtain⟨b2,o2,rfl,_,h2⟩:=hB.2 (by omega);exact Ak b1 o1 b2 o2 n c d l k o w hn Q.1 hB.1 h1 h2 z
 ·have e:l≠k:=λe=>h (by rw[<-Q.1,<-hB.1,e]);rw[decide_eq_false e] at z;subst z;exact (Am a b n m c d _ w h).mono λe w' ⟨h1,h2⟩=>⟨h1,h2 ▸ Below.refl _ _⟩
theorem L5(h h':Int)(ai ao Q bo)(ni ci no co mi di mo eo:Nat)(I I' O O')(o:Bool)(w:World)(li:ni<=cH)(lo:no<=cH)
  (hI:InsAt w ai ni I) (hO:OutsAt w ao no O) (au:InsAt w Q mi I') (aw:OutsAt w bo mo O') (ho:Vq (h,I,O) (h',I',O')=o) :
  ZH 30 #[.agg #[E J h,F ai ni ci,F ao no co],.agg #[E J h',F Q mi di,F bo mo eo]] w (cV o):=by
 have ax:=Zh w (cR #[E J h,F ai ni ci,F ao no co] 59);have z:=Zh (w.alloc (cR #[E J h,F ai ni ci,F ao no co] 59)) (cR #[E J h',F Q mi di,F bo mo eo] 59);have hb:=Zf ax z;have HB:=Zd hb;have M2:=Zd (Ze z (U4 w (E J h) (F ai ni ci) (F ao no co) 59).2.2);have N2:=Zd (U4 (w.alloc (cR #[E J h,F ai ni ci,F ao no co] 59)) (E J h') (F Q mi di) (F bo mo eo) 59).2.2;have HI:=Zd (hI.later hb);have HO:=Zd (hO.later hb);have ap:=Zd (au.later hb);have bh:=Zd (aw.later hb);have LI:=Zd li;have LO:=Zd lo;clear hI hO au aw hb ax z li lo;by_cases h1:h=h'
 ·subst h1;by_cases h2:I=I'
  ·have az:decide (O=O')=o:=(by rw[<-ho];unfold Vq;simp[h2]);have CI:=Zd (Ao ai Q ni mi ci di I I' true _ LI HI ap (decide_eq_true h2));have HQ:=Zd az;clear ho az h2;go_enter func30,ntmps30;go_wp2_with fail;refine CI.mono ?_;rintro e w2 ⟨rfl,z⟩;have m2:=Ze z M2;have n2:=Ze z N2;rw[show (w.alloc (cR #[E J h,F ai ni ci,F ao no co] 59)).heap.size=w.heap.size+1 by simp] at n2;have s2:w.heap.size+1<w2.heap.size:=aD _ _ n2;have s1:w.heap.size<w2.heap.size:=(by omega);have CO:=Zd (Zdx ao bo no mo co eo O O' o w2 LO (HO.later z) (bh.later z) HQ);have am:=Zd (Zf HB z);clear z;go_wp2_with fail;refine CO.mono ?_;rintro e w3 ⟨rfl,ay⟩;have bf:=Zd (Zf am ay);clear ay;go_wp2;go_ret;exact⟨rfl,Za bf⟩
  ·have e:o=false:=(by rw[<-ho];unfold Vq;simp[h2]);subst e;have CI:=Zd (Ao ai Q ni mi ci di I I' false _ LI HI ap (decide_eq_false h2));clear ho h2;go_enter func30,ntmps30;go_wp2_with fail;refine CI.mono ?_;rintro e w2 ⟨rfl,z⟩;have am:=Zd (Zf HB z);clear z;go_wp2;go_ret;exact⟨rfl,Za am⟩
 ·have e:o=false:=by rw[<-ho];unfold Vq;simp[h1]
  subst e;have g:(h == h')=false:=by simp[h1]
  clear ho;go_enter func30,ntmps30;go_wp2;go_ret;exact⟨rfl,Za HB⟩
