import Derived.Test.YtmomfkikogbdeaaGreatDoorH
import Derived.Test.YtmomfkikogbdeaaGreatDoorG4
open Go.Proofs.Tryz
open Go renaming maxLen->cK,TypeId->cF,lt_of_block->aA,heap_alloc_new->aG,bodyPost_ret->bB
open Go.Addr renaming add_lit->cN
open Go.Ending renaming returned->dF
open Go.IntKind renaming wrap_i64->bR,i64->J
open Go.Obj renaming cells->dE
open Go.Proofs.Tryz renaming prog->aB,underlying29->cI
open Go.Value renaming slice->bO,int->E,slice->F,tuple->dG,pointer->dH,bool->dI
open Go.World renaming cell?->bH,block_lt_of_cell?->aE
open List renaming append_assoc->cS,take_append_of_le_length->cB,take_of_length_le->aS,length_append->cJ,length_eq_zero_iff->aL,getElem?_eq_some_iff->aX,length_take->bI,getElem?_eq_getElem->aZ,mem_append->bL
open Nat renaming le_refl->aF,le_trans->aN,lt_of_lt_of_le->aD,le_succ->dC
open Option.some renaming injEq->bJ
set_option maxHeartbeats 6400000
set_option maxRecDepth 10000
namespace Go.Proofs.YtmomfkikogbdeaaGreatDoor
open Go.RowKit
theorem Tryz.zeroCoin(w):(zeroValue 124).run aB w = .ok zeroC w:=by
 obtain⟨i0,hi,aa,_,_⟩:=info_parts Tryz.infoCoin;simp[zeroValue,typeInfo,hi,aa]
def zeroCs:List Value:=[E J 0,E J 0,E J 0,F none 0 0,E J 0,dI false]
theorem Zhx:(Builtin.zeroCells zeroC.cells 1).toList=zeroCs:=by kernel_rfl
theorem Zag:∀ v∈zeroCs,v.oneCell'=true:=by
 intro v hv;simp only[zeroCs,List.mem_cons,List.not_mem_nil,or_false] at hv
 rcases hv with rfl|rfl|rfl|rfl|rfl|rfl <;> rfl
theorem Zle(X Z:List Value)(i n:Nat)(hi:i<n)(hX:n*6<=X.length) :
  (laid (laid X (i*6) ((X.take (n*6)).drop ((i+1)*6))) ((n - 1)*6) Z).take ((n - 1)*6)=(X.take (n*6)).take (i*6)++(X.take (n*6)).drop ((i+1)*6):=by
 have e1:((X.take (n*6)).drop ((i+1)*6)).length=(n - 1)*6 - i*6:=by simp;omega
 unfold laid;rw[cS,cB (by simp;omega),aS (by simp;omega)];rw[e1,show i*6+((n - 1)*6 - i*6)=(n - 1)*6 by omega,cB (by rw[cJ,e1];simp;omega),aS (by rw[cJ,e1];simp;omega),List.take_take,Nat.min_eq_left (by omega)]
theorem Mm(base g n c i j:Nat)(K:List CV)(w:World)(hi:i<n)(hj:j=i+1)(hz:K.length=n)(h:w.ownsRow base 124 6 (F (some ⟨g,0,none⟩) n c) n (Zn K)) :
  Calls aB 251 #[F (some ⟨g,0,none⟩) n c,E J i,E J j] w λe w'=>e = dF (F (some ⟨g,0,none⟩) (n - 1) c)/\w'.ownsRow base 124 6 (F (some ⟨g,0,none⟩) (n - 1) c) (n - 1) (Zn (K.take i++K.drop (i+1)))/\w.grownBy w' (some g):=by
 obtain⟨i0,bf,cf,bj,cg⟩:=info_parts Tryz.infoCoin;obtain⟨bg,h|⟨g',c',aa,hv,be,hh,h1,h2,h3,h4⟩⟩:=h
 ·cases h.1
 simp only[Value.slice.injEq,bJ,Addr.mk.injEq,and_true,true_and] at hv;obtain⟨rfl,rfl⟩:=hv;unfold cK at h2;have ak:aa.toList.length=c*6:=by simpa using h3
 obtain⟨ab,ae⟩:=ZG ((aa.toList.take (n*6)).drop ((i+1)*6));have af:ab.length=(n - j)*6:=by rw[ae];simp;omega
 have au:∀ u∈ab,u.oneCell'=true:=λu hu=>by
  rw[ae,h4] at hu;exact Xv K u (List.mem_of_mem_drop hu)
 obtain⟨A,hA,bh⟩:∃ A:Addr,(if c=j then some (⟨g,0,none⟩:Addr) else some ⟨g,j*6,none⟩)=some A/\Hid (∀ t u,ab[t]? = some u->w.drew.cell? (A.add t)=some u):=by
  by_cases hc:c=j
  ·refine⟨⟨g,0,none⟩,by simp[hc],λt u hu=>?_⟩;have h0:ab.length=0:=(by rw[af];omega);rw[aL.1 h0] at hu;simp at hu
  ·refine⟨⟨g,j*6,none⟩,by simp[hc],λt u hu=>?_⟩;have ht:t<(n - j)*6:=(by rw[<-af];exact (aX.1 hu).1);rw[ae,List.getElem?_drop,List.getElem?_take_of_lt (by omega)] at hu;rw[cN];show w.cell? _=_;simp only[bH,hh];rw[<-hu,<-hj];simp
 have h5:i*6+ab.length<=aa.size:=by rw[af,h3];omega
 obtain⟨W1,ag⟩:=ZG (w.drew.setRow g (laid aa.toList (i*6) ab).toArray);have am:W1.heap[g]? = some (dE (laid aa.toList (i*6) ab).toArray 124 (0,0)):=by rw[ag];exact setRow_heap w.drew g aa _ 124 (0,0) hh
 have aj:(laid aa.toList (i*6) ab).length=c*6:=by rw[Wb _ _ _ (by simpa using h5),ak]
 have ap:∀ ty d,(Builtin.clear_ #[29] ty #[F (some ⟨g,(n - 1)*6,none⟩) 1 d]).run aB W1 = .ok (dG #[]) (W1.setRow g (laid (laid aa.toList (i*6) ab) ((n - 1)*6) zeroCs).toArray):=λty d=>by
  have:=Ug (P:=aB) W1 29 124 ty zeroC cI Tryz.zeroCoin g ((n - 1)*6) 1 d 6 (laid aa.toList (i*6) ab).toArray 124 zeroCs (by decide) Zhx am rfl (by simp[aj];omega) Zag;simpa using this
 have cd:i+(n - j)=n - 1:=by omega
 have R:Hid (W1.setRow g (laid (laid aa.toList (i*6) ab) ((n - 1)*6) zeroCs).toArray |>.ownsRow base 124 6 (F (some ⟨g,0,none⟩) (n - 1) c) (n - 1) (Zn (K.take i++K.drop (i+1)))):=by
  refine⟨by rw[Z6];simp;omega,.inr ⟨g,c,(laid (laid aa.toList (i*6) ab) ((n - 1)*6) zeroCs).toArray,rfl,be,setRow_heap _ g _ _ 124 (0,0) am,by omega,by unfold cK;omega,?_,?_⟩⟩
  ·rw[List.size_toArray,Wb _ _ _ (by rw[aj];simp[zeroCs];omega),aj]
  ·rw[ae];show List.take _ (laid _ _ _)=_;rw[Zle aa.toList zeroCs i n hi (by rw[ak];omega),h4,Yh,Uk,Ul]
 have G:Hid (w.grownBy (W1.setRow g (laid (laid aa.toList (i*6) ab) ((n - 1)*6) zeroCs).toArray) (some g)):=by
  have e:W1.setRow g (laid (laid aa.toList (i*6) ab) ((n - 1)*6) zeroCs).toArray=w.drew.setRow g (laid (laid aa.toList (i*6) ab) ((n - 1)*6) zeroCs).toArray:=by rw[ag,setRow_setRow]
  rw[e];refine⟨rfl,rfl,rfl,by simp[World.setRow],λk hk ar=>?_⟩;exact setRow_other w.drew g k _ (λe=>ar (by rw[e]))
 obtain⟨aw,HW,ay,az,bb,bd⟩:=kh6 ap ag au af hh h5;have bt:i<=c:=by omega
 have bx:j<=c:=by omega
 have bz:j<=n:=by omega
 have bu:¬(i=j):=by omega
 have ar:¬(c=i+(n - j)):=by omega
 have cb:i+(n - j)<=n:=by omega
 have cc:(i:Int)+((n - j:Nat):Int)<=(n:Int):=by omega
 have bv:((i:Int) == (j:Int))=false:=by simp;omega
 clear ap ag au af hh h5 am aj ae h3 h4 bg ak hj hz;go_enter func251,ntmps251;go_wp2_with fail
 go_region_law (refine Ud rfl (.tmp 22) (.tmp 25) 29 rfl 124 i0 6 cI bf bj g i c (by simp[Act.eval,Act.put]) A (n - j) (c - j) ab (by simp[Act.eval,Act.put]) az bh ay (by omega) aa 124 bb bd ?_;rw[<-Za HW])
 have bs:∀ ty d,(Builtin.clear_ #[29] ty #[F (some ⟨g,(n - 1)*6,none⟩) (n - (n - 1)) d]).run aB W1 = .ok (dG #[]) (W1.setRow g (laid (laid aa.toList (i*6) ab) ((n - 1)*6) zeroCs).toArray):=λty d=>by
  rw[show n - (n - 1)=1 by omega];exact aw ty d
 go_wp2;go_ret;exact⟨rfl,Za R,Za G⟩
theorem Z2(y:CV):(Zn [y]).length=6:=Z6 [y]
theorem Vq{w:World}{b:Nat}{X:List Value}{t:cF}(h:w.heap[b]? = some (dE X.toArray t (0,0)))(j:Nat)(u)(hj:X[j]? = some u):w.cell? ⟨b,j,none⟩=some u:=by
 simp only[bH,h];simpa using hj
theorem Uj(ao)(n c vb:Nat)(K:List CV)(y:CV)(w:World)(hn:n<=4096)(bd:n<=c)(av:c<n+1)(hz:K.length=n)(ad:ao=none->n=0/\c=0)
  (hc:∀ b,ao=some b->∀ j u,(Zn K)[j]? = some u->w.cell? (b.add j)=some u) (hv:w.heap[vb]? = some (dE (Zn [y]).toArray 124 (0,0))) :
  Calls aB 254 #[F ao n c,E J n,F (some ⟨vb,0,none⟩) 1 1] w λe w'=>∃ v',e = dF v'/\w'.ownsRow w.heap.size 124 6 v' (n+1) (Zn (K++[y]))/\w.grownBy w' none:=by
 obtain⟨i0,ar,aw,ax,ay⟩:=info_parts Tryz.infoCoin;have HC:=Zd hc;have HZ:Hid ((Zn K).length=n*6):=by show _=_;rw[Z6,hz]
 have HN:=Zd ad
 have HV:Hid (∀ j u,(Zn [y])[j]? = some u->w.cell? ((⟨vb,0,none⟩:Addr).add j)=some u):=λj u hj=>by
  rw[cN,Nat.zero_add];exact Vq hv j u hj
 have H1:Hid ((Zn [y]).length=1*6):=Z2 y;clear hc hz ad hv;go_enter func254,ntmps254
 go_wp2_with (at_builtin;refine wpList_append_grows _ rfl _ _ 29 rfl 124 i0 zeroC 6 64 cI ar aw ax ay rfl (by decide) ao n c (Zn K) rfl HN HZ HC ⟨vb,0,none⟩ 1 1 (Zn [y]) rfl H1 HV (Xv [y]) av (by unfold cK;omega) (by omega) ?_;intro v2 w3 ae ac)
 have HW:Hid (w3.ownsRow w.heap.size 124 6 v2 (n+1) (Zn (K++[y]))):=by rw[Yh];exact ae
 have HG:=Zd ac;clear ae ac;go_wp2;go_ret;exact⟨v2,rfl,Za HW,Za HG⟩
theorem T6{P:Program}(w:World)(t ty e:cF)(i:TypeInfo)(size:Nat)(h1:P.underlying t=some (.slice e))(h2:P.info? e=some i)(h4:i.size=size)
  (b n cap:Nat) (ap:Addr) (m c:Nat) (aa:List Value) (hn:aa.length=m*size) (hc:∀ j u,aa[j]? = some u->w.cell? (ap.add j)=some u) (af:∀ u∈aa,u.oneCell'=true)
  (am:n+m<=cap) (ab:Array Value) (te:cF) (an:w.heap[b]? = some (dE ab te (0,0))) (aj:n*size+aa.length<=ab.size) :
  (Builtin.append_ #[t,t] ty #[F (some ⟨b,0,none⟩) n cap,F (some ap) m c]).run P w = .ok (F (some ⟨b,0,none⟩) (n+m) cap) (w.setRow b (laid ab.toList (n*size) aa).toArray):=by
 subst h4;have ah:=run_firstCells_some (P:=P) w i.size m ap m c aa hn hc;have ad:=run_storeCells_at P b (n*i.size) te aa 0 ab w an (by simpa using aj) af;simp only[Nat.add_zero] at ad;simp[Builtin.append_,run_underlying h1,sizeOf,typeInfo,h2,Builtin.lenOf,am,ah,cN,ad,laid]
theorem Zoh(X Y:List Value)(n c:Nat)(h:n+1<=c)(hX:X.length=c*6)(hY:Y.length=6):(laid X (n*6) Y).take ((n+1)*6)=X.take (n*6)++Y:=by
 unfold laid;rw[cB (by simp;omega),aS (by simp;omega)]
theorem Ld(base g n c vb:Nat)(K:List CV)(y:CV)(w:World)(ae:n+1<=c)(hz:K.length=n)(h:w.ownsRow base 124 6 (F (some ⟨g,0,none⟩) n c) n (Zn K))(hv:w.heap[vb]? = some (dE (Zn [y]).toArray 124 (0,0))) :
  Calls aB 254 #[F (some ⟨g,0,none⟩) n c,E J n,F (some ⟨vb,0,none⟩) 1 1] w λe w'=>e = dF (F (some ⟨g,0,none⟩) (n+1) c)/\w'.ownsRow base 124 6 (F (some ⟨g,0,none⟩) (n+1) c) (n+1) (Zn (K++[y]))/\w.grownBy w' (some g):=by
 obtain⟨i0,ak,ay,ar,az⟩:=info_parts Tryz.infoCoin;obtain⟨an,h|⟨g',c',aa,ag,aj,hh,h1,h2,h3,h4⟩⟩:=h
 ·cases h.1
 simp only[Value.slice.injEq,bJ,Addr.mk.injEq,and_true,true_and] at ag;obtain⟨rfl,rfl⟩:=ag;unfold cK at h2;have ab:aa.toList.length=c*6:=by simpa using h3
 have HR:Hid (∀ ty,(Builtin.append_ #[29,29] ty #[F (some ⟨g,0,none⟩) n c,F (some ⟨vb,0,none⟩) 1 1]).run aB w = .ok (F (some ⟨g,0,none⟩) (n+1) c) (w.setRow g (laid aa.toList (n*6) (Zn [y])).toArray)):=λty=>
  T6 w 29 ty 124 i0 6 cI ak ar g n c ⟨vb,0,none⟩ 1 1 (Zn [y]) (Z2 y) (λj u hj=>by rw[cN,Nat.zero_add];exact Vq hv j u hj) (Xv [y]) ae aa 124 hh (by rw[Z2,h3];omega)
 have R:Hid ((w.setRow g (laid aa.toList (n*6) (Zn [y])).toArray).ownsRow base 124 6 (F (some ⟨g,0,none⟩) (n+1) c) (n+1) (Zn (K++[y]))):=by
  refine⟨by rw[Z6];simp;omega,.inr ⟨g,c,(laid aa.toList (n*6) (Zn [y])).toArray,rfl,aj,setRow_heap _ g _ _ 124 (0,0) hh,ae,by unfold cK;omega,?_,?_⟩⟩
  ·rw[List.size_toArray,Wb _ _ _ (by rw[ab,Z2];omega),ab]
  ·show List.take _ (laid _ _ _)=_;rw[Zoh _ _ n c ae ab (Z2 y),h4,Yh]
 have G:Hid (w.grownBy (w.setRow g (laid aa.toList (n*6) (Zn [y])).toArray) (some g)):=
  ⟨rfl,rfl,rfl,by simp[World.setRow],λk hk ap=>setRow_other w g k _ (λe=>ap (by rw[e]))⟩
 clear hh h3 h4 an ab hz hv;go_enter func254,ntmps254
 go_wp2_with (at_builtin;refine Vy _ rfl _ _ 29 29 rfl _ _ rfl rfl (HR _) ?_)
 go_wp2;go_ret;exact⟨rfl,Za R,Za G⟩
theorem Zog(X Y:List Value)(i n c:Nat)(hi:i<n)(h:n+1<=c)(hX:X.length=c*6)(hY:Y.length=6) :
  (laid (laid X ((i+1)*6) ((X.take (n*6)).drop (i*6))) (i*6) Y).take ((n+1)*6)=(X.take (n*6)).take (i*6)++(Y++(X.take (n*6)).drop (i*6)):=by
 have e1:((X.take (n*6)).drop (i*6)).length=n*6 - i*6:=by simp;omega
 obtain⟨Z,hZ⟩:=ZG ((X.take (n*6)).drop (i*6));rw[<-hZ] at e1 ⊢
 have e2:(laid X ((i+1)*6) Z).take (i*6)=X.take (i*6):=by
  unfold laid;rw[cS,cB (by simp;omega),List.take_take,Nat.min_eq_left (by omega)]
 have e3:(laid X ((i+1)*6) Z).drop (i*6+6)=Z++X.drop ((i+1)*6+Z.length):=by
  unfold laid;rw[cS,show i*6+6=(i+1)*6 by omega,List.drop_append_of_le_length (by simp;omega),List.drop_of_length_le (by rw[bI];omega),List.nil_append]
 rw[show laid (laid X ((i+1)*6) Z) (i*6) Y=X.take (i*6)++Y++(Z++X.drop ((i+1)*6+Z.length)) by unfold laid at e2 e3 ⊢;rw[hY,e2,e3]];rw[<-cS,cB (by simp[e1,hY];omega),aS (by simp[e1,hY];omega),List.take_take,Nat.min_eq_left (by omega),cS]
theorem De(K:List CV)(y:CV)(i:Nat):Zn (K.take i++y :: K.drop i)=(Zn K).take (i*6)++(Zn [y]++(Zn K).drop (i*6)):=by
 rw[Uk,Ul,Yh,show y :: K.drop i=[y]++K.drop i from rfl,Yh]
theorem Pj(base g n c i vb:Nat)(K:List CV)(y:CV)(w:World)(hi:i<n)(ax:n+1<=c)(hz:K.length=n)(h:w.ownsRow base 124 6 (F (some ⟨g,0,none⟩) n c) n (Zn K))(hv:w.heap[vb]? = some (dE (Zn [y]).toArray 124 (0,0)))(ap:vb≠g) :
  Calls aB 254 #[F (some ⟨g,0,none⟩) n c,E J i,F (some ⟨vb,0,none⟩) 1 1] w λe w'=>e = dF (F (some ⟨g,0,none⟩) (n+1) c)/\w'.ownsRow base 124 6 (F (some ⟨g,0,none⟩) (n+1) c) (n+1) (Zn (K.take i++y :: K.drop i))/\w.grownBy w' (some g):=by
 obtain⟨i0,be,cm,bj,cn⟩:=info_parts Tryz.infoCoin;obtain⟨bf,h|⟨g',c',aa,bb,bd,hh,h1,h2,h3,h4⟩⟩:=h
 ·cases h.1
 simp only[Value.slice.injEq,bJ,Addr.mk.injEq,and_true,true_and] at bb;obtain⟨rfl,rfl⟩:=bb;unfold cK at h2;have am:aa.toList.length=c*6:=by simpa using h3
 have ay:(Tryz.prog.info? 124).map (·.size)=some 6:=by rw[be];simp[bj]
 have bg:∀ lb cq,(callFunc 283 #[F (some ⟨vb,0,none⟩) 1 1,F (some ⟨g,(i+1)*6,none⟩) lb cq]).run aB w = .ok (.value (dI false)) w:=λlb cq=>by
  rw[run_callFunc_extern func283 (by kernel_rfl) (by kernel_rfl) (by kernel_rfl) (e:=Extern.SlicesOverlaps.overlaps #[29,29] #[4]) (by kernel_rfl),
   Lib.run_overlaps_apart w 29 4 124 cI 6 Tryz.sizeOf124 ⟨vb,0,none⟩ ⟨g,(i+1)*6,none⟩ 1 1 lb cq ap 124 124 6 (c*6) (by simp[World.shape?,hv,Z2]) (by simp[World.shape?,hh,h3]) (by omega) (by simp[World.frozen?,hv]) (by simp[World.frozen?,hv])]
  rfl
 obtain⟨Z,hZ⟩:=ZG ((aa.toList.take (n*6)).drop (i*6));have ag:Z.length=(n - i)*6:=by rw[hZ];simp;omega
 have av:∀ u∈Z,u.oneCell'=true:=λu hu=>by
  rw[hZ,h4] at hu;exact Xv K u (List.mem_of_mem_drop hu)
 obtain⟨W1,ae⟩:=ZG (w.drew.setRow g (laid aa.toList ((i+1)*6) Z).toArray);have ar:W1.heap[g]? = some (dE (laid aa.toList ((i+1)*6) Z).toArray 124 (0,0)):=by rw[ae];exact setRow_heap w.drew g aa _ 124 (0,0) hh
 have an:(laid aa.toList ((i+1)*6) Z).length=c*6:=by rw[Wb _ _ _ (by rw[am,ag];omega),am]
 have bz:∀ ty dc sc,(Builtin.copy_ #[29,29] ty #[F (some ⟨g,(i+1)*6,none⟩) (n - i) dc,F (some ⟨g,i*6,none⟩) (n+1 - i) sc]).run aB w.drew = .ok (goInt (n - i)) W1:=λty dc sc=>by
  have:=Vi (P:=aB) w.drew 29 29 ty 124 g ((i+1)*6) (n - i) dc ⟨g,i*6,none⟩ (n+1 - i) sc 6 aa 124 Z cI ay hh (by rw[ag];simp only[Nat.min_def];split <;> omega)
   (λj u hj=>by
    have ht:j<(n - i)*6:=(by rw[<-ag];exact (aX.1 hj).1);rw[hZ,List.getElem?_drop,List.getElem?_take_of_lt (by omega)] at hj;rw[cN];show w.cell? _=_;simp only[bH,hh];rw[<-hj];simp) (by rw[ag,h3];omega) av
  rw[this,ae]
  congr 1
  simp only[Nat.min_def];split <;> (congr 1;omega)
 have hm:Nat.min 1 (n+1 - i)=1:=by simp only[Nat.min_def];split <;> omega
 have ca:∀ ty dc,(Builtin.copy_ #[29,29] ty #[F (some ⟨g,i*6,none⟩) (n+1 - i) dc,F (some ⟨vb,0,none⟩) 1 1]).run aB W1 = .ok (goInt 1) (W1.setRow g (laid (laid aa.toList ((i+1)*6) Z) (i*6) (Zn [y])).toArray):=λty dc=>by
  have bh:W1.heap[vb]? = some (dE (Zn [y]).toArray 124 (0,0)):=by rw[ae,setRow_other _ _ _ _ ap];exact hv
  have:=Vi (P:=aB) W1 29 29 ty 124 g (i*6) (n+1 - i) dc ⟨vb,0,none⟩ 1 1 6 (laid aa.toList ((i+1)*6) Z).toArray 124 (Zn [y]) cI ay ar (by rw[Z2,hm])
   (λj u hj=>by rw[cN,Nat.zero_add];exact Vq bh j u hj) (by rw[Z2,List.size_toArray,an];omega) (Xv [y])
  rw[this,hm];rfl
 have R:Hid ((W1.setRow g (laid (laid aa.toList ((i+1)*6) Z) (i*6) (Zn [y])).toArray).ownsRow base 124 6 (F (some ⟨g,0,none⟩) (n+1) c) (n+1) (Zn (K.take i++y :: K.drop i))):=by
  refine⟨by rw[Z6];simp;omega,.inr ⟨g,c,(laid (laid aa.toList ((i+1)*6) Z) (i*6) (Zn [y])).toArray,rfl,bd,setRow_heap _ g _ _ 124 (0,0) ar,ax,by unfold cK;omega,?_,?_⟩⟩
  ·rw[List.size_toArray,Wb _ _ _ (by rw[an,Z2];omega),an]
  ·show List.take _ (laid _ _ _)=_;rw[hZ,Zog _ _ i n c hi ax am (Z2 y),h4,De]
 have G:Hid (w.grownBy (W1.setRow g (laid (laid aa.toList ((i+1)*6) Z) (i*6) (Zn [y])).toArray) (some g)):=by
  have e:W1.setRow g (laid (laid aa.toList ((i+1)*6) Z) (i*6) (Zn [y])).toArray=w.drew.setRow g (laid (laid aa.toList ((i+1)*6) Z) (i*6) (Zn [y])).toArray:=by rw[ae,setRow_setRow]
  rw[e];exact⟨rfl,rfl,rfl,by simp[World.setRow],λk hk ap=>setRow_other w.drew g k _ (λe=>ap (by rw[e]))⟩
 have cc:i<=n:=by omega
 have bq:(0:Int)<=(i:Int)+1:=by omega
 have cb:i<=c:=by omega
 have h9:¬((i:Int)=(n:Int)):=by omega
 have br:¬(c=i+1):=by omega
 have bt:¬(c=i):=by omega
 have cj:IntKind.i64.wrap ((i:Int)+1)=(i:Int)+1:=by rw[bR];omega
 have cl:IntKind.i64.wrap ((n:Int)+1)=(n:Int)+1:=by rw[bR];omega
 have cf:((i:Int)+1).toNat=i+1:=by omega
 have cg:((n:Int)+1).toNat=n+1:=by omega
 have bs:(i:Int)<=(n:Int)+1:=by omega
 have bu:(i:Int)+1<=(n:Int)+1:=by omega
 have bv:(n:Int)+1<=(c:Int):=by omega
 have bx:¬((c:Int)<(n:Int)+1):=by omega
 clear ae ar an hh h3 h4 bf am hz hv hZ ag av;go_enter func254,ntmps254
 go_wp2_with (simp only[bg])
 go_region
 go_wp2;go_ret;exact⟨rfl,Za R,Za G⟩
theorem Zof(X Y Z O:List Value)(i n C:Nat)(hi:i<n)(hC:n+1<=C)(hX:X.length=C*6)(hO:X.take (i*6)=O)(hY:Y.length=6)(hZ:Z.length=(n - i)*6) :
  (laid (laid X (i*6) Y) ((i+1)*6) Z).take ((n+1)*6)=O++(Y++Z):=by
 have e2:(laid X (i*6) Y).take ((i+1)*6)=O++Y:=by
  unfold laid;rw[cB (by simp;omega),aS (by simp;omega),hO]
 rw[show laid (laid X (i*6) Y) ((i+1)*6) Z=O++Y++Z++(laid X (i*6) Y).drop ((i+1)*6+Z.length) by rw[<-e2];rfl];have ad:O.length=i*6:=by rw[<-hO,bI];omega
 rw[cB (by simp;omega),aS (by simp;omega),cS]
theorem Gu(base g n c i vb:Nat)(K:List CV)(y:CV)(w:World)(hi:i<n)(hn:n<=4096)(dg:c<n+1)(hz:K.length=n)(h:w.ownsRow base 124 6 (F (some ⟨g,0,none⟩) n c) n (Zn K))(hv:w.heap[vb]? = some (dE (Zn [y]).toArray 124 (0,0))) :
  Calls aB 254 #[F (some ⟨g,0,none⟩) n c,E J i,F (some ⟨vb,0,none⟩) 1 1] w λe w'=>∃ v',e = dF v'/\w'.ownsRow w.heap.size 124 6 v' (n+1) (Zn (K.take i++y :: K.drop i))/\w.grownBy w' none:=by
 obtain⟨i0,bj,cm,be,bx⟩:=info_parts Tryz.infoCoin;obtain⟨bo,h|⟨g',c',cb,bu,da,hh,h1,h2,h3,h4⟩⟩:=h
 ·cases h.1
 simp only[Value.slice.injEq,bJ,Addr.mk.injEq,and_true,true_and] at bu;obtain⟨rfl,rfl⟩:=bu;unfold cK at h2;have ce:cb.toList.length=c*6:=by simpa using h3
 have bs:(Tryz.prog.info? 124).map (·.size)=some 6:=by rw[bj];simp[be]
 have cg:g<w.heap.size:=aA hh;have cj:vb<w.heap.size:=aA hv;obtain⟨k,hk⟩:=ZG (n+1 - i);have bk:i+k=n+1:=by omega
 obtain⟨O,hO⟩:=ZG (Zn (K.take i));have ah:O.length=i*6:=by rw[hO,Z6,bI];omega
 have aw:∀ j u,(Zn K)[j]? = some u->w.cell? ⟨g,j,none⟩=some u:=λj u hj=>by
  have bb:j<n*6:=by rw[<-bo];exact (aX.1 hj).1
  rw[<-h4,List.getElem?_take_of_lt bb] at hj;simp only[bH,hh];simpa using hj
 obtain⟨C,hC⟩:=ZG (grownCap w (i+k) c 124);have bg:n+1<=C:=by rw[hC,<-bk];exact grownCap_ge w (i+k) c 124
 have cc:C<=cK:=by rw[hC];exact grownCap_le_maxLen w (i+k) c 124 (by unfold cK;omega)
 obtain⟨X,hX⟩:=ZG ((O.toArray++Builtin.zeroCells zeroC.cells k++Builtin.zeroCells zeroC.cells (C - (i+k))))
 have av:X.size=C*6:=by
  rw[hX];have:zeroC.cells.size=6:=rfl;simp only[Array.size_append,List.size_toArray,size_zeroCells,this,ah];omega
 have aq:X.toList.length=C*6:=by simpa using av
 have bh:X.toList.take (i*6)=O:=by
  rw[hX,<-ah];simp
 obtain⟨W0,ab⟩:=ZG (w.drew.alloc (dE X 124))
 have bi:∀ ty,(Builtin.append_ #[29,3] ty #[F (some ⟨g,0,none⟩) i c,E J k]).run aB w = .ok (F (some ⟨w.heap.size,0,none⟩) (n+1) C) W0:=λty=>by
  have:=Lib.run_append_grow_zeros (P:=aB) w 29 3 ty 124 i0 zeroC .i64 .i64 cI underlying3 bj cm (some ⟨g,0,none⟩) i c O
   (run_firstCells_some (P:=aB) w.drew i0.size i ⟨g,0,none⟩ i c O (by rw[ah,be]) (λj u hj=>by
    rw[cN,Nat.zero_add];have bb:j<i*6:=(by rw[<-ah];exact (aX.1 hj).1);rw[hO,<-Uk,List.getElem?_take_of_lt bb] at hj;exact aw j u hj))
   k (by omega) (by rw[be];decide) (by omega) (by omega) (by rw[bx];omega) (growslice_fits (by omega) (by rw[bx];omega))
  rw[this,ab,hX,hC,bk]
 have ay:W0.heap[w.heap.size]? = some (dE X 124 (0,0)):=by rw[ab];exact aG w.drew _
 obtain⟨W1,ad⟩:=ZG (W0.setRow w.heap.size (laid X.toList (i*6) (Zn [y])).toArray);have az:W1.heap[w.heap.size]? = some (dE (laid X.toList (i*6) (Zn [y])).toArray 124 (0,0)):=by rw[ad];exact setRow_heap W0 _ _ _ 124 (0,0) ay
 have ar:(laid X.toList (i*6) (Zn [y])).length=C*6:=by rw[Wb _ _ _ (by rw[aq,Z2];omega),aq]
 have hm:Nat.min 1 (n+1 - i)=1:=by simp only[Nat.min_def];split <;> omega
 have br:Nat.min (n - i) (n - i)=n - i:=by simp only[Nat.min_def];split <;> omega
 have db:∀ ty dl,(Builtin.copy_ #[29,29] ty #[F (some ⟨w.heap.size,i*6,none⟩) (n+1 - i) dl,F (some ⟨vb,0,none⟩) 1 1]).run aB W0 = .ok (goInt 1) W1:=λty dl=>by
  have cl:W0.heap[vb]? = some (dE (Zn [y]).toArray 124 (0,0)):=by rw[ab,Below.heap_alloc w.drew _ vb cj];exact hv
  have:=Vi (P:=aB) W0 29 29 ty 124 w.heap.size (i*6) (n+1 - i) dl ⟨vb,0,none⟩ 1 1 6 X 124 (Zn [y]) cI bs ay (by rw[Z2,hm])
   (λj u hj=>by rw[cN,Nat.zero_add];exact Vq cl j u hj) (by rw[Z2,av];omega) (Xv [y])
  rw[this,hm,ad];rfl
 obtain⟨Z,hZ⟩:=ZG (Zn (K.drop i));have ak:Z.length=(n - i)*6:=by rw[hZ,Z6,List.length_drop,hz]
 obtain⟨W2,ae⟩:=ZG (W1.drew.setRow w.heap.size (laid (laid X.toList (i*6) (Zn [y])) ((i+1)*6) Z).toArray)
 have dc:∀ ty dl sc,(Builtin.copy_ #[29,29] ty #[F (some ⟨w.heap.size,(i+1)*6,none⟩) (n - i) dl,F (some ⟨g,i*6,none⟩) (n - i) sc]).run aB W1.drew = .ok (goInt ((n - i:Nat):Int)) W2:=λty dl sc=>by
  have:=Vi (P:=aB) W1.drew 29 29 ty 124 w.heap.size ((i+1)*6) (n - i) dl ⟨g,i*6,none⟩ (n - i) sc 6 (laid X.toList (i*6) (Zn [y])).toArray 124 Z cI bs az (by rw[ak,br])
   (λj u hj=>by
    rw[cN];show W1.cell? _=_;have cd:W1.heap[g]? = w.heap[g]?:=(by rw[ad,setRow_other _ _ _ _ (by omega),ab,Below.heap_alloc w.drew _ g cg];rfl);rw[World.cell?_of_block (a:=⟨g,i*6+j,none⟩) cd];exact aw _ u (by rw[hZ,<-Ul,List.getElem?_drop] at hj;exact hj)) (by rw[ak,List.size_toArray,ar];omega) (λu hu=>Xv _ u (by rw[hZ] at hu;exact hu))
  rw[this,br,ae]
 have R:Hid (W2.ownsRow w.heap.size 124 6 (F (some ⟨w.heap.size,0,none⟩) (n+1) C) (n+1) (Zn (K.take i++y :: K.drop i))):=by
  refine⟨by rw[Z6];simp;omega,.inr ⟨w.heap.size,C,(laid (laid X.toList (i*6) (Zn [y])) ((i+1)*6) Z).toArray,rfl,aF _,by rw[ae];exact setRow_heap W1.drew _ _ _ 124 (0,0) az,bg,cc,?_,?_⟩⟩
  ·rw[List.size_toArray,Wb _ _ _ (by rw[ar,ak];omega),ar]
  ·show List.take _ (laid _ _ _)=_;rw[Zof X.toList (Zn [y]) Z O i n C hi bg aq bh (Z2 y) ak,De,Uk,Ul,hO,hZ]
 have G:Hid (w.grownBy W2 none):=by
  refine⟨by rw[ae,ad,ab];rfl,by rw[ae,ad,ab];rfl,by rw[ae,ad,ab];rfl,by rw[ae,ad,ab];simp[World.setRow],λq hq _=>?_⟩;rw[ae,setRow_other _ _ _ _ (by omega)];show W1.heap[q]? = _;rw[ad,setRow_other _ _ _ _ (by omega),ab,Below.heap_alloc w.drew _ q hq];rfl
 have de:i<=n:=by omega
 have dd:i<=c:=by omega
 have h9:¬((i:Int)=(n:Int)):=by omega
 have cq:(0:Int)<=(i:Int)+1:=by omega
 have ct:¬(C=i+1):=by omega
 have cw:¬(C=i):=by omega
 have cz:¬(c=i):=by omega
 have di:IntKind.i64.wrap ((i:Int)+1)=(i:Int)+1:=by rw[bR];omega
 have dj:IntKind.i64.wrap ((n:Int)+1)=(n:Int)+1:=by rw[bR];omega
 have dk:IntKind.i64.wrap ((n:Int)+1 - (i:Int))=(k:Int):=by rw[bR];omega
 have dh:((i:Int)+1).toNat=i+1:=by omega
 have cx:(i:Int)+1<=(n:Int)+1:=by omega
 have cu:(i:Int)<=(n:Int)+1:=by omega
 have cy:(c:Int)<(n:Int)+1:=by omega
 have ca:=Zd bi;clear bi ab ad ae ay az ar hh h3 h4 bo ce hz hv hZ ak hX av aq bh hO ah hC aw hk;go_enter func254,ntmps254
 go_wp2_with (at_builtin;refine Vy _ rfl _ _ 29 3 rfl _ _ rfl rfl (ca _) ?_)
 go_wp2
 go_region
 go_wp2;go_ret;exact⟨_,rfl,Za R,Za G⟩
theorem Yo{w:World}{base aa:Nat}{e:cF}{size:Nat}{v}{n:Nat}{xs}(h:w.ownsRow aa e size v n xs)(hb:base<=aa):w.ownsRow base e size v n xs:=by
 obtain⟨hl,h0|⟨g,cap,ac,hv,hg,r⟩⟩:=h
 ·exact⟨hl,.inl h0⟩
 ·exact⟨hl,.inr ⟨g,cap,ac,hv,aN hb hg,r⟩⟩
theorem Pk{w w':World}{row:Option Nat}(h:w.grownBy w' none):w.grownBy w' row:=⟨h.os,h.tape,h.output,h.size,λk hk _=>h.block k hk (by simp)⟩
theorem Le(base:Nat)(a)(n c i vb:Nat)(K:List CV)(y:CV)(w:World)(hi:i<=n)(hn:n<=4096)(hz:K.length=n)(ag:base<=w.heap.size)(h:w.ownsRow base 124 6 (F a n c) n (Zn K))(hv:w.heap[vb]? = some (dE (Zn [y]).toArray 124 (0,0)))
  (au:(bO a n c).ownBlock≠some vb) :
  Calls aB 254 #[F a n c,E J i,F (some ⟨vb,0,none⟩) 1 1] w λe w'=>∃ v',e = dF v'/\w'.ownsRow base 124 6 v' (n+1) (Zn (K.take i++y :: K.drop i))/\w.grownBy w' (bO a n c).ownBlock/\(v'.ownBlock=(bO a n c).ownBlock\/∀ k,v'.ownBlock=some k->w.heap.size<=k):=by
 have hO:=h
 rcases h.2 with ⟨e,h0⟩|⟨g,c',aw,am,ax,hh,h1,h2,h3,h4⟩
 ·simp only[Value.slice.injEq] at e;obtain⟨rfl,rfl,rfl⟩:=e;obtain rfl:i=0:=by omega
  have eK:K=[]:=aL.1 hz;subst eK;refine (Uj none 0 0 vb [] y w hn (aF _) (by omega) rfl (λ_=>⟨rfl,rfl⟩) (λb hb=>by cases hb) hv).mono ?_;rintro e w' ⟨v',rfl,x,z⟩;exact⟨v',rfl,Yo x ag,Pk z,.inr λk hk=>Xn x k hk⟩
 ·simp only[Value.slice.injEq] at am;obtain⟨rfl,_,rfl⟩:=am;have ap:vb≠g:=λe=>au (by rw[e];rfl);by_cases aq:i=n
  ·subst aq;by_cases hr:i+1<=c
   ·refine (Ld base g i c vb K y w hr hz hO hv).mono ?_;rintro e w' ⟨rfl,x,z⟩;exact⟨_,rfl,by rw[<-hz,List.take_length,List.drop_length,hz];exact x,z,.inl rfl⟩
   ·refine (Uj (some ⟨g,0,none⟩) i c vb K y w hn h1 (by omega) hz (λe=>by cases e) (λb hb j u hj=>?_) hv).mono ?_
    ·cases hb;rw[cN,Nat.zero_add];have ar:j<i*6:=(by rw[<-hO.1];exact (aX.1 hj).1);rw[World.ownsRow.cellAt hO j ar];exact hj
    ·rintro e w' ⟨v',rfl,x,z⟩;exact⟨v',rfl,by rw[<-hz,List.take_length,List.drop_length,hz];exact Yo x ag,Pk z,.inr λk hk=>Xn x k hk⟩
  ·by_cases hr:n+1<=c
   ·refine (Pj base g n c i vb K y w (by omega) hr hz hO hv ap).mono ?_;rintro e w' ⟨rfl,x,z⟩;exact⟨_,rfl,x,z,.inl rfl⟩
   ·refine (Gu base g n c i vb K y w (by omega) hn (by omega) hz hO hv).mono ?_;rintro e w' ⟨v',rfl,x,z⟩;exact⟨v',rfl,Yo x ag,Pk z,.inr λk hk=>Xn x k hk⟩
structure Gr(w w':World)(S:Nat->Prop):Prop where
 os:w'.os=w.os
 tape:w'.tape=w.tape
 output:w'.output=w.output
 size:w.heap.size<=w'.heap.size
 block:∀ k,k<w.heap.size->¬S k->w'.heap[k]? = w.heap[k]?
theorem Gr.refl(w)(S:Nat->Prop):Gr w w S:=⟨rfl,rfl,rfl,aF _,λ_ _ _=>rfl⟩
theorem Gr.of{w w':World}{S:Nat->Prop}(h:ZD w w'):Gr w w' S:=⟨h.os,h.tape,h.output,h.size,λk hk _=>h.block k hk⟩
theorem Gr.on{w w1 w2:World}{S:Nat->Prop}(h:Gr w w1 S)(k:ZD w1 w2):Gr w w2 S:=
 ⟨k.os.trans h.os,k.tape.trans h.tape,k.output.trans h.output,aN h.size k.size,λi hi hn=>(k.block i (aD hi h.size)).trans (h.block i hi hn)⟩
theorem Gr.trans{w w1 w2}{S:Nat->Prop}(h:Gr w w1 S)(k:Gr w1 w2 S):Gr w w2 S:=
 ⟨k.os.trans h.os,k.tape.trans h.tape,k.output.trans h.output,aN h.size k.size,λi hi hn=>(k.block i (aD hi h.size) hn).trans (h.block i hi hn)⟩
theorem Gr.mono{w w1:World}{S T:Nat->Prop}(h:Gr w w1 S)(hs:∀ k,k<w.heap.size->S k->T k):Gr w w1 T:=
 ⟨h.os,h.tape,h.output,h.size,λi hi hn=>h.block i hi (λq=>hn (hs i hi q))⟩
theorem Gr.grown{w w1 w2:World}{S:Nat->Prop}{row:Option Nat}(h:Gr w w1 S)(g:w1.grownBy w2 row)(hr:∀ k,row=some k->S k\/w.heap.size<=k):Gr w w2 S:=
 ⟨g.os.trans h.os,g.tape.trans h.tape,g.output.trans h.output,aN h.size g.size,λi hi hn=>(g.block i (aD hi h.size) (λe=>by
  rcases hr i e.symm with q|q
  ·exact hn q
  ·omega)).trans (h.block i hi hn)⟩
theorem Gr.set{w w1:World}{S:Nat->Prop}(h:Gr w w1 S){p:Addr}(hp:S p.block\/w.heap.size<=p.block)(u):Gr w (w1.setCell p u) S:=
 ⟨h.os,h.tape,h.output,by simpa[World.setCell] using h.size,λi hi hn=>(Below.heap_setCell w1 p u i (λe=>by
  subst e
  rcases hp with q|q
  ·exact hn q
  ·omega)).trans (h.block i hi hn)⟩
theorem Gr.one{w w1:World}{S:Nat->Prop}(h:Gr w w1 S)(b i:Nat)(hb:S b\/w.heap.size<=b)(u):Gr w (w1.setCell ⟨b,i,none⟩ u) S:=h.set (p:=⟨b,i,none⟩) hb u
theorem Gr.six{w w1:World}{S:Nat->Prop}(h:Gr w w1 S)(b:Nat)(hb:S b\/w.heap.size<=b)(a0 a1 a2 a3 a4 a5):Gr w ((((((w1.setCell ⟨b,0,none⟩ a0).setCell ⟨b,1,none⟩ a1).setCell ⟨b,2,none⟩ a2).setCell ⟨b,3,none⟩ a3).setCell ⟨b,4,none⟩ a4).setCell ⟨b,5,none⟩ a5) S:=
 (((((h.one b 0 hb a0).one b 1 hb a1).one b 2 hb a2).one b 3 hb a3).one b 4 hb a4).one b 5 hb a5
theorem Gr.new{w w1:World}{S:Nat->Prop}(h:Gr w w1 S)(o:Obj):Gr w (w1.alloc o) S:=h.on (Zh _ _)
theorem Gr.draw{w w1:World}{S:Nat->Prop}(h:Gr w w1 S):Gr w w1.drew S:=⟨h.os,h.tape,h.output,h.size,h.block⟩
theorem Gr.below{w0 w w':World}{S:Nat->Prop}{B:Nat}(h:Gr w w' S)(hb:Below B w0 w)(hB:B<=w.heap.size)(hs:∀ k,S k->B<=k):Below B w0 w':=
 ⟨h.os.trans hb.os,h.tape.trans hb.tape,h.output.trans hb.output,aN hb.size h.size,λk hk=>(h.block k (by omega) (λq=>by have:=hs k q;omega)).trans (hb.block k hk)⟩
theorem Gr.own{w w':World}{S:Nat->Prop}(h:Gr w w' S){base:Nat}{e:cF}{size:Nat}{v:Value}{n:Nat}{xs}(ho:w.ownsRow base e size v n xs)(hn:∀ k,v.ownBlock=some k->¬S k):w'.ownsRow base e size v n xs:=by
 obtain⟨hl,h0|⟨g,cap,ad,hv,hg,hh,r⟩⟩:=ho
 ·exact⟨hl,.inl h0⟩
 ·exact⟨hl,.inr ⟨g,cap,ad,hv,hg,(h.block g (aA hh) (hn g (by rw[hv];rfl))).trans hh,r⟩⟩
theorem Gr.heap{w w':World}{S:Nat->Prop}(h:Gr w w' S){b:Nat}{o:Obj}(ho:w.heap[b]? = some o)(hn:¬S b):w'.heap[b]? = some o:=(h.block b (aA ho) hn).trans ho
theorem Zb{w:World}{b:Nat}{X:List Value}{t:cF}(h:w.heap[b]? = some (dE X.toArray t (0,0)))(j:Nat)(u)(hj:X[j]? = some u):w.cell? ⟨b,j,none⟩=some u:=Vq h j u hj
theorem Zg{w:World}{b:Nat}{X}{t:cF}(h:w.heap[b]? = some (dE X t (0,0)))(j:Nat):w.frozen? ⟨b,j,none⟩=false:=by simp[World.frozen?,h]
theorem kc1{w:World}{b:Nat}{a0 X}{t:cF}(h:w.heap[b]? = some (dE (a0::X).toArray t (0,0))):w.cell? ⟨b,0,none⟩=some a0/\b<w.heap.size:=⟨Zb h 0 _ rfl,aA h⟩
theorem kc2{w:World}{b:Nat}{a0 a1 X}{t:cF}(h:w.heap[b]? = some (dE (a0::a1::X).toArray t (0,0))):w.cell? ⟨b,0,none⟩=some a0/\w.cell? ⟨b,1,none⟩=some a1/\b<w.heap.size:=⟨Zb h 0 _ rfl,Zb h 1 _ rfl,aA h⟩
theorem kc3{w:World}{b:Nat}{a0 a1 a2 X}{t:cF}(h:w.heap[b]? = some (dE (a0::a1::a2::X).toArray t (0,0))):w.cell? ⟨b,0,none⟩=some a0/\w.cell? ⟨b,1,none⟩=some a1/\w.cell? ⟨b,2,none⟩=some a2/\b<w.heap.size:=⟨Zb h 0 _ rfl,Zb h 1 _ rfl,Zb h 2 _ rfl,aA h⟩
theorem kc4{w:World}{b:Nat}{a0 a1 a2 a3 X}{t:cF}(h:w.heap[b]? = some (dE (a0::a1::a2::a3::X).toArray t (0,0))):w.cell? ⟨b,0,none⟩=some a0/\w.cell? ⟨b,1,none⟩=some a1/\w.cell? ⟨b,2,none⟩=some a2/\w.cell? ⟨b,3,none⟩=some a3/\b<w.heap.size:=⟨Zb h 0 _ rfl,Zb h 1 _ rfl,Zb h 2 _ rfl,Zb h 3 _ rfl,aA h⟩
theorem kc5{w:World}{b:Nat}{a0 a1 a2 a3 a4 X}{t:cF}(h:w.heap[b]? = some (dE (a0::a1::a2::a3::a4::X).toArray t (0,0))):w.cell? ⟨b,0,none⟩=some a0/\w.cell? ⟨b,1,none⟩=some a1/\w.cell? ⟨b,2,none⟩=some a2/\w.cell? ⟨b,3,none⟩=some a3/\w.cell? ⟨b,4,none⟩=some a4/\b<w.heap.size:=⟨Zb h 0 _ rfl,Zb h 1 _ rfl,Zb h 2 _ rfl,Zb h 3 _ rfl,Zb h 4 _ rfl,aA h⟩
theorem kc6{w:World}{b:Nat}{a0 a1 a2 a3 a4 a5 X}{t:cF}(h:w.heap[b]? = some (dE (a0::a1::a2::a3::a4::a5::X).toArray t (0,0))):w.cell? ⟨b,0,none⟩=some a0/\w.cell? ⟨b,1,none⟩=some a1/\w.cell? ⟨b,2,none⟩=some a2/\w.cell? ⟨b,3,none⟩=some a3/\w.cell? ⟨b,4,none⟩=some a4/\w.cell? ⟨b,5,none⟩=some a5/\b<w.heap.size:=⟨Zb h 0 _ rfl,Zb h 1 _ rfl,Zb h 2 _ rfl,Zb h 3 _ rfl,Zb h 4 _ rfl,Zb h 5 _ rfl,aA h⟩
theorem kc9{w:World}{b:Nat}{a0 a1 a2 a3 a4 a5 a6 a7 a8 X}{t:cF}(h:w.heap[b]? = some (dE (a0::a1::a2::a3::a4::a5::a6::a7::a8::X).toArray t (0,0))):w.cell? ⟨b,0,none⟩=some a0/\w.cell? ⟨b,1,none⟩=some a1/\w.cell? ⟨b,2,none⟩=some a2/\w.cell? ⟨b,3,none⟩=some a3/\w.cell? ⟨b,4,none⟩=some a4/\w.cell? ⟨b,5,none⟩=some a5/\w.cell? ⟨b,6,none⟩=some a6/\w.cell? ⟨b,7,none⟩=some a7/\w.cell? ⟨b,8,none⟩=some a8/\b<w.heap.size:=⟨Zb h 0 _ rfl,Zb h 1 _ rfl,Zb h 2 _ rfl,Zb h 3 _ rfl,Zb h 4 _ rfl,Zb h 5 _ rfl,Zb h 6 _ rfl,Zb h 7 _ rfl,Zb h 8 _ rfl,aA h⟩
theorem kc12{w:World}{b:Nat}{a0 a1 a2 a3 a4 a5 a6 a7 a8 a9 ac ad X}{t:cF}(h:w.heap[b]? = some (dE (a0::a1::a2::a3::a4::a5::a6::a7::a8::a9::ac::ad::X).toArray t (0,0))):w.cell? ⟨b,0,none⟩=some a0/\w.cell? ⟨b,1,none⟩=some a1/\w.cell? ⟨b,2,none⟩=some a2/\w.cell? ⟨b,3,none⟩=some a3/\w.cell? ⟨b,4,none⟩=some a4/\w.cell? ⟨b,5,none⟩=some a5/\w.cell? ⟨b,6,none⟩=some a6/\w.cell? ⟨b,7,none⟩=some a7/\w.cell? ⟨b,8,none⟩=some a8/\w.cell? ⟨b,9,none⟩=some a9/\w.cell? ⟨b,10,none⟩=some ac/\w.cell? ⟨b,11,none⟩=some ad/\b<w.heap.size:=⟨Zb h 0 _ rfl,Zb h 1 _ rfl,Zb h 2 _ rfl,Zb h 3 _ rfl,Zb h 4 _ rfl,Zb h 5 _ rfl,Zb h 6 _ rfl,Zb h 7 _ rfl,Zb h 8 _ rfl,Zb h 9 _ rfl,Zb h 10 _ rfl,Zb h 11 _ rfl,aA h⟩
theorem kf1{w:World}{b:Nat}{a0 X}{t:cF}(h:w.heap[b]? = some (dE (a0::X).toArray t (0,0))):w.cell? ⟨b,0,none⟩=some a0/\w.frozen? ⟨b,0,none⟩=false/\b<w.heap.size:=⟨Zb h 0 _ rfl,Zg h 0,aA h⟩
theorem kf2{w:World}{b:Nat}{a0 a1 X}{t:cF}(h:w.heap[b]? = some (dE (a0::a1::X).toArray t (0,0))):w.cell? ⟨b,0,none⟩=some a0/\w.cell? ⟨b,1,none⟩=some a1/\w.frozen? ⟨b,0,none⟩=false/\w.frozen? ⟨b,1,none⟩=false/\b<w.heap.size:=⟨Zb h 0 _ rfl,Zb h 1 _ rfl,Zg h 0,Zg h 1,aA h⟩
theorem kf3{w:World}{b:Nat}{a0 a1 a2 X}{t:cF}(h:w.heap[b]? = some (dE (a0::a1::a2::X).toArray t (0,0))):w.cell? ⟨b,0,none⟩=some a0/\w.cell? ⟨b,1,none⟩=some a1/\w.cell? ⟨b,2,none⟩=some a2/\w.frozen? ⟨b,0,none⟩=false/\w.frozen? ⟨b,1,none⟩=false/\w.frozen? ⟨b,2,none⟩=false/\b<w.heap.size:=⟨Zb h 0 _ rfl,Zb h 1 _ rfl,Zb h 2 _ rfl,Zg h 0,Zg h 1,Zg h 2,aA h⟩
theorem kf4{w:World}{b:Nat}{a0 a1 a2 a3 X}{t:cF}(h:w.heap[b]? = some (dE (a0::a1::a2::a3::X).toArray t (0,0))):w.cell? ⟨b,0,none⟩=some a0/\w.cell? ⟨b,1,none⟩=some a1/\w.cell? ⟨b,2,none⟩=some a2/\w.cell? ⟨b,3,none⟩=some a3/\w.frozen? ⟨b,0,none⟩=false/\w.frozen? ⟨b,1,none⟩=false/\w.frozen? ⟨b,2,none⟩=false/\w.frozen? ⟨b,3,none⟩=false/\b<w.heap.size:=⟨Zb h 0 _ rfl,Zb h 1 _ rfl,Zb h 2 _ rfl,Zb h 3 _ rfl,Zg h 0,Zg h 1,Zg h 2,Zg h 3,aA h⟩
theorem kf5{w:World}{b:Nat}{a0 a1 a2 a3 a4 X}{t:cF}(h:w.heap[b]? = some (dE (a0::a1::a2::a3::a4::X).toArray t (0,0))):w.cell? ⟨b,0,none⟩=some a0/\w.cell? ⟨b,1,none⟩=some a1/\w.cell? ⟨b,2,none⟩=some a2/\w.cell? ⟨b,3,none⟩=some a3/\w.cell? ⟨b,4,none⟩=some a4/\w.frozen? ⟨b,0,none⟩=false/\w.frozen? ⟨b,1,none⟩=false/\w.frozen? ⟨b,2,none⟩=false/\w.frozen? ⟨b,3,none⟩=false/\w.frozen? ⟨b,4,none⟩=false/\b<w.heap.size:=⟨Zb h 0 _ rfl,Zb h 1 _ rfl,Zb h 2 _ rfl,Zb h 3 _ rfl,Zb h 4 _ rfl,Zg h 0,Zg h 1,Zg h 2,Zg h 3,Zg h 4,aA h⟩
theorem kf6{w:World}{b:Nat}{a0 a1 a2 a3 a4 a5 X}{t:cF}(h:w.heap[b]? = some (dE (a0::a1::a2::a3::a4::a5::X).toArray t (0,0))):w.cell? ⟨b,0,none⟩=some a0/\w.cell? ⟨b,1,none⟩=some a1/\w.cell? ⟨b,2,none⟩=some a2/\w.cell? ⟨b,3,none⟩=some a3/\w.cell? ⟨b,4,none⟩=some a4/\w.cell? ⟨b,5,none⟩=some a5/\w.frozen? ⟨b,0,none⟩=false/\w.frozen? ⟨b,1,none⟩=false/\w.frozen? ⟨b,2,none⟩=false/\w.frozen? ⟨b,3,none⟩=false/\w.frozen? ⟨b,4,none⟩=false/\w.frozen? ⟨b,5,none⟩=false/\b<w.heap.size:=⟨Zb h 0 _ rfl,Zb h 1 _ rfl,Zb h 2 _ rfl,Zb h 3 _ rfl,Zb h 4 _ rfl,Zb h 5 _ rfl,Zg h 0,Zg h 1,Zg h 2,Zg h 3,Zg h 4,Zg h 5,aA h⟩
theorem kf9{w:World}{b:Nat}{a0 a1 a2 a3 a4 a5 a6 a7 a8 X}{t:cF}(h:w.heap[b]? = some (dE (a0::a1::a2::a3::a4::a5::a6::a7::a8::X).toArray t (0,0))):w.cell? ⟨b,0,none⟩=some a0/\w.cell? ⟨b,1,none⟩=some a1/\w.cell? ⟨b,2,none⟩=some a2/\w.cell? ⟨b,3,none⟩=some a3/\w.cell? ⟨b,4,none⟩=some a4/\w.cell? ⟨b,5,none⟩=some a5/\w.cell? ⟨b,6,none⟩=some a6/\w.cell? ⟨b,7,none⟩=some a7/\w.cell? ⟨b,8,none⟩=some a8/\w.frozen? ⟨b,0,none⟩=false/\w.frozen? ⟨b,1,none⟩=false/\w.frozen? ⟨b,2,none⟩=false/\w.frozen? ⟨b,3,none⟩=false/\w.frozen? ⟨b,4,none⟩=false/\w.frozen? ⟨b,5,none⟩=false/\w.frozen? ⟨b,6,none⟩=false/\w.frozen? ⟨b,7,none⟩=false/\w.frozen? ⟨b,8,none⟩=false/\b<w.heap.size:=⟨Zb h 0 _ rfl,Zb h 1 _ rfl,Zb h 2 _ rfl,Zb h 3 _ rfl,Zb h 4 _ rfl,Zb h 5 _ rfl,Zb h 6 _ rfl,Zb h 7 _ rfl,Zb h 8 _ rfl,Zg h 0,Zg h 1,Zg h 2,Zg h 3,Zg h 4,Zg h 5,Zg h 6,Zg h 7,Zg h 8,aA h⟩
theorem kf12{w:World}{b:Nat}{a0 a1 a2 a3 a4 a5 a6 a7 a8 a9 ac ad X}{t:cF}(h:w.heap[b]? = some (dE (a0::a1::a2::a3::a4::a5::a6::a7::a8::a9::ac::ad::X).toArray t (0,0))):w.cell? ⟨b,0,none⟩=some a0/\w.cell? ⟨b,1,none⟩=some a1/\w.cell? ⟨b,2,none⟩=some a2/\w.cell? ⟨b,3,none⟩=some a3/\w.cell? ⟨b,4,none⟩=some a4/\w.cell? ⟨b,5,none⟩=some a5/\w.cell? ⟨b,6,none⟩=some a6/\w.cell? ⟨b,7,none⟩=some a7/\w.cell? ⟨b,8,none⟩=some a8/\w.cell? ⟨b,9,none⟩=some a9/\w.cell? ⟨b,10,none⟩=some ac/\w.cell? ⟨b,11,none⟩=some ad/\w.frozen? ⟨b,0,none⟩=false/\w.frozen? ⟨b,1,none⟩=false/\w.frozen? ⟨b,2,none⟩=false/\w.frozen? ⟨b,3,none⟩=false/\w.frozen? ⟨b,4,none⟩=false/\w.frozen? ⟨b,5,none⟩=false/\w.frozen? ⟨b,6,none⟩=false/\w.frozen? ⟨b,7,none⟩=false/\w.frozen? ⟨b,8,none⟩=false/\w.frozen? ⟨b,9,none⟩=false/\w.frozen? ⟨b,10,none⟩=false/\w.frozen? ⟨b,11,none⟩=false/\b<w.heap.size:=⟨Zb h 0 _ rfl,Zb h 1 _ rfl,Zb h 2 _ rfl,Zb h 3 _ rfl,Zb h 4 _ rfl,Zb h 5 _ rfl,Zb h 6 _ rfl,Zb h 7 _ rfl,Zb h 8 _ rfl,Zb h 9 _ rfl,Zb h 10 _ rfl,Zb h 11 _ rfl,Zg h 0,Zg h 1,Zg h 2,Zg h 3,Zg h 4,Zg h 5,Zg h 6,Zg h 7,Zg h 8,Zg h 9,Zg h 10,Zg h 11,aA h⟩
structure Pu(w0 w:World)(p:Nat)(v:Value)(K:List CV):Prop where
 bel:ZD w0 w
 ge:w0.heap.size<=p
 box:w.heap[p]? = some (dE #[v] 235 (0,0))
 own:w.ownsRow w0.heap.size 124 6 v K.length (Zn K)
 ne:v.ownBlock≠some p
 lk:∀ x∈K,LkAt w0 x
def PuS(p:Nat)(v:Value):Nat->Prop:=λk=>k=p\/v.ownBlock=some k
theorem Pu.coins{w0 w}{p:Nat}{v}{K:List CV}(h:Pu w0 w p v K):∃ a c,v = F a K.length c/\CoinsAt w a K.length (K.map (·.1))/\SlOk a K.length c:=
 Wy h.own (λx hx=>(h.lk x hx).later h.bel)
theorem Pu.lt{w0 w:World}{p:Nat}{v K}(h:Pu w0 w p v K):p<w.heap.size:=aA h.box
theorem Pu.kept{w0 w w':World}{p:Nat}{v K}(h:Pu w0 w p v K)(hb:ZD w w'):Pu w0 w' p v K:=
 ⟨Zf h.bel (hb.mono h.bel.size |> λq=>⟨q.os,q.tape,q.output,q.size,hb.block⟩),h.ge,(hb.block p h.lt).trans h.box,(Gr.of (S:=λ_=>False) hb).own h.own (λ_ _ q=>q),h.ne,h.lk⟩
theorem Zic(a)(n c:Nat)(L w)(hn:n<=4096)(h:CoinsAt w a n L)(hs:SlOk a n c) :
  Calls aB 145 #[F a n c] w λe w'=>∃ p v,∃ K:List CV,e = dF (dH (some ⟨p,0,none⟩))/\K.map (·.1)=L/\Pu w w' p v K:=by
 have C:=Zd (R6 a n c L w hn h hs);clear h hs;go_enter func145,ntmps145;go_wp2_with fail;refine C.mono ?_;rintro e w2 ⟨v,K,rfl,hK,hl,ho,hb⟩;obtain⟨a',c',rfl,_,_⟩:=Wy ho (λx hx=>(hl x hx).later hb);obtain⟨n',ad⟩:=ZF (K.length);rw[ad] at ho ⊢
 have P:Hid (Pu w (w2.alloc (dE #[F a' n' c'] 235)) w2.heap.size (F a' n' c') K):=by
  refine⟨hb.alloc hb.size _,hb.size,aG w2 _,by rw[ad];exact ho.alloc _,λe=>?_,hl⟩;have:=(ho.lt _ e).2;omega
 have HK:=Zd hK;clear hK hl ho hb ad;go_wp2;go_ret;exact⟨w2.heap.size,_,K,rfl,Za HK,Za P⟩
theorem Nm(x:Zj)(a)(n c:Nat)(p:PtD)(z:Int)(w:World)(hz:Gv (pt x) p=z) :
  ZH 279 #[cnV x a n c,.agg #[E J p.1,E J p.2]] w (E J z):=by
 unfold cnV;have HB:=Zd (Zf (Zh w (dE #[E J x.1,E J x.2.1,E J (cv x),F a n c,E J (ch x),dI (cr x)] 124)) (Zh _ (dE #[E J p.1,E J p.2] 117)));have C:=Zd (λw=>Tm (pt x) p z w hz);unfold pt at C;clear hz;go_enter func279,ntmps279;go_wp2_with fail;refine (C _).mono ?_;rintro e w2 ⟨rfl,aa⟩;have ad:=Zd (Zf HB aa);clear aa;go_wp2;go_ret;exact⟨rfl,Za ad⟩
theorem Zfq{L:List Zj}(h:Srt L)(p:PtD)(i:Nat)(hi:i<=L.length)(h1:∀ t (ht:t<L.length),t<i->lt (pt L[t]) p=true)(h2:∀ t (ht:t<L.length),i<=t->lt (pt L[t]) p=false):pos p L=i:=by
 obtain⟨e1,_⟩:=V8 (p:=p) h;have hl:=Zji p L
 rcases Nat.lt_trichotomy (pos p L) i with q|q|q
 ·have:=h1 (pos p L) (by omega) q;have hm:L[pos p L]'(by omega)∈L.drop (pos p L):=by rw[List.drop_eq_getElem_cons (by omega)];exact List.mem_cons_self ..
  rw[(V8 (p:=p) h).2,List.mem_filter] at hm;rw[this] at hm;exact absurd hm.2 (by decide)
 ·exact q
 ·have:=h2 i (by omega) (aF _)
  have hm:L[i]'(by omega)∈L.take (pos p L):=by
   rw[List.mem_take_iff_getElem];exact⟨i,by omega,rfl⟩
  rw[e1,List.mem_filter,this] at hm;exact absurd hm.2 (by decide)
theorem Ay{L:List Zj}(h:Srt L)(p:PtD)(i j:Nat)(hi:i<L.length)(hj:j<L.length)(ac:i<=j)(hl:lt (pt L[j]) p=true):lt (pt L[i]) p=true:=by
 rcases Nat.lt_or_ge i j with q|q
 ·exact lt_trans (List.pairwise_iff_getElem.1 h i j hi hj q) hl
 ·obtain rfl:i=j:=by omega
  exact hl
theorem Zlt(b off n c:Nat)(L:List Zj)(p:PtD)(k:Nat)(f:Bool)(w:World)(hs:Srt L)(hn:n<=4611686018427387903)(hz:L.length=n)(hc:∀ i (h:i<L.length),CoinAt w b (off+i*6) L[i])
  (hk:pos p L=k) (hf:Wx p L=f) :
  ZH 278 #[F (some ⟨b,off,none⟩) n c,.agg #[E J p.1,E J p.2],.func (.func 279) #[] #[]] w (dG #[E J k,dI f]):=by
 obtain⟨HS,HC,HZ,HK,HF⟩:=kh5 hs hc hz hk hf;clear hs hc hz hk hf;obtain⟨X,hX⟩:=ZG (w.alloc (dE #[E J p.1,E J p.2] 117));obtain⟨n0,n1⟩:=Z4 w (E J p.1) (E J p.2) 117;rw[<-hX] at n0 n1;have bq:ZD w X:=by rw[hX];exact Zh _ _
 obtain⟨am,N0,N1⟩:=kh3 bq n0 n1;clear n0 n1 bq;go_enter func278,ntmps278;go_wp2;rw[<-hX];clear hX
 go_loopw [9,10] (λs9 bi wr=>∃ lo hi:Nat,s9 = E J lo/\bi = E J hi/\lo<=hi/\hi<=n/\Hid ((∀ t (ht:t<L.length),t<lo->lt (pt L[t]) p=true)/\(∀ t (ht:t<L.length),hi<=t->lt (pt L[t]) p=false))/\ZD X wr) (λs9 bi _=>(intOf bi).toNat - (intOf s9).toNat)
 case atStart=>exact⟨0,n,rfl,rfl,Nat.zero_le _,aF _,(⟨λt _ h=>absurd h (by omega),λt ht h=>absurd ht (by rw[Za HZ];omega)⟩:(∀ t (ht:t<L.length),t<0->lt (pt L[t]) p=true)/\(∀ t (ht:t<L.length),n<=t->lt (pt L[t]) p=false)),Below.refl _ _⟩
 case round=>
  obtain⟨lo,hi,rfl,rfl,cj,av,I,hb⟩:=hrel;have HB:=Zd hb;have m0:=Ze hb N0;have m1:=Ze hb N1;have cu:=aE _ _ m0;by_cases cl:lo<hi
  ·obtain⟨m,hm⟩:∃ m:Nat,m=(lo+hi) / 2:=⟨_,rfl⟩;have cm:((lo:Int)+(hi:Int)) / 2=(m:Int):=(by omega);have ce:m<n:=(by omega);have cq:(m:Int)<(n:Int):=(by omega);have bh:m<L.length:=(by rw[Za HZ];exact ce);have av:=CoinAt.kept _ _ _ _ _ (Zf am hb) (HC m bh);have I1:Hid (lt (pt L[m]) p=true->(∀ t (ht:t<L.length),t<m+1->lt (pt L[t]) p=true)/\(∀ t (ht:t<L.length),hi<=t->lt (pt L[t]) p=false)):=λh=>⟨λt ht h2=>Ay HS p t m ht bh (by omega) h,I.2⟩
   have I2:Hid (lt (pt L[m]) p=false->(∀ t (ht:t<L.length),t<lo->lt (pt L[t]) p=true)/\(∀ t (ht:t<L.length),m<=t->lt (pt L[t]) p=false)):=λh=>⟨I.1,λt ht h2=>by
    rw[<-Bool.not_eq_true];intro q;rw[Ay HS p m t bh ht h2 q] at h;exact Bool.noConfusion h⟩
   obtain⟨x,hx⟩:=ZF (L[m]);rw[hx] at av I1 I2;obtain⟨a,l,d,g1,g2,g3,g4,g5,g6,_,_⟩:=av.val;obtain⟨z,hz⟩:=ZF (Gv (pt x) p);have C:=Zd (λw=>Nm x a l d p z w hz);unfold cnV at C;have bd:z<0↔lt (pt x) p=true:=(by rw[<-hz];exact Fu);have cp:lo<=m:=(by omega);have cn:m<hi:=(by omega);have HM:=Zd hm;clear av hx hz I hb hm;by_cases ah:z<0
   ·have be:=Zd (I1 (bd.1 ah));clear I1 I2 bd;go_wp2_with fail
    go_region_held3 (λw'=>ZD wr w'/\w'.cell? ⟨w.heap.size,0,none⟩=some (E J p.1)/\w'.cell? ⟨w.heap.size,1,none⟩=some (E J p.2)/\w'.cell? ⟨b,off+m*6,none⟩=some (E J x.1)/\w'.cell? ⟨b,off+m*6+1,none⟩=some (E J x.2.1)/\w'.cell? ⟨b,off+m*6+2,none⟩=some (E J (cv x))/\w'.cell? ⟨b,off+m*6+3,none⟩=some (F a l d)/\w'.cell? ⟨b,off+m*6+4,none⟩=some (E J (ch x))/\w'.cell? ⟨b,off+m*6+5,none⟩=some (dI (cr x)))
     (first
     | exact⟨Zi _,m0,m1,g1,g2,g3,g4,g5,g6⟩
     | (go_split_ands;refine⟨Zf (by assumption) aa,Ze aa (by assumption),Ze aa (by assumption),Ze aa (by assumption),Ze aa (by assumption),Ze aa (by assumption),Ze aa (by assumption),Ze aa (by assumption),Ze aa (by assumption)⟩))
     (first|(go_at_call 279;refine (C _).mono ?_;rintro e w' ⟨rfl,aa⟩))
    rename_i hH;have HH:=Zd (Zf HB hH.1);clear hH;go_wp2;go_roundw
    case rel=>exact⟨m+1,hi,by go_num,rfl,by omega,by omega,be,Za HH⟩
    case measure=>simp[intOf];omega
   ·have be:=Zd (I2 (by rw[<-Bool.not_eq_true];intro q;exact ah (bd.2 q)));clear I1 I2 bd;go_wp2_with fail
    go_region_held3 (λw'=>ZD wr w'/\w'.cell? ⟨w.heap.size,0,none⟩=some (E J p.1)/\w'.cell? ⟨w.heap.size,1,none⟩=some (E J p.2)/\w'.cell? ⟨b,off+m*6,none⟩=some (E J x.1)/\w'.cell? ⟨b,off+m*6+1,none⟩=some (E J x.2.1)/\w'.cell? ⟨b,off+m*6+2,none⟩=some (E J (cv x))/\w'.cell? ⟨b,off+m*6+3,none⟩=some (F a l d)/\w'.cell? ⟨b,off+m*6+4,none⟩=some (E J (ch x))/\w'.cell? ⟨b,off+m*6+5,none⟩=some (dI (cr x)))
     (first
     | exact⟨Zi _,m0,m1,g1,g2,g3,g4,g5,g6⟩
     | (go_split_ands;refine⟨Zf (by assumption) aa,Ze aa (by assumption),Ze aa (by assumption),Ze aa (by assumption),Ze aa (by assumption),Ze aa (by assumption),Ze aa (by assumption),Ze aa (by assumption),Ze aa (by assumption)⟩))
     (first|(go_at_call 279;refine (C _).mono ?_;rintro e w' ⟨rfl,aa⟩))
    rename_i hH;have HH:=Zd (Zf HB hH.1);clear hH;go_wp2;go_roundw
    case rel=>exact⟨lo,m,rfl,by go_num,by omega,by omega,be,Za HH⟩
    case measure=>simp[intOf];omega
  ·have e:lo=hi:=(by omega);subst e;have ek:k=lo:=(by rw[<-Za HK];exact Zfq HS p lo (by rw[Za HZ];exact av) (λt ht h=>I.1 t ht h) (λt ht h=>I.2 t ht h));subst ek;have hf:=Cu (p:=p) HS;rw[Za HF,Za HK,Za HZ] at hf;by_cases bg:k<n
   ·have bt:k<L.length:=(by rw[Za HZ];exact bg);have cd:(k:Int)<(n:Int):=(by omega);have bf:=CoinAt.kept _ _ _ _ _ (Zf am hb) (HC k bt);rw[aZ bt,Option.map_some] at hf;obtain⟨x,hx⟩:=ZF (L[k]);rw[hx] at bf hf;obtain⟨a,l,d,g1,g2,g3,g4,g5,g6,_,_⟩:=bf.val;obtain⟨z,hz⟩:=ZF (Gv (pt x) p);have C:=Zd (λw=>Nm x a l d p z w hz);unfold cnV at C;have hg:decide ((k:Int)<(n:Int))=true:=decide_eq_true cd
    have bb:Hid (f=decide (z=0)):=by
     show _=_;rw[hf,decide_eq_true bg,Bool.true_and,<-hz];exact decide_eq_decide.2 (by rw[bJ,Zov])
    clear bf hx hz hf hb I;by_cases ah:z=0
    ·subst ah;have aj:Hid (f=true):=(by show _=_;rw[Za bb];rfl);clear bb;go_wp2_with fail
     go_region_held3 (λw'=>ZD wr w'/\w'.cell? ⟨w.heap.size,0,none⟩=some (E J p.1)/\w'.cell? ⟨w.heap.size,1,none⟩=some (E J p.2)/\w'.cell? ⟨b,off+k*6,none⟩=some (E J x.1)/\w'.cell? ⟨b,off+k*6+1,none⟩=some (E J x.2.1)/\w'.cell? ⟨b,off+k*6+2,none⟩=some (E J (cv x))/\w'.cell? ⟨b,off+k*6+3,none⟩=some (F a l d)/\w'.cell? ⟨b,off+k*6+4,none⟩=some (E J (ch x))/\w'.cell? ⟨b,off+k*6+5,none⟩=some (dI (cr x)))
      (first
      | exact⟨Zi _,m0,m1,g1,g2,g3,g4,g5,g6⟩
      | (go_split_ands;refine⟨Zf (by assumption) aa,Ze aa (by assumption),Ze aa (by assumption),Ze aa (by assumption),Ze aa (by assumption),Ze aa (by assumption),Ze aa (by assumption),Ze aa (by assumption),Ze aa (by assumption)⟩))
      (first|(go_at_call 279;refine (C _).mono ?_;rintro e w' ⟨rfl,aa⟩))
     rename_i hH;have HH:=Zd (Zf HB hH.1);clear hH;go_wp2;go_ret2;exact⟨by rw[Za aj];rfl,Zf am HH⟩
    ·have aj:Hid (f=false):=(by show _=_;rw[Za bb];exact decide_eq_false ah);have gz:(z == 0)=false:=(by simp[ah]);clear bb;go_wp2_with fail
     go_region_held3 (λw'=>ZD wr w'/\w'.cell? ⟨w.heap.size,0,none⟩=some (E J p.1)/\w'.cell? ⟨w.heap.size,1,none⟩=some (E J p.2)/\w'.cell? ⟨b,off+k*6,none⟩=some (E J x.1)/\w'.cell? ⟨b,off+k*6+1,none⟩=some (E J x.2.1)/\w'.cell? ⟨b,off+k*6+2,none⟩=some (E J (cv x))/\w'.cell? ⟨b,off+k*6+3,none⟩=some (F a l d)/\w'.cell? ⟨b,off+k*6+4,none⟩=some (E J (ch x))/\w'.cell? ⟨b,off+k*6+5,none⟩=some (dI (cr x)))
      (first
      | exact⟨Zi _,m0,m1,g1,g2,g3,g4,g5,g6⟩
      | (go_split_ands;refine⟨Zf (by assumption) aa,Ze aa (by assumption),Ze aa (by assumption),Ze aa (by assumption),Ze aa (by assumption),Ze aa (by assumption),Ze aa (by assumption),Ze aa (by assumption),Ze aa (by assumption)⟩))
      (first|(go_at_call 279;refine (C _).mono ?_;rintro e w' ⟨rfl,aa⟩))
     rename_i hH;have HH:=Zd (Zf HB hH.1);clear hH;go_wp2;go_ret2;exact⟨by rw[Za aj];rfl,Zf am HH⟩
   ·have aj:Hid (f=false):=(by show _=_;rw[hf,decide_eq_false bg,Bool.false_and]);have hg:decide ((k:Int)<(n:Int))=false:=decide_eq_false (by omega);clear hf hb I;go_wp2_with fail
    go_quiet (fail)
    go_wp2;go_ret2;exact⟨by rw[Za aj];rfl,Zf am (Zf HB (Ai _ _))⟩
theorem Zlu(a c)(p:PtD)(v)(w:World) :
  ZH 278 #[F a 0 c,.agg #[E J p.1,E J p.2],v] w (dG #[E J 0,dI false]):=by
 have HB:=Zd (Zh w (dE #[E J p.1,E J p.2] 117));go_enter func278,ntmps278;go_wp2;refine wp_loop_rounds 1 ?_;rw[rounds_succ];go_wp2_with fail
 go_quiet (fail)
 go_wp2;go_ret2;exact⟨rfl,Zf HB (Ai _ _)⟩
theorem Zoz(a)(n c:Nat)(L)(p:PtD)(k:Nat)(f:Bool)(w:World)(hs:Srt L)(hn:n<=4611686018427387903)(h:CoinsAt w a n L)(hk:pos p L=k)(hf:Wx p L=f) :
  ZH 278 #[F a n c,.agg #[E J p.1,E J p.2],.func (.func 279) #[] #[]] w (dG #[E J k,dI f]):=by
 obtain⟨hl,hc⟩:=h;by_cases h2:n=0
 ·subst h2;have e:L=[]:=aL.1 hl;subst e;subst hk hf;exact Zlu a c p _ w
 ·obtain⟨b,off,rfl,_,ae⟩:=hc (by omega);exact Zlt b off n c L p k f w hs hn hl ae hk hf
theorem Ra(a)(n c:Nat)(L)(p:PtD)(k:Nat)(f:Bool)(w:World)(hs:Srt L)(hn:n<=4611686018427387903)(h:CoinsAt w a n L)(hk:pos p L=k)(hf:Wx p L=f) :
  ZH 250 #[F a n c,.agg #[E J p.1,E J p.2]] w (dG #[E J k,dI f]):=by
 have hb:=Zh w (dE #[E J p.1,E J p.2] 117);obtain⟨HB,C⟩:=kh2 hb (Zoz a n c L p k f _ hs hn (h.later hb) hk hf);clear hs h hk hf hb;go_enter func250,ntmps250;go_wp2_with fail;refine C.mono ?_;rintro e w2 ⟨rfl,ab⟩;have ag:=Zd (Zf HB ab);clear ab;go_wp2;go_ret2;exact⟨rfl,Za ag⟩
theorem Zo{fn:Func}{p u:Tmp}{ty:cF}(h:fn.results=#[.cell p ty,.tmp u])(tmps:Array Value)(P:Program)(w) :
  (results fn tmps).run P w =
   ((asAddr (tmps.getD p undef)).run P w).andThen λa w₁=>((loadVar ty a).run P w₁).andThen λx w₂=>.ok (dG #[x,tmps.getD u undef]) w₂:=by
 simp only[results,h];simp[Sem.run_bind,Result.andThen]
theorem Zaw(w0 w:World)(p:Nat)(v)(K:List CV)(q:PtD)(h:Pu w0 w p v K)(hs:Srt (K.map (·.1)))(hn:K.length<=4096)(hf:Wx q (K.map (·.1))=false) :
  ZH 205 #[dH (some ⟨p,0,none⟩),.agg #[E J q.1,E J q.2]] w (dG #[zeroC,dI false]):=by
 obtain⟨a,c,rfl,hC,hS⟩:=h.coins;obtain⟨n,an⟩:=ZF (K.length);obtain⟨k,hk⟩:=ZF (pos q (K.map (·.1)));have ag:=h.box;rw[an] at hC ag hn;obtain⟨X,hX⟩:=ZG ((w.alloc (dE #[E J q.1,E J q.2] 117)).alloc (dE #[E J 0,E J 0,E J 0,F none 0 0,E J 0,dI false] 124));have ac:ZD w X:=by rw[hX];exact Zf (Zh _ _) (Zh _ _)
 have aj:X.heap[w.heap.size+1]? = some (dE zeroCs.toArray 124 (0,0)):=by
  rw[hX];have:=aG (w.alloc (dE #[E J q.1,E J q.2] 117)) (dE zeroCs.toArray 124);rw[show (w.alloc (dE #[E J q.1,E J q.2] 117)).heap.size=w.heap.size+1 by simp] at this;exact this
 have x0:X.cell? ⟨w.heap.size,0,none⟩=some (E J q.1):=by rw[hX];exact Ze (Zh _ _) (Z4 w _ _ _).1
 have x1:X.cell? ⟨w.heap.size,1,none⟩=some (E J q.2):=by rw[hX];exact Ze (Zh _ _) (Z4 w _ _ _).2
 have xp:X.cell? ⟨p,0,none⟩=some (F a n c):=Ze ac (Zb (X:=[F a n c]) ag 0 _ rfl);have PL:=Zd (λw' (hb:ZD X w')=>Ra a n c (K.map (·.1)) q k false w' hs (by omega) ((hC.later ac).later hb) hk hf);obtain⟨ar,ah⟩:=kh2 ac aj;clear hk hf hC hS hs ag ac aj h an;go_enter func205,ntmps205;go_wp2_with fail;rw[<-hX];clear hX
 go_region_held3 (λw'=>ZD X w'/\w'.cell? ⟨w.heap.size,0,none⟩=some (E J q.1)/\w'.cell? ⟨w.heap.size,1,none⟩=some (E J q.2)/\w'.cell? ⟨p,0,none⟩=some (F a n c))
  (first
  | exact⟨Zi _,x0,x1,xp⟩
  | (go_split_ands;refine⟨Zf (by assumption) ad,Ze ad (by assumption),Ze ad (by assumption),Ze ad (by assumption)⟩))
  (first|(go_at_call 250;go_split_ands;refine (PL _ (by assumption)).mono ?_;rintro e w' ⟨rfl,ad⟩))
 rename_i hH;have hh:=(hH.1.block _ (aA ah)).trans ah;have HB:=Zd (Zf ar hH.1);have f0:=Zg hh 0;have f1:=Zg hh 1;have f2:=Zg hh 2;have f3:=Zg hh 3;have f4:=Zg hh 4;have f5:=Zg hh 5;have c0:=Zb hh 0 _ rfl;have c1:=Zb hh 1 _ rfl;have c2:=Zb hh 2 _ rfl;have c3:=Zb hh 3 _ rfl;have c4:=Zb hh 4 _ rfl;have c5:=Zb hh 5 _ rfl;clear hh hH;go_wp2;(try simp only[Exit.inBlock,Exit.then]);refine bB (v:=dG #[zeroC,dI false]) ?_ rfl ⟨rfl,?_⟩
 ·rw[Zo rfl];unfold zeroC;go_simp
 ·exact (((((HB.setCell (dC _) _).setCell (dC _) _).setCell (dC _) _).setCell (dC _) _).setCell (dC _) _).setCell (dC _) _
theorem Vk{w:World}{p:Nat}{v u}{t:cF}(h:w.heap[p]? = some (dE #[v] t (0,0))):(w.setCell ⟨p,0,none⟩ u).heap[p]? = some (dE #[u] t (0,0)):=by
 rw[setCell_eq_setRow w p 0 #[v] t (0,0) u h];exact setRow_heap w p _ _ t _ h
theorem Znz(K:List CV)(k:Nat)(h:k<K.length):(K.map (·.1))[k]'(by simpa using h)=K[k].1:=by simp
theorem Uf(w:World)(a b c d e f)(t:cF):(w.alloc (dE #[a,b,c,d,e,f] t)).heap[w.heap.size]? = some (dE [a,b,c,d,e,f].toArray t (0,0)):=aG w _
theorem Zav(w0 w)(p:Nat)(v:Value)(K:List CV)(q:PtD)(h:Pu w0 w p v K)(hs:Srt (K.map (·.1)))(hn:K.length<=4096)(hf:Wx q (K.map (·.1))=true) :
  Calls aB 205 #[dH (some ⟨p,0,none⟩),.agg #[E J q.1,E J q.2]] w λe w'=>∃ (x:CV) (v':Value) (K':List CV),e = dF (dG #[cnV x.1 x.2.1 x.2.2.1 x.2.2.2,dI true])/\Uc q (K.map (·.1))=some (x.1,K'.map (·.1))/\x∈K/\(∀ y∈K',y∈K)/\K'.length+1=K.length /\
   Pu w0 w' p v' K'/\Gr w w' (PuS p v)/\v'.ownBlock=v.ownBlock:=by
 have hO:=h.own;obtain⟨k,hk⟩:=ZF (pos q (K.map (·.1)));have hp:=Cu (p:=q) hs;rw[hf,hk] at hp;have ce:=Eq.symm hp;rw[Bool.and_eq_true,decide_eq_true_eq,decide_eq_true_eq,List.length_map] at ce;obtain⟨ad,bo⟩:=ce
 have cc:pt ((K.map (·.1))[k]'(by simpa using ad))=q:=by
  rw[aZ (by simpa using ad),Option.map_some,bJ] at bo;exact bo
 have hT:=Zij (p:=q) hs (by rw[hk];simpa using ad) (by simp only[hk];exact cc);simp only[hk] at hT;rw[Znz K k ad,<-List.map_take,<-List.map_drop,<-List.map_append] at hT;obtain⟨a,c,rfl,hC,hS⟩:=h.coins
 obtain⟨g,rfl⟩:∃ g,a=some ⟨g,0,none⟩:=by
  rcases hO.2 with ⟨_,e⟩|⟨g,_,_,e,_⟩
  ·omega
  ·simp only[Value.slice.injEq] at e;exact⟨g,e.1⟩
 obtain⟨n,bq⟩:=ZF (K.length);have av:=h.box;have bj:g≠p:=λe=>h.ne (by rw[e];rfl);have dq:w0.heap.size<=g:=Xn hO g rfl;obtain⟨x,hx⟩:=ZF (K[k]);have cf:x∈K:=by rw[<-hx];exact List.getElem_mem ad
 obtain⟨f0,f1,f2,f3,f4,f5⟩:=Sj K k ad;rw[hx] at f0 f1 f2 f3 f4 f5 hT;rw[bq] at hC av hn ad hO;have cg:∀ j u,j<n*6->(Zn K)[j]? = some u->w.cell? ⟨g,j,none⟩=some u:=λj u hj hu=>by rw[World.ownsRow.cellAt hO j hj];exact hu
 obtain⟨X,hX⟩:=ZG ((w.alloc (dE #[E J q.1,E J q.2] 117)).alloc (dE #[E J 0,E J 0,E J 0,F none 0 0,E J 0,dI false] 124));have au:ZD w X:=by rw[hX];exact Zf (Zh _ _) (Zh _ _)
 have cb:X.heap[w.heap.size+1]? = some (dE zeroCs.toArray 124 (0,0)):=by
  rw[hX];have:=aG (w.alloc (dE #[E J q.1,E J q.2] 117)) (dE zeroCs.toArray 124);rw[show (w.alloc (dE #[E J q.1,E J q.2] 117)).heap.size=w.heap.size+1 by simp] at this;exact this
 have x0:X.cell? ⟨w.heap.size,0,none⟩=some (E J q.1):=by rw[hX];exact Ze (Zh _ _) (Z4 w _ _ _).1
 have x1:X.cell? ⟨w.heap.size,1,none⟩=some (E J q.2):=by rw[hX];exact Ze (Zh _ _) (Z4 w _ _ _).2
 have xp:X.cell? ⟨p,0,none⟩=some (F (some ⟨g,0,none⟩) n c):=Ze au (Zb (X:=[F (some ⟨g,0,none⟩) n c]) av 0 _ rfl);have PL:=Zd (λw' (hb:ZD X w')=>Ra (some ⟨g,0,none⟩) n c (K.map (·.1)) q k true w' hs (by omega) ((hC.later au).later hb) hk hf);obtain⟨D0,D1,D2,D3,D4,D5,cz,bx⟩:=kh8 (cg _ _ (by omega) f0) (cg _ _ (by omega) f1) (cg _ _ (by omega) f2) (cg _ _ (by omega) f3) (cg _ _ (by omega) f4) (cg _ _ (by omega) f5) au cb;obtain⟨HO,HT,HP,cy,df⟩:=kh5 hO hT h av cf;have ay:=Zd bq;have du:p<w.heap.size:=h.lt;have ec:g<w.heap.size:=(hO.lt g rfl).2;clear hk hf hC hS hs av au cb h hO hT bo cc hp f0 f1 f2 f3 f4 f5 cg hx cf bq;go_enter func205,ntmps205;go_wp2_with fail;rw[<-hX];clear hX
 go_region_held3 (λw'=>ZD X w'/\w'.cell? ⟨w.heap.size,0,none⟩=some (E J q.1)/\w'.cell? ⟨w.heap.size,1,none⟩=some (E J q.2)/\w'.cell? ⟨p,0,none⟩=some (F (some ⟨g,0,none⟩) n c))
  (first
  | exact⟨Zi _,x0,x1,xp⟩
  | (go_split_ands;refine⟨Zf (by assumption) am,Ze am (by assumption),Ze am (by assumption),Ze am (by assumption)⟩))
  (first|(go_at_call 250;go_split_ands;refine (PL _ (by assumption)).mono ?_;rintro e w' ⟨rfl,am⟩))
 rename_i hH;have ac:=Zf cz hH.1;have bk:=(hH.1.block _ (aA bx)).trans bx;have d0:=Ze ac D0;have d1:=Ze ac D1;have d2:=Ze ac D2;have d3:=Ze ac D3;have d4:=Ze ac D4;have d5:=Ze ac D5;have br:=hH.2.2.2;have eg:=aE _ _ br;have ed:(k:Int)<(n:Int):=by omega
 have ej:IntKind.i64.wrap ((k:Int)+1)=(k:Int)+1:=by rw[bR];omega
 obtain⟨Y,hY⟩:=ZG (w'.alloc (dE #[E J x.1.1,E J x.1.2.1,E J (cv x.1),.slice x.2.1 x.2.2.1 x.2.2.2,E J (ch x.1),dI (cr x.1)] 124));have ak:ZD w' Y:=by rw[hY];exact Zh _ _
 have hy:Y.heap[w'.heap.size]? = some (dE [E J x.1.1,E J x.1.2.1,E J (cv x.1),.slice x.2.1 x.2.2.1 x.2.2.2,E J (ch x.1),dI (cr x.1)].toArray 124 (0,0)):=by rw[hY];exact Uf _ _ _ _ _ _ _ _
 have ca:Y.ownsRow w0.heap.size 124 6 (F (some ⟨g,0,none⟩) n c) n (Zn K):=(Gr.of (S:=λ_=>False) (Zf ac ak)).own HO (λ_ _ q=>q);have ax:=Mm w0.heap.size g n c k (k+1) K Y ad rfl ay ca;rw[show ((k+1:Nat):Int)=(k:Int)+1 by omega] at ax;have da:=Zd ax;have yp:=Ze ak br;have eh:=aE _ _ yp;obtain⟨bt,bu,bz⟩:=kh3 (Zf ac ak) (ZE ak bk) hy;have ei:w.heap.size+1<w'.heap.size:=aA bk;clear hH am ac bk xp x0 x1 ak hy ca ax;go_wp2_with fail;rw[<-hY];clear hY;go_wp2_with fail;refine da.mono ?_;rintro e w4 ⟨rfl,cd,an⟩;have ap:=(an.block p (by omega) (by simp;exact λe=>bj e.symm)).trans ((bt.block p du).trans cy);have ab:=(an.block (w.heap.size+1) (aA bu) (by simp;omega)).trans bu;have ae:=(an.block w'.heap.size (aA bz) (by simp;omega)).trans bz;have p4:=Zb (X:=[F (some ⟨g,0,none⟩) n c]) ap 0 _ rfl;have ep:=Zg ap 0;have e0:=Zb ae 0 _ rfl;have e1:=Zb ae 1 _ rfl;have e2:=Zb ae 2 _ rfl;have e3:=Zb ae 3 _ rfl;have e4:=Zb ae 4 _ rfl;have e5:=Zb ae 5 _ rfl;have z0:=Zb ab 0 _ rfl;have z1:=Zb ab 1 _ rfl;have z2:=Zb ab 2 _ rfl;have z3:=Zb ab 3 _ rfl;have z4:=Zb ab 4 _ rfl;have z5:=Zb ab 5 _ rfl;have y0:=Zg ab 0;have y1:=Zg ab 1;have y2:=Zg ab 2;have y3:=Zg ab 3;have y4:=Zg ab 4;have y5:=Zg ab 5;have n1:¬(w'.heap.size=p):=by omega
 have n2:¬(p=w'.heap.size):=by omega
 have n3:¬(w.heap.size+1=p):=by omega
 have n4:¬(p=w.heap.size+1):=by omega
 have n5:¬(w'.heap.size=w.heap.size+1):=by omega
 have n6:¬(w.heap.size+1=w'.heap.size):=by omega
 have GA:Hid (Gr w w4 (PuS p (F (some ⟨g,0,none⟩) n c))):=(Gr.of bt).grown an (λk hk=>.inl (.inr hk))
 have GS:Hid (∀ k,PuS p (F (some ⟨g,0,none⟩) n c) k->w0.heap.size<=k):=λk hk=>by
  rcases hk with rfl|hk
  ·exact HP.ge
  ·cases hk;exact dq
 have GO:Hid (∀ k,(bO (some ⟨g,0,none⟩) (n - 1) c).ownBlock=some k->¬(k=p\/k=w.heap.size+1)):=λk hk=>by
  cases hk;rintro (e|e)
  ·exact bj e
  ·have e2:g=w.heap.size+1:=e;omega
 obtain⟨dc,dd⟩:=kh2 cd ap;have ee:=aA ae;have ef:p<w4.heap.size:=aA ap;clear an cd ap ab ae d0 d1 d2 d3 d4 d5 yp br;go_wp2;(try simp only[Exit.inBlock,Exit.then]);refine bB (v:=dG #[cnV x.1 x.2.1 x.2.2.1 x.2.2.2,dI true]) ?_ rfl ⟨x,F (some ⟨g,0,none⟩) (n - 1) c,K.take k++K.drop (k+1),rfl,Za HT,Za df,?_,?_,?_,?_,rfl⟩
 ·rw[Zo rfl];unfold cnV;go_simp
 ·exact λy hy=>(bL.1 hy).elim List.mem_of_mem_take List.mem_of_mem_drop
 ·have:=Za ay;simp only[cJ,bI,List.length_drop];omega
 ·have hl:(K.take k++K.drop (k+1)).length=n - 1:=by
   have:=Za ay;simp only[cJ,bI,List.length_drop];omega
  have hp:=Za HP;refine⟨?_,hp.ge,?_,?_,λe=>bj (by cases e;rfl),λy hy=>hp.lk y ((bL.1 hy).elim List.mem_of_mem_take List.mem_of_mem_drop)⟩
  ·exact ((GA.one p 0 (.inl (.inl rfl)) _).six (w.heap.size+1) (.inr (dC _)) _ _ _ _ _ _).below hp.bel hp.bel.size GS
  ·exact ((Gr.refl _ (λk=>k=w.heap.size+1)).six (w.heap.size+1) (.inl rfl) _ _ _ _ _ _).heap (Vk dd) n4
  ·rw[hl];exact (((Gr.refl w4 (λk=>k=p\/k=w.heap.size+1)).one p 0 (.inl (.inl rfl)) _).six (w.heap.size+1) (.inl (.inr rfl)) _ _ _ _ _ _).own dc GO
 ·exact (GA.one p 0 (.inl (.inl rfl)) _).six (w.heap.size+1) (.inr (dC _)) _ _ _ _ _ _
