import Derived.Test.YtmomfkikogbdeaaGreatDoorH
import Derived.Test.YtmomfkikogbdeaaGreatDoorG3
open Go.Proofs.Tryz
open Go renaming maxLen->cH,TypeId->bO,heap_alloc_new->aJ,bodyPost_ret->aW
open Go.Addr renaming add_lit->bX
open Go.Ending renaming returned->cS
open Go.IntKind renaming wrap_i64->bI,i64->J
open Go.Obj renaming cells->cR
open Go.Proofs.Tryz renaming prog->aA,underlying29->cA
open Go.Value renaming slice->aY,int->E,slice->F,tuple->cT,pointer->cU,bool->cV
open Go.Value.slice renaming injEq->cO
open Go.World renaming cell?->bD,block_lt_of_cell?->aD
open List renaming append_assoc->cQ,take_append_of_le_length->bU,take_of_length_le->aN,length_append->bH,length_eq_zero_iff->aG,getElem?_eq_some_iff->bZ,length_take->bJ,getElem?_eq_getElem->cM
open Nat renaming le_refl->aF,le_trans->aT,lt_of_lt_of_le->aC
open Option.some renaming injEq->bG
set_option maxHeartbeats 6400000
set_option maxRecDepth 10000
namespace Go.Proofs.YtmomfkikogbdeaaGreatDoor
open Go.RowKit
theorem Tryz.zeroCoin(w):(zeroValue 124).run aA w = .ok zeroC w:=by
 obtain⟨Q,hi,z,_,_⟩:=info_parts Tryz.infoCoin;simp[zeroValue,typeInfo,hi,z]
def zeroCs:List Value:=[E J 0,E J 0,E J 0,F none 0 0,E J 0,cV false]
theorem Zeu:(Builtin.zeroCells zeroC.cells 1).toList=zeroCs:=by kernel_rfl
theorem Bo:∀ v∈zeroCs,v.oneCell'=true:=by
 intro v z;simp only[zeroCs,List.mem_cons,List.not_mem_nil,or_false] at z
 rcases z with rfl|rfl|rfl|rfl|rfl|rfl <;> rfl
theorem Zhw(X Z:List Value)(i n:Nat)(hi:i<n)(Q:n*6<=X.length) :
  (laid (laid X (i*6) ((X.take (n*6)).drop ((i+1)*6))) ((n - 1)*6) Z).take ((n - 1)*6)=(X.take (n*6)).take (i*6)++(X.take (n*6)).drop ((i+1)*6):=by
 have z:((X.take (n*6)).drop ((i+1)*6)).length=(n - 1)*6 - i*6:=by simp;omega
 unfold laid;rw[cQ,bU (by simp;omega),aN (by simp;omega)];rw[z,show i*6+((n - 1)*6 - i*6)=(n - 1)*6 by omega,bU (by rw[bH,z];simp;omega),aN (by rw[bH,z];simp;omega),List.take_take,Nat.min_eq_left (by omega)]
theorem Ln(base g n c i j:Nat)(K:List CV)(w:World)(hi:i<n)(hj:j=i+1)(hz:K.length=n)(h:w.ownsRow base 124 6 (F (some ⟨g,0,none⟩) n c) n (Zm K)) :
  Calls aA 251 #[F (some ⟨g,0,none⟩) n c,E J i,E J j] w λe w'=>e = cS (F (some ⟨g,0,none⟩) (n - 1) c)/\w'.ownsRow base 124 6 (F (some ⟨g,0,none⟩) (n - 1) c) (n - 1) (Zm (K.take i++K.drop (i+1)))/\w.grownBy w' (some g):=by
 obtain⟨i0,bb,cc,bg,cd⟩:=info_parts Tryz.infoCoin;obtain⟨bd,h|⟨g',c',z,hv,az,hh,h1,h2,h3,h4⟩⟩:=h
 ·cases h.1
 simp only[cO,bG,Addr.mk.injEq,and_true,true_and] at hv;obtain⟨rfl,rfl⟩:=hv;unfold cH at h2;have ah:z.toList.length=c*6:=by simpa using h3
 obtain⟨Q,ac⟩:=ZG ((z.toList.take (n*6)).drop ((i+1)*6));have ad:Q.length=(n - j)*6:=by rw[ac];simp;omega
 have ap:∀ u∈Q,u.oneCell'=true:=λu hu=>by
  rw[ac,h4] at hu;exact Xr K u (List.mem_of_mem_drop hu)
 obtain⟨A,hA,be⟩:∃ A:Addr,(if c=j then some (⟨g,0,none⟩:Addr) else some ⟨g,j*6,none⟩)=some A/\Hid (∀ t u,Q[t]? = some u->w.drew.cell? (A.add t)=some u):=by
  by_cases hc:c=j
  ·refine⟨⟨g,0,none⟩,by simp[hc],λt u hu=>?_⟩;have h0:Q.length=0:=(by rw[ad];omega);rw[aG.1 h0] at hu;simp at hu
  ·refine⟨⟨g,j*6,none⟩,by simp[hc],λt u hu=>?_⟩;have ht:t<(n - j)*6:=(by rw[<-ad];exact (bZ.1 hu).1);rw[ac,List.getElem?_drop,List.getElem?_take_of_lt (by omega)] at hu;rw[bX];show w.cell? _=_;simp only[bD,hh];rw[<-hu,<-hj];simp
 have h5:i*6+Q.length<=z.size:=by rw[ad,h3];omega
 obtain⟨W1,ae⟩:=ZG (w.drew.setRow g (laid z.toList (i*6) Q).toArray);have aj:W1.heap[g]? = some (cR (laid z.toList (i*6) Q).toArray 124 (0,0)):=by rw[ae];exact setRow_heap w.drew g z _ 124 (0,0) hh
 have ag:(laid z.toList (i*6) Q).length=c*6:=by rw[Wo _ _ _ (by simpa using h5),ah]
 have al:∀ ty d,(Builtin.clear_ #[29] ty #[F (some ⟨g,(n - 1)*6,none⟩) 1 d]).run aA W1 = .ok (cT #[]) (W1.setRow g (laid (laid z.toList (i*6) Q) ((n - 1)*6) zeroCs).toArray):=λty d=>by
  have:=Jf (P:=aA) W1 29 124 ty zeroC cA Tryz.zeroCoin g ((n - 1)*6) 1 d 6 (laid z.toList (i*6) Q).toArray 124 zeroCs (by decide) Zeu aj rfl (by simp[ag];omega) Bo;simpa using this
 have ca:i+(n - j)=n - 1:=by omega
 have R:Hid (W1.setRow g (laid (laid z.toList (i*6) Q) ((n - 1)*6) zeroCs).toArray |>.ownsRow base 124 6 (F (some ⟨g,0,none⟩) (n - 1) c) (n - 1) (Zm (K.take i++K.drop (i+1)))):=by
  refine⟨by rw[Z6];simp;omega,.inr ⟨g,c,(laid (laid z.toList (i*6) Q) ((n - 1)*6) zeroCs).toArray,rfl,az,setRow_heap _ g _ _ 124 (0,0) aj,by omega,by unfold cH;omega,?_,?_⟩⟩
  ·rw[List.size_toArray,Wo _ _ _ (by rw[ag];simp[zeroCs];omega),ag]
  ·rw[ac];show List.take _ (laid _ _ _)=_;rw[Zhw z.toList zeroCs i n hi (by rw[ah];omega),h4,Yh,Ui,Uj]
 have G:Hid (w.grownBy (W1.setRow g (laid (laid z.toList (i*6) Q) ((n - 1)*6) zeroCs).toArray) (some g)):=by
  have e:W1.setRow g (laid (laid z.toList (i*6) Q) ((n - 1)*6) zeroCs).toArray=w.drew.setRow g (laid (laid z.toList (i*6) Q) ((n - 1)*6) zeroCs).toArray:=by rw[ae,setRow_setRow]
  rw[e];refine⟨rfl,rfl,rfl,by simp[World.setRow],λk hk an=>?_⟩;exact setRow_other w.drew g k _ (λe=>an (by rw[e]))
 have ar:=Zd al;have HW:=Zd ae;have av:=Zd ap;have aw:=Zd ad;have ax:=Zd hh;have ay:=Zd h5;have bq:i<=c:=by omega
 have bt:j<=c:=by omega
 have bu:j<=n:=by omega
 have br:¬(i=j):=by omega
 have an:¬(c=i+(n - j)):=by omega
 have bx:i+(n - j)<=n:=by omega
 have bz:(i:Int)+((n - j:Nat):Int)<=(n:Int):=by omega
 have bs:((i:Int) == (j:Int))=false:=by simp;omega
 clear al ae ap ad hh h5 aj ag ac h3 h4 bd ah hj hz;go_enter func251,ntmps251;go_wp2_with fail
 go_region_law (refine Ub rfl (.tmp 22) (.tmp 25) 29 rfl 124 i0 6 cA bb bg g i c (by simp[Act.eval,Act.put]) A (n - j) (c - j) Q (by simp[Act.eval,Act.put]) aw be av (by omega) z 124 ax ay ?_;rw[<-Za HW])
 have bo:∀ ty d,(Builtin.clear_ #[29] ty #[F (some ⟨g,(n - 1)*6,none⟩) (n - (n - 1)) d]).run aA W1 = .ok (cT #[]) (W1.setRow g (laid (laid z.toList (i*6) Q) ((n - 1)*6) zeroCs).toArray):=λty d=>by
  rw[show n - (n - 1)=1 by omega];exact ar ty d
 go_wp2;go_ret;exact⟨rfl,Za R,Za G⟩
theorem Z4(y:CV):(Zm [y]).length=6:=Z6 [y]
theorem Vi{w:World}{b:Nat}{X:List Value}{t:bO}(h:w.heap[b]? = some (cR X.toArray t (0,0)))(j:Nat)(u)(z:X[j]? = some u):w.cell? ⟨b,j,none⟩=some u:=by
 simp only[bD,h];simpa using z
theorem Ue(ao)(n c z:Nat)(K:List CV)(y:CV)(w:World)(hn:n<=4096)(ay:n<=c)(aq:c<n+1)(hz:K.length=n)(ab:ao=none->n=0/\c=0)
  (Q:∀ b,ao=some b->∀ j u,(Zm K)[j]? = some u->w.cell? (b.add j)=some u) (hv:w.heap[z]? = some (cR (Zm [y]).toArray 124 (0,0))) :
  Calls aA 254 #[F ao n c,E J n,F (some ⟨z,0,none⟩) 1 1] w λe w'=>∃ v',e = cS v'/\w'.ownsRow w.heap.size 124 6 v' (n+1) (Zm (K++[y]))/\w.grownBy w' none:=by
 obtain⟨i0,an,ar,au,av⟩:=info_parts Tryz.infoCoin;have HC:=Zd Q;have HZ:Hid ((Zm K).length=n*6):=by show _=_;rw[Z6,hz]
 have HN:=Zd ab
 have HV:Hid (∀ j u,(Zm [y])[j]? = some u->w.cell? ((⟨z,0,none⟩:Addr).add j)=some u):=λj u hj=>by
  rw[bX,Nat.zero_add];exact Vi hv j u hj
 have H1:Hid ((Zm [y]).length=1*6):=Z4 y;clear Q hz ab hv;go_enter func254,ntmps254
 go_wp2_with (at_builtin;refine wpList_append_grows _ rfl _ _ 29 rfl 124 i0 zeroC 6 64 cA an ar au av rfl (by decide) ao n c (Zm K) rfl HN HZ HC ⟨z,0,none⟩ 1 1 (Zm [y]) rfl H1 HV (Xr [y]) aq (by unfold cH;omega) (by omega) ?_;intro v2 w3 ac aa)
 have HW:Hid (w3.ownsRow w.heap.size 124 6 v2 (n+1) (Zm (K++[y]))):=by rw[Yh];exact ac
 have HG:=Zd aa;clear ac aa;go_wp2;go_ret;exact⟨v2,rfl,Za HW,Za HG⟩
theorem Tj{P:Program}(w:World)(t ty e:bO)(i:TypeInfo)(size:Nat)(h1:P.underlying t=some (.slice e))(h2:P.info? e=some i)(h4:i.size=size)
  (b n cap:Nat) (al:Addr) (m c:Nat) (z:List Value) (hn:z.length=m*size) (hc:∀ j u,z[j]? = some u->w.cell? (al.add j)=some u) (ad:∀ u∈z,u.oneCell'=true)
  (aj:n+m<=cap) (Q:Array Value) (te:bO) (ak:w.heap[b]? = some (cR Q te (0,0))) (ag:n*size+z.length<=Q.size) :
  (Builtin.append_ #[t,t] ty #[F (some ⟨b,0,none⟩) n cap,F (some al) m c]).run P w = .ok (F (some ⟨b,0,none⟩) (n+m) cap) (w.setRow b (laid Q.toList (n*size) z).toArray):=by
 subst h4;have af:=run_firstCells_some (P:=P) w i.size m al m c z hn hc;have ab:=run_storeCells_at P b (n*i.size) te z 0 Q w ak (by simpa using ag) ad;simp only[Nat.add_zero] at ab;simp[Builtin.append_,run_underlying h1,sizeOf,typeInfo,h2,Builtin.lenOf,aj,af,bX,ab,laid]
theorem Zko(X Y:List Value)(n c:Nat)(h:n+1<=c)(z:X.length=c*6)(Q:Y.length=6):(laid X (n*6) Y).take ((n+1)*6)=X.take (n*6)++Y:=by
 unfold laid;rw[bU (by simp;omega),aN (by simp;omega)]
theorem H9(base g n c vb:Nat)(K:List CV)(y:CV)(w:World)(ac:n+1<=c)(hz:K.length=n)(h:w.ownsRow base 124 6 (F (some ⟨g,0,none⟩) n c) n (Zm K))(hv:w.heap[vb]? = some (cR (Zm [y]).toArray 124 (0,0))) :
  Calls aA 254 #[F (some ⟨g,0,none⟩) n c,E J n,F (some ⟨vb,0,none⟩) 1 1] w λe w'=>e = cS (F (some ⟨g,0,none⟩) (n+1) c)/\w'.ownsRow base 124 6 (F (some ⟨g,0,none⟩) (n+1) c) (n+1) (Zm (K++[y]))/\w.grownBy w' (some g):=by
 obtain⟨i0,ah,av,an,aw⟩:=info_parts Tryz.infoCoin;obtain⟨ak,h|⟨g',c',z,ae,ag,hh,h1,h2,h3,h4⟩⟩:=h
 ·cases h.1
 simp only[cO,bG,Addr.mk.injEq,and_true,true_and] at ae;obtain⟨rfl,rfl⟩:=ae;unfold cH at h2;have Q:z.toList.length=c*6:=by simpa using h3
 have HR:Hid (∀ ty,(Builtin.append_ #[29,29] ty #[F (some ⟨g,0,none⟩) n c,F (some ⟨vb,0,none⟩) 1 1]).run aA w = .ok (F (some ⟨g,0,none⟩) (n+1) c) (w.setRow g (laid z.toList (n*6) (Zm [y])).toArray)):=λty=>
  Tj w 29 ty 124 i0 6 cA ah an g n c ⟨vb,0,none⟩ 1 1 (Zm [y]) (Z4 y) (λj u hj=>by rw[bX,Nat.zero_add];exact Vi hv j u hj) (Xr [y]) ac z 124 hh (by rw[Z4,h3];omega)
 have R:Hid ((w.setRow g (laid z.toList (n*6) (Zm [y])).toArray).ownsRow base 124 6 (F (some ⟨g,0,none⟩) (n+1) c) (n+1) (Zm (K++[y]))):=by
  refine⟨by rw[Z6];simp;omega,.inr ⟨g,c,(laid z.toList (n*6) (Zm [y])).toArray,rfl,ag,setRow_heap _ g _ _ 124 (0,0) hh,ac,by unfold cH;omega,?_,?_⟩⟩
  ·rw[List.size_toArray,Wo _ _ _ (by rw[Q,Z4];omega),Q]
  ·show List.take _ (laid _ _ _)=_;rw[Zko _ _ n c ac Q (Z4 y),h4,Yh]
 have G:Hid (w.grownBy (w.setRow g (laid z.toList (n*6) (Zm [y])).toArray) (some g)):=
  ⟨rfl,rfl,rfl,by simp[World.setRow],λk hk al=>setRow_other w g k _ (λe=>al (by rw[e]))⟩
 clear hh h3 h4 ak Q hz hv;go_enter func254,ntmps254
 go_wp2_with (at_builtin;refine Vp _ rfl _ _ 29 29 rfl _ _ rfl rfl (HR _) ?_)
 go_wp2;go_ret;exact⟨rfl,Za R,Za G⟩
theorem Zkn(X Y:List Value)(i n c:Nat)(hi:i<n)(h:n+1<=c)(hX:X.length=c*6)(Q:Y.length=6) :
  (laid (laid X ((i+1)*6) ((X.take (n*6)).drop (i*6))) (i*6) Y).take ((n+1)*6)=(X.take (n*6)).take (i*6)++(Y++(X.take (n*6)).drop (i*6)):=by
 have z:((X.take (n*6)).drop (i*6)).length=n*6 - i*6:=by simp;omega
 obtain⟨Z,hZ⟩:=ZG ((X.take (n*6)).drop (i*6));rw[<-hZ] at z ⊢
 have e2:(laid X ((i+1)*6) Z).take (i*6)=X.take (i*6):=by
  unfold laid;rw[cQ,bU (by simp;omega),List.take_take,Nat.min_eq_left (by omega)]
 have e3:(laid X ((i+1)*6) Z).drop (i*6+6)=Z++X.drop ((i+1)*6+Z.length):=by
  unfold laid;rw[cQ,show i*6+6=(i+1)*6 by omega,List.drop_append_of_le_length (by simp;omega),List.drop_of_length_le (by rw[bJ];omega),List.nil_append]
 rw[show laid (laid X ((i+1)*6) Z) (i*6) Y=X.take (i*6)++Y++(Z++X.drop ((i+1)*6+Z.length)) by unfold laid at e2 e3 ⊢;rw[Q,e2,e3]];rw[<-cQ,bU (by simp[z,Q];omega),aN (by simp[z,Q];omega),List.take_take,Nat.min_eq_left (by omega),cQ]
theorem Mr(K:List CV)(y:CV)(i:Nat):Zm (K.take i++y :: K.drop i)=(Zm K).take (i*6)++(Zm [y]++(Zm K).drop (i*6)):=by
 rw[Ui,Uj,Yh,show y :: K.drop i=[y]++K.drop i from rfl,Yh]
theorem Sr(base g n c i vb:Nat)(K:List CV)(y:CV)(w:World)(hi:i<n)(au:n+1<=c)(hz:K.length=n)(h:w.ownsRow base 124 6 (F (some ⟨g,0,none⟩) n c) n (Zm K))(hv:w.heap[vb]? = some (cR (Zm [y]).toArray 124 (0,0)))(al:vb≠g) :
  Calls aA 254 #[F (some ⟨g,0,none⟩) n c,E J i,F (some ⟨vb,0,none⟩) 1 1] w λe w'=>e = cS (F (some ⟨g,0,none⟩) (n+1) c)/\w'.ownsRow base 124 6 (F (some ⟨g,0,none⟩) (n+1) c) (n+1) (Zm (K.take i++y :: K.drop i))/\w.grownBy w' (some g):=by
 obtain⟨i0,az,cg,bg,cj⟩:=info_parts Tryz.infoCoin;obtain⟨bb,h|⟨g',c',z,ax,ay,hh,h1,h2,h3,h4⟩⟩:=h
 ·cases h.1
 simp only[cO,bG,Addr.mk.injEq,and_true,true_and] at ax;obtain⟨rfl,rfl⟩:=ax;unfold cH at h2;have aj:z.toList.length=c*6:=by simpa using h3
 have av:(Tryz.prog.info? 124).map (·.size)=some 6:=by rw[az];simp[bg]
 have bd:∀ lb cb,(callFunc 283 #[F (some ⟨vb,0,none⟩) 1 1,F (some ⟨g,(i+1)*6,none⟩) lb cb]).run aA w = .ok (.value (cV false)) w:=λlb cb=>by
  rw[run_callFunc_extern func283 (by kernel_rfl) (by kernel_rfl) (by kernel_rfl) (e:=Extern.SlicesOverlaps.overlaps #[29,29] #[4]) (by kernel_rfl),
   Lib.run_overlaps_apart w 29 4 124 cA 6 Tryz.sizeOf124 ⟨vb,0,none⟩ ⟨g,(i+1)*6,none⟩ 1 1 lb cb al 124 124 6 (c*6) (by simp[World.shape?,hv,Z4]) (by simp[World.shape?,hh,h3]) (by omega) (by simp[World.frozen?,hv]) (by simp[World.frozen?,hv])]
  rfl
 obtain⟨Z,hZ⟩:=ZG ((z.toList.take (n*6)).drop (i*6));have ae:Z.length=(n - i)*6:=by rw[hZ];simp;omega
 have aq:∀ u∈Z,u.oneCell'=true:=λu hu=>by
  rw[hZ,h4] at hu;exact Xr K u (List.mem_of_mem_drop hu)
 obtain⟨Q,ac⟩:=ZG (w.drew.setRow g (laid z.toList ((i+1)*6) Z).toArray);have an:Q.heap[g]? = some (cR (laid z.toList ((i+1)*6) Z).toArray 124 (0,0)):=by rw[ac];exact setRow_heap w.drew g z _ 124 (0,0) hh
 have ak:(laid z.toList ((i+1)*6) Z).length=c*6:=by rw[Wo _ _ _ (by rw[aj,ae];omega),aj]
 have bu:∀ ty dc sc,(Builtin.copy_ #[29,29] ty #[F (some ⟨g,(i+1)*6,none⟩) (n - i) dc,F (some ⟨g,i*6,none⟩) (n+1 - i) sc]).run aA w.drew = .ok (goInt (n - i)) Q:=λty dc sc=>by
  have:=W9 (P:=aA) w.drew 29 29 ty 124 g ((i+1)*6) (n - i) dc ⟨g,i*6,none⟩ (n+1 - i) sc 6 z 124 Z cA av hh (by rw[ae];simp only[Nat.min_def];split <;> omega)
   (λj u hj=>by
    have ht:j<(n - i)*6:=(by rw[<-ae];exact (bZ.1 hj).1);rw[hZ,List.getElem?_drop,List.getElem?_take_of_lt (by omega)] at hj;rw[bX];show w.cell? _=_;simp only[bD,hh];rw[<-hj];simp) (by rw[ae,h3];omega) aq
  rw[this,ac]
  congr 1
  simp only[Nat.min_def];split <;> (congr 1;omega)
 have hm:Nat.min 1 (n+1 - i)=1:=by simp only[Nat.min_def];split <;> omega
 have bv:∀ ty dc,(Builtin.copy_ #[29,29] ty #[F (some ⟨g,i*6,none⟩) (n+1 - i) dc,F (some ⟨vb,0,none⟩) 1 1]).run aA Q = .ok (goInt 1) (Q.setRow g (laid (laid z.toList ((i+1)*6) Z) (i*6) (Zm [y])).toArray):=λty dc=>by
  have be:Q.heap[vb]? = some (cR (Zm [y]).toArray 124 (0,0)):=by rw[ac,setRow_other _ _ _ _ al];exact hv
  have:=W9 (P:=aA) Q 29 29 ty 124 g (i*6) (n+1 - i) dc ⟨vb,0,none⟩ 1 1 6 (laid z.toList ((i+1)*6) Z).toArray 124 (Zm [y]) cA av an (by rw[Z4,hm])
   (λj u hj=>by rw[bX,Nat.zero_add];exact Vi be j u hj) (by rw[Z4,List.size_toArray,ak];omega) (Xr [y])
  rw[this,hm];rfl
 have R:Hid ((Q.setRow g (laid (laid z.toList ((i+1)*6) Z) (i*6) (Zm [y])).toArray).ownsRow base 124 6 (F (some ⟨g,0,none⟩) (n+1) c) (n+1) (Zm (K.take i++y :: K.drop i))):=by
  refine⟨by rw[Z6];simp;omega,.inr ⟨g,c,(laid (laid z.toList ((i+1)*6) Z) (i*6) (Zm [y])).toArray,rfl,ay,setRow_heap _ g _ _ 124 (0,0) an,au,by unfold cH;omega,?_,?_⟩⟩
  ·rw[List.size_toArray,Wo _ _ _ (by rw[ak,Z4];omega),ak]
  ·show List.take _ (laid _ _ _)=_;rw[hZ,Zkn _ _ i n c hi au aj (Z4 y),h4,Mr]
 have G:Hid (w.grownBy (Q.setRow g (laid (laid z.toList ((i+1)*6) Z) (i*6) (Zm [y])).toArray) (some g)):=by
  have e:Q.setRow g (laid (laid z.toList ((i+1)*6) Z) (i*6) (Zm [y])).toArray=w.drew.setRow g (laid (laid z.toList ((i+1)*6) Z) (i*6) (Zm [y])).toArray:=by rw[ac,setRow_setRow]
  rw[e];exact⟨rfl,rfl,rfl,by simp[World.setRow],λk hk al=>setRow_other w.drew g k _ (λe=>al (by rw[e]))⟩
 have bz:i<=n:=by omega
 have bj:(0:Int)<=(i:Int)+1:=by omega
 have bx:i<=c:=by omega
 have h9:¬((i:Int)=(n:Int)):=by omega
 have bk:¬(c=i+1):=by omega
 have bq:¬(c=i):=by omega
 have ce:IntKind.i64.wrap ((i:Int)+1)=(i:Int)+1:=by rw[bI];omega
 have cf:IntKind.i64.wrap ((n:Int)+1)=(n:Int)+1:=by rw[bI];omega
 have cc:((i:Int)+1).toNat=i+1:=by omega
 have cd:((n:Int)+1).toNat=n+1:=by omega
 have bo:(i:Int)<=(n:Int)+1:=by omega
 have br:(i:Int)+1<=(n:Int)+1:=by omega
 have bs:(n:Int)+1<=(c:Int):=by omega
 have bt:¬((c:Int)<(n:Int)+1):=by omega
 clear ac an ak hh h3 h4 bb aj hz hv hZ ae aq;go_enter func254,ntmps254
 go_wp2_with (simp only[bd])
 go_region
 go_wp2;go_ret;exact⟨rfl,Za R,Za G⟩
theorem Zkm(X Y Z O:List Value)(i n C:Nat)(hi:i<n)(hC:n+1<=C)(hX:X.length=C*6)(z:X.take (i*6)=O)(hY:Y.length=6)(hZ:Z.length=(n - i)*6) :
  (laid (laid X (i*6) Y) ((i+1)*6) Z).take ((n+1)*6)=O++(Y++Z):=by
 have Q:(laid X (i*6) Y).take ((i+1)*6)=O++Y:=by
  unfold laid;rw[bU (by simp;omega),aN (by simp;omega),z]
 rw[show laid (laid X (i*6) Y) ((i+1)*6) Z=O++Y++Z++(laid X (i*6) Y).drop ((i+1)*6+Z.length) by rw[<-Q];rfl];have ab:O.length=i*6:=by rw[<-z,bJ];omega
 rw[bU (by simp;omega),aN (by simp;omega),cQ]
theorem Gb(base g n c i vb:Nat)(K:List CV)(y:CV)(w:World)(hi:i<n)(hn:n<=4096)(dd:c<n+1)(hz:K.length=n)(h:w.ownsRow base 124 6 (F (some ⟨g,0,none⟩) n c) n (Zm K))(hv:w.heap[vb]? = some (cR (Zm [y]).toArray 124 (0,0))) :
  Calls aA 254 #[F (some ⟨g,0,none⟩) n c,E J i,F (some ⟨vb,0,none⟩) 1 1] w λe w'=>∃ v',e = cS v'/\w'.ownsRow w.heap.size 124 6 v' (n+1) (Zm (K.take i++y :: K.drop i))/\w.grownBy w' none:=by
 obtain⟨i0,bg,cg,az,bt⟩:=info_parts Tryz.infoCoin;obtain⟨bi,h|⟨g',c',bx,br,cx,hh,h1,h2,h3,h4⟩⟩:=h
 ·cases h.1
 simp only[cO,bG,Addr.mk.injEq,and_true,true_and] at br;obtain⟨rfl,rfl⟩:=br;unfold cH at h2;have cb:bx.toList.length=c*6:=by simpa using h3
 have bo:(Tryz.prog.info? 124).map (·.size)=some 6:=by rw[bg];simp[az]
 have cd:g<w.heap.size:=lt_of_block hh;have ce:vb<w.heap.size:=lt_of_block hv;obtain⟨k,hk⟩:=ZG (n+1 - i);have bh:i+k=n+1:=by omega
 obtain⟨O,hO⟩:=ZG (Zm (K.take i));have af:O.length=i*6:=by rw[hO,Z6,bJ];omega
 have ar:∀ j u,(Zm K)[j]? = some u->w.cell? ⟨g,j,none⟩=some u:=λj u z=>by
  have ax:j<n*6:=by rw[<-bi];exact (bZ.1 z).1
  rw[<-h4,List.getElem?_take_of_lt ax] at z;simp only[bD,hh];simpa using z
 obtain⟨C,hC⟩:=ZG (grownCap w (i+k) c 124);have bd:n+1<=C:=by rw[hC,<-bh];exact grownCap_ge w (i+k) c 124
 have bz:C<=cH:=by rw[hC];exact grownCap_le_maxLen w (i+k) c 124 (by unfold cH;omega)
 obtain⟨X,hX⟩:=ZG ((O.toArray++Builtin.zeroCells zeroC.cells k++Builtin.zeroCells zeroC.cells (C - (i+k))))
 have aq:X.size=C*6:=by
  rw[hX];have:zeroC.cells.size=6:=rfl;simp only[Array.size_append,List.size_toArray,size_zeroCells,this,af];omega
 have am:X.toList.length=C*6:=by simpa using aq
 have be:X.toList.take (i*6)=O:=by
  rw[hX,<-af];simp
 obtain⟨W0,Q⟩:=ZG (w.drew.alloc (cR X 124))
 have bf:∀ ty,(Builtin.append_ #[29,3] ty #[F (some ⟨g,0,none⟩) i c,E J k]).run aA w = .ok (F (some ⟨w.heap.size,0,none⟩) (n+1) C) W0:=λty=>by
  have:=Lib.run_append_grow_zeros (P:=aA) w 29 3 ty 124 i0 zeroC .i64 .i64 cA underlying3 bg cg (some ⟨g,0,none⟩) i c O
   (run_firstCells_some (P:=aA) w.drew i0.size i ⟨g,0,none⟩ i c O (by rw[af,az]) (λj u z=>by
    rw[bX,Nat.zero_add];have ax:j<i*6:=(by rw[<-af];exact (bZ.1 z).1);rw[hO,<-Ui,List.getElem?_take_of_lt ax] at z;exact ar j u z))
   k (by omega) (by rw[az];decide) (by omega) (by omega) (by rw[bt];omega) (growslice_fits (by omega) (by rw[bt];omega))
  rw[this,Q,hX,hC,bh]
 have av:W0.heap[w.heap.size]? = some (cR X 124 (0,0)):=by rw[Q];exact aJ w.drew _
 obtain⟨W1,ab⟩:=ZG (W0.setRow w.heap.size (laid X.toList (i*6) (Zm [y])).toArray);have aw:W1.heap[w.heap.size]? = some (cR (laid X.toList (i*6) (Zm [y])).toArray 124 (0,0)):=by rw[ab];exact setRow_heap W0 _ _ _ 124 (0,0) av
 have an:(laid X.toList (i*6) (Zm [y])).length=C*6:=by rw[Wo _ _ _ (by rw[am,Z4];omega),am]
 have hm:Nat.min 1 (n+1 - i)=1:=by simp only[Nat.min_def];split <;> omega
 have bk:Nat.min (n - i) (n - i)=n - i:=by simp only[Nat.min_def];split <;> omega
 have cy:∀ ty dc,(Builtin.copy_ #[29,29] ty #[F (some ⟨w.heap.size,i*6,none⟩) (n+1 - i) dc,F (some ⟨vb,0,none⟩) 1 1]).run aA W0 = .ok (goInt 1) W1:=λty dc=>by
  have cf:W0.heap[vb]? = some (cR (Zm [y]).toArray 124 (0,0)):=by rw[Q,Below.heap_alloc w.drew _ vb ce];exact hv
  have:=W9 (P:=aA) W0 29 29 ty 124 w.heap.size (i*6) (n+1 - i) dc ⟨vb,0,none⟩ 1 1 6 X 124 (Zm [y]) cA bo av (by rw[Z4,hm])
   (λj u z=>by rw[bX,Nat.zero_add];exact Vi cf j u z) (by rw[Z4,aq];omega) (Xr [y])
  rw[this,hm,ab];rfl
 obtain⟨Z,hZ⟩:=ZG (Zm (K.drop i));have ah:Z.length=(n - i)*6:=by rw[hZ,Z6,List.length_drop,hz]
 obtain⟨W2,ac⟩:=ZG (W1.drew.setRow w.heap.size (laid (laid X.toList (i*6) (Zm [y])) ((i+1)*6) Z).toArray)
 have cz:∀ ty dc sc,(Builtin.copy_ #[29,29] ty #[F (some ⟨w.heap.size,(i+1)*6,none⟩) (n - i) dc,F (some ⟨g,i*6,none⟩) (n - i) sc]).run aA W1.drew = .ok (goInt ((n - i:Nat):Int)) W2:=λty dc sc=>by
  have:=W9 (P:=aA) W1.drew 29 29 ty 124 w.heap.size ((i+1)*6) (n - i) dc ⟨g,i*6,none⟩ (n - i) sc 6 (laid X.toList (i*6) (Zm [y])).toArray 124 Z cA bo aw (by rw[ah,bk])
   (λj u z=>by
    rw[bX];show W1.cell? _=_;have ca:W1.heap[g]? = w.heap[g]?:=(by rw[ab,setRow_other _ _ _ _ (by omega),Q,Below.heap_alloc w.drew _ g cd];rfl);rw[World.cell?_of_block (a:=⟨g,i*6+j,none⟩) ca];exact ar _ u (by rw[hZ,<-Uj,List.getElem?_drop] at z;exact z)) (by rw[ah,List.size_toArray,an];omega) (λu hu=>Xr _ u (by rw[hZ] at hu;exact hu))
  rw[this,bk,ac]
 have R:Hid (W2.ownsRow w.heap.size 124 6 (F (some ⟨w.heap.size,0,none⟩) (n+1) C) (n+1) (Zm (K.take i++y :: K.drop i))):=by
  refine⟨by rw[Z6];simp;omega,.inr ⟨w.heap.size,C,(laid (laid X.toList (i*6) (Zm [y])) ((i+1)*6) Z).toArray,rfl,aF _,by rw[ac];exact setRow_heap W1.drew _ _ _ 124 (0,0) aw,bd,bz,?_,?_⟩⟩
  ·rw[List.size_toArray,Wo _ _ _ (by rw[an,ah];omega),an]
  ·show List.take _ (laid _ _ _)=_;rw[Zkm X.toList (Zm [y]) Z O i n C hi bd am be (Z4 y) ah,Mr,Ui,Uj,hO,hZ]
 have G:Hid (w.grownBy W2 none):=by
  refine⟨by rw[ac,ab,Q];rfl,by rw[ac,ab,Q];rfl,by rw[ac,ab,Q];rfl,by rw[ac,ab,Q];simp[World.setRow],λq hq _=>?_⟩;rw[ac,setRow_other _ _ _ _ (by omega)];show W1.heap[q]? = _;rw[ab,setRow_other _ _ _ _ (by omega),Q,Below.heap_alloc w.drew _ q hq];rfl
 have db:i<=n:=by omega
 have da:i<=c:=by omega
 have h9:¬((i:Int)=(n:Int)):=by omega
 have cm:(0:Int)<=(i:Int)+1:=by omega
 have cn:¬(C=i+1):=by omega
 have cq:¬(C=i):=by omega
 have cw:¬(c=i):=by omega
 have df:IntKind.i64.wrap ((i:Int)+1)=(i:Int)+1:=by rw[bI];omega
 have dg:IntKind.i64.wrap ((n:Int)+1)=(n:Int)+1:=by rw[bI];omega
 have dh:IntKind.i64.wrap ((n:Int)+1 - (i:Int))=(k:Int):=by rw[bI];omega
 have de:((i:Int)+1).toNat=i+1:=by omega
 have ct:(i:Int)+1<=(n:Int)+1:=by omega
 have cp:(i:Int)<=(n:Int)+1:=by omega
 have cu:(c:Int)<(n:Int)+1:=by omega
 have bv:=Zd bf;clear bf Q ab ac av aw an hh h3 h4 bi cb hz hv hZ ah hX aq am be hO af hC ar hk;go_enter func254,ntmps254
 go_wp2_with (at_builtin;refine Vp _ rfl _ _ 29 3 rfl _ _ rfl rfl (bv _) ?_)
 go_wp2
 go_region
 go_wp2;go_ret;exact⟨_,rfl,Za R,Za G⟩
theorem Yo{w:World}{base z:Nat}{e:bO}{size:Nat}{v}{n:Nat}{xs}(h:w.ownsRow z e size v n xs)(hb:base<=z):w.ownsRow base e size v n xs:=by
 obtain⟨Q,h0|⟨g,cap,aa,hv,hg,r⟩⟩:=h
 ·exact⟨Q,.inl h0⟩
 ·exact⟨Q,.inr ⟨g,cap,aa,hv,aT hb hg,r⟩⟩
theorem Su{w w':World}{row:Option Nat}(h:w.grownBy w' none):w.grownBy w' row:=⟨h.os,h.tape,h.output,h.size,λk z _=>h.block k z (by simp)⟩
theorem Ka(base:Nat)(a)(n c i Q:Nat)(K:List CV)(y:CV)(w:World)(hi:i<=n)(hn:n<=4096)(z:K.length=n)(af:base<=w.heap.size)(h:w.ownsRow base 124 6 (F a n c) n (Zm K))(hv:w.heap[Q]? = some (cR (Zm [y]).toArray 124 (0,0)))
  (aq:(aY a n c).ownBlock≠some Q) :
  Calls aA 254 #[F a n c,E J i,F (some ⟨Q,0,none⟩) 1 1] w λe w'=>∃ v',e = cS v'/\w'.ownsRow base 124 6 v' (n+1) (Zm (K.take i++y :: K.drop i))/\w.grownBy w' (aY a n c).ownBlock/\(v'.ownBlock=(aY a n c).ownBlock\/∀ k,v'.ownBlock=some k->w.heap.size<=k):=by
 have hO:=h
 rcases h.2 with ⟨e,h0⟩|⟨g,c',au,ak,av,hh,h1,h2,h3,h4⟩
 ·simp only[cO] at e;obtain⟨rfl,rfl,rfl⟩:=e;obtain rfl:i=0:=by omega
  have eK:K=[]:=aG.1 z;subst eK;refine (Ue none 0 0 Q [] y w hn (aF _) (by omega) rfl (λ_=>⟨rfl,rfl⟩) (λb hb=>by cases hb) hv).mono ?_;rintro e w' ⟨v',rfl,x,ax⟩;exact⟨v',rfl,Yo x af,Su ax,.inr λk hk=>Xj x k hk⟩
 ·simp only[cO] at ak;obtain⟨rfl,_,rfl⟩:=ak;have am:Q≠g:=λe=>aq (by rw[e];rfl);by_cases an:i=n
  ·subst an;by_cases hr:i+1<=c
   ·refine (H9 base g i c Q K y w hr z hO hv).mono ?_;rintro e w' ⟨rfl,x,ax⟩;exact⟨_,rfl,by rw[<-z,List.take_length,List.drop_length,z];exact x,ax,.inl rfl⟩
   ·refine (Ue (some ⟨g,0,none⟩) i c Q K y w hn h1 (by omega) z (λe=>by cases e) (λb hb j u hj=>?_) hv).mono ?_
    ·cases hb;rw[bX,Nat.zero_add];have ap:j<i*6:=(by rw[<-hO.1];exact (bZ.1 hj).1);rw[World.ownsRow.cellAt hO j ap];exact hj
    ·rintro e w' ⟨v',rfl,x,ax⟩;exact⟨v',rfl,by rw[<-z,List.take_length,List.drop_length,z];exact Yo x af,Su ax,.inr λk hk=>Xj x k hk⟩
  ·by_cases hr:n+1<=c
   ·refine (Sr base g n c i Q K y w (by omega) hr z hO hv am).mono ?_;rintro e w' ⟨rfl,x,ax⟩;exact⟨_,rfl,x,ax,.inl rfl⟩
   ·refine (Gb base g n c i Q K y w (by omega) hn (by omega) z hO hv).mono ?_;rintro e w' ⟨v',rfl,x,ax⟩;exact⟨v',rfl,Yo x af,Su ax,.inr λk hk=>Xj x k hk⟩
structure Gr(w w':World)(S:Nat->Prop):Prop where
 os:w'.os=w.os
 tape:w'.tape=w.tape
 output:w'.output=w.output
 size:w.heap.size<=w'.heap.size
 block:∀ k,k<w.heap.size->¬S k->w'.heap[k]? = w.heap[k]?
theorem Gr.refl(w)(S:Nat->Prop):Gr w w S:=⟨rfl,rfl,rfl,aF _,λ_ _ _=>rfl⟩
theorem Gr.of{w w':World}{S:Nat->Prop}(h:ZD w w'):Gr w w' S:=⟨h.os,h.tape,h.output,h.size,λk z _=>h.block k z⟩
theorem Gr.on{w z w2:World}{S:Nat->Prop}(h:Gr w z S)(k:ZD z w2):Gr w w2 S:=
 ⟨k.os.trans h.os,k.tape.trans h.tape,k.output.trans h.output,aT h.size k.size,λi hi Q=>(k.block i (aC hi h.size)).trans (h.block i hi Q)⟩
theorem Gr.trans{w Q w2}{S:Nat->Prop}(h:Gr w Q S)(k:Gr Q w2 S):Gr w w2 S:=
 ⟨k.os.trans h.os,k.tape.trans h.tape,k.output.trans h.output,aT h.size k.size,λi hi z=>(k.block i (aC hi h.size) z).trans (h.block i hi z)⟩
theorem Gr.mono{w z:World}{S T:Nat->Prop}(h:Gr w z S)(hs:∀ k,k<w.heap.size->S k->T k):Gr w z T:=
 ⟨h.os,h.tape,h.output,h.size,λi hi Q=>h.block i hi (λq=>Q (hs i hi q))⟩
theorem Gr.grown{w Q w2:World}{S:Nat->Prop}{row:Option Nat}(h:Gr w Q S)(g:Q.grownBy w2 row)(hr:∀ k,row=some k->S k\/w.heap.size<=k):Gr w w2 S:=
 ⟨g.os.trans h.os,g.tape.trans h.tape,g.output.trans h.output,aT h.size g.size,λi hi z=>(g.block i (aC hi h.size) (λe=>by
  rcases hr i e.symm with q|q
  ·exact z q
  ·omega)).trans (h.block i hi z)⟩
theorem Gr.set{w z:World}{S:Nat->Prop}(h:Gr w z S){p:Addr}(hp:S p.block\/w.heap.size<=p.block)(u):Gr w (z.setCell p u) S:=
 ⟨h.os,h.tape,h.output,by simpa[World.setCell] using h.size,λi hi Q=>(Below.heap_setCell z p u i (λe=>by
  subst e
  rcases hp with q|q
  ·exact Q q
  ·omega)).trans (h.block i hi Q)⟩
theorem Gr.one{w z:World}{S:Nat->Prop}(h:Gr w z S)(b i:Nat)(Q:S b\/w.heap.size<=b)(u):Gr w (z.setCell ⟨b,i,none⟩ u) S:=h.set (p:=⟨b,i,none⟩) Q u
theorem Gr.six{w w1:World}{S:Nat->Prop}(h:Gr w w1 S)(b:Nat)(z:S b\/w.heap.size<=b)(Q a1 a2 a3 a4 a5):Gr w ((((((w1.setCell ⟨b,0,none⟩ Q).setCell ⟨b,1,none⟩ a1).setCell ⟨b,2,none⟩ a2).setCell ⟨b,3,none⟩ a3).setCell ⟨b,4,none⟩ a4).setCell ⟨b,5,none⟩ a5) S:=
 (((((h.one b 0 z Q).one b 1 z a1).one b 2 z a2).one b 3 z a3).one b 4 z a4).one b 5 z a5
theorem Gr.new{w z:World}{S:Nat->Prop}(h:Gr w z S)(o:Obj):Gr w (z.alloc o) S:=h.on (Zh _ _)
theorem Gr.draw{w z:World}{S:Nat->Prop}(h:Gr w z S):Gr w z.drew S:=⟨h.os,h.tape,h.output,h.size,h.block⟩
theorem Gr.below{w0 w w':World}{S:Nat->Prop}{B:Nat}(h:Gr w w' S)(z:Below B w0 w)(hB:B<=w.heap.size)(hs:∀ k,S k->B<=k):Below B w0 w':=
 ⟨h.os.trans z.os,h.tape.trans z.tape,h.output.trans z.output,aT z.size h.size,λk Q=>(h.block k (by omega) (λq=>by have:=hs k q;omega)).trans (z.block k Q)⟩
theorem Gr.own{w w':World}{S:Nat->Prop}(h:Gr w w' S){base:Nat}{e:bO}{size:Nat}{v:Value}{n:Nat}{xs}(ho:w.ownsRow base e size v n xs)(hn:∀ k,v.ownBlock=some k->¬S k):w'.ownsRow base e size v n xs:=by
 obtain⟨Q,h0|⟨g,cap,ab,hv,hg,z,r⟩⟩:=ho
 ·exact⟨Q,.inl h0⟩
 ·exact⟨Q,.inr ⟨g,cap,ab,hv,hg,(h.block g (lt_of_block z) (hn g (by rw[hv];rfl))).trans z,r⟩⟩
theorem Gr.heap{w w':World}{S:Nat->Prop}(h:Gr w w' S){b:Nat}{o:Obj}(z:w.heap[b]? = some o)(Q:¬S b):w'.heap[b]? = some o:=(h.block b (lt_of_block z) Q).trans z
theorem Zb{w:World}{b:Nat}{X:List Value}{t:bO}(h:w.heap[b]? = some (cR X.toArray t (0,0)))(j:Nat)(u)(z:X[j]? = some u):w.cell? ⟨b,j,none⟩=some u:=Vi h j u z
theorem Zg{w:World}{b:Nat}{X}{t:bO}(h:w.heap[b]? = some (cR X t (0,0)))(j:Nat):w.frozen? ⟨b,j,none⟩=false:=by simp[World.frozen?,h]
structure Pu(w0 w:World)(p:Nat)(v:Value)(K:List CV):Prop where
 bel:ZD w0 w
 ge:w0.heap.size<=p
 box:w.heap[p]? = some (cR #[v] 235 (0,0))
 own:w.ownsRow w0.heap.size 124 6 v K.length (Zm K)
 ne:v.ownBlock≠some p
 lk:∀ x∈K,LkAt w0 x
def PuS(p:Nat)(v:Value):Nat->Prop:=λk=>k=p\/v.ownBlock=some k
theorem Pu.coins{w0 w}{p:Nat}{v}{K:List CV}(h:Pu w0 w p v K):∃ a c,v = F a K.length c/\CoinsAt w a K.length (K.map (·.1))/\SlOk a K.length c:=
 Wq h.own (λx hx=>(h.lk x hx).later h.bel)
theorem Pu.lt{w0 w:World}{p:Nat}{v K}(h:Pu w0 w p v K):p<w.heap.size:=lt_of_block h.box
theorem Pu.kept{w0 w w':World}{p:Nat}{v K}(h:Pu w0 w p v K)(z:ZD w w'):Pu w0 w' p v K:=
 ⟨Zf h.bel (z.mono h.bel.size |> λq=>⟨q.os,q.tape,q.output,q.size,z.block⟩),h.ge,(z.block p h.lt).trans h.box,(Gr.of (S:=λ_=>False) z).own h.own (λ_ _ q=>q),h.ne,h.lk⟩
theorem Zfa(a)(n c:Nat)(L w)(hn:n<=4096)(h:CoinsAt w a n L)(hs:SlOk a n c) :
  Calls aA 145 #[F a n c] w λe w'=>∃ p v,∃ K:List CV,e = cS (cU (some ⟨p,0,none⟩))/\K.map (·.1)=L/\Pu w w' p v K:=by
 have C:=Zd (Rs a n c L w hn h hs);clear h hs;go_enter func145,ntmps145;go_wp2_with fail;refine C.mono ?_;rintro e w2 ⟨v,K,rfl,hK,hl,Q,z⟩;obtain⟨a',c',rfl,_,_⟩:=Wq Q (λx hx=>(hl x hx).later z);obtain⟨n',ab⟩:=ZF (K.length);rw[ab] at Q ⊢
 have P:Hid (Pu w (w2.alloc (cR #[F a' n' c'] 235)) w2.heap.size (F a' n' c') K):=by
  refine⟨z.alloc z.size _,z.size,aJ w2 _,by rw[ab];exact Q.alloc _,λe=>?_,hl⟩;have:=(Q.lt _ e).2;omega
 have HK:=Zd hK;clear hK hl Q z ab;go_wp2;go_ret;exact⟨w2.heap.size,_,K,rfl,Za HK,Za P⟩
theorem Mf(x:Zj)(a)(n c:Nat)(p:PtD)(z:Int)(w:World)(hz:Gc (pt x) p=z) :
  ZH 279 #[cnV x a n c,.agg #[E J p.1,E J p.2]] w (E J z):=by
 unfold cnV;have HB:=Zd (Zf (Zh w (cR #[E J x.1,E J x.2.1,E J (cv x),F a n c,E J (ch x),cV (cr x)] 124)) (Zh _ (cR #[E J p.1,E J p.2] 117)));have C:=Zd (λw=>R9 (pt x) p z w hz);unfold pt at C;clear hz;go_enter func279,ntmps279;go_wp2_with fail;refine (C _).mono ?_;rintro e w2 ⟨rfl,Q⟩;have ac:=Zd (Zf HB Q);clear Q;go_wp2;go_ret;exact⟨rfl,Za ac⟩
theorem Zcd{L:List Zj}(h:Srt L)(p:PtD)(i:Nat)(hi:i<=L.length)(h1:∀ t (ht:t<L.length),t<i->lt (pt L[t]) p=true)(h2:∀ t (ht:t<L.length),i<=t->lt (pt L[t]) p=false):pos p L=i:=by
 obtain⟨Q,_⟩:=Vz (p:=p) h;have hl:=Zfx p L
 rcases Nat.lt_trichotomy (pos p L) i with q|q|q
 ·have:=h1 (pos p L) (by omega) q;have z:L[pos p L]'(by omega)∈L.drop (pos p L):=by rw[List.drop_eq_getElem_cons (by omega)];exact List.mem_cons_self ..
  rw[(Vz (p:=p) h).2,List.mem_filter] at z;rw[this] at z;exact absurd z.2 (by decide)
 ·exact q
 ·have:=h2 i (by omega) (aF _)
  have z:L[i]'(by omega)∈L.take (pos p L):=by
   rw[List.mem_take_iff_getElem];exact⟨i,by omega,rfl⟩
  rw[Q,List.mem_filter,this] at z;exact absurd z.2 (by decide)
theorem Dx{L:List Zj}(h:Srt L)(p:PtD)(i j:Nat)(hi:i<L.length)(Q:j<L.length)(aa:i<=j)(z:lt (pt L[j]) p=true):lt (pt L[i]) p=true:=by
 rcases Nat.lt_or_ge i j with q|q
 ·exact lt_trans (List.pairwise_iff_getElem.1 h i j hi Q q) z
 ·obtain rfl:i=j:=by omega
  exact z
theorem Zim(b off n c:Nat)(L:List Zj)(p:PtD)(k:Nat)(f:Bool)(w:World)(hs:Srt L)(hn:n<=4611686018427387903)(hz:L.length=n)(hc:∀ i (h:i<L.length),CoinAt w b (off+i*6) L[i])
  (hk:pos p L=k) (hf:Ug p L=f) :
  ZH 278 #[F (some ⟨b,off,none⟩) n c,.agg #[E J p.1,E J p.2],.func (.func 279) #[] #[]] w (cT #[E J k,cV f]):=by
 have HS:=Zd hs;have HC:=Zd hc;have HZ:=Zd hz;have HK:=Zd hk;have HF:=Zd hf;clear hs hc hz hk hf;obtain⟨X,hX⟩:=ZG (w.alloc (cR #[E J p.1,E J p.2] 117));obtain⟨n0,n1⟩:=Z5 w (E J p.1) (E J p.2) 117;rw[<-hX] at n0 n1;have bk:ZD w X:=by rw[hX];exact Zh _ _
 have ak:=Zd bk;have N0:=Zd n0;have N1:=Zd n1;clear n0 n1 bk;go_enter func278,ntmps278;go_wp2;rw[<-hX];clear hX
 go_loopw [9,10] (λs9 bg wr=>∃ lo hi:Nat,s9 = E J lo/\bg = E J hi/\lo<=hi/\hi<=n/\Hid ((∀ t (Q:t<L.length),t<lo->lt (pt L[t]) p=true)/\(∀ t (Q:t<L.length),hi<=t->lt (pt L[t]) p=false))/\ZD X wr) (λs9 bg _=>(intOf bg).toNat - (intOf s9).toNat)
 case atStart=>exact⟨0,n,rfl,rfl,Nat.zero_le _,aF _,(⟨λt _ h=>absurd h (by omega),λt Q h=>absurd Q (by rw[Za HZ];omega)⟩:(∀ t (Q:t<L.length),t<0->lt (pt L[t]) p=true)/\(∀ t (Q:t<L.length),n<=t->lt (pt L[t]) p=false)),Below.refl _ _⟩
 case round=>
  obtain⟨lo,hi,rfl,rfl,cf,ar,I,hb⟩:=hrel;have HB:=Zd hb;have m0:=Ze hb N0;have m1:=Ze hb N1;have cq:=aD _ _ m0;by_cases cg:lo<hi
  ·obtain⟨m,hm⟩:∃ m:Nat,m=(lo+hi) / 2:=⟨_,rfl⟩;have cj:((lo:Int)+(hi:Int)) / 2=(m:Int):=(by omega);have cc:m<n:=(by omega);have cn:(m:Int)<(n:Int):=(by omega);have bf:m<L.length:=(by rw[Za HZ];exact cc);have ar:=CoinAt.kept _ _ _ _ _ (Zf ak hb) (HC m bf);have I1:Hid (lt (pt L[m]) p=true->(∀ t (Q:t<L.length),t<m+1->lt (pt L[t]) p=true)/\(∀ t (Q:t<L.length),hi<=t->lt (pt L[t]) p=false)):=λh=>⟨λt Q h2=>Dx HS p t m Q bf (by omega) h,I.2⟩
   have I2:Hid (lt (pt L[m]) p=false->(∀ t (Q:t<L.length),t<lo->lt (pt L[t]) p=true)/\(∀ t (Q:t<L.length),m<=t->lt (pt L[t]) p=false)):=λh=>⟨I.1,λt Q h2=>by
    rw[<-Bool.not_eq_true];intro q;rw[Dx HS p m t bf Q h2 q] at h;exact Bool.noConfusion h⟩
   obtain⟨x,hx⟩:=ZF (L[m]);rw[hx] at ar I1 I2;obtain⟨a,l,d,g1,g2,g3,g4,g5,g6,_,_⟩:=ar.val;obtain⟨ct,hz⟩:=ZF (Gc (pt x) p);have C:=Zd (λw=>Mf x a l d p ct w hz);unfold cnV at C;have az:ct<0↔lt (pt x) p=true:=(by rw[<-hz];exact Nt);have cm:lo<=m:=(by omega);have cl:m<hi:=(by omega);have HM:=Zd hm;clear ar hx hz I hb hm;by_cases ag:ct<0
   ·have bb:=Zd (I1 (az.1 ag));clear I1 I2 az;go_wp2_with fail
    go_region_held3 (λw'=>ZD wr w'/\w'.cell? ⟨w.heap.size,0,none⟩=some (E J p.1)/\w'.cell? ⟨w.heap.size,1,none⟩=some (E J p.2)/\w'.cell? ⟨b,off+m*6,none⟩=some (E J x.1)/\w'.cell? ⟨b,off+m*6+1,none⟩=some (E J x.2.1)/\w'.cell? ⟨b,off+m*6+2,none⟩=some (E J (cv x))/\w'.cell? ⟨b,off+m*6+3,none⟩=some (F a l d)/\w'.cell? ⟨b,off+m*6+4,none⟩=some (E J (ch x))/\w'.cell? ⟨b,off+m*6+5,none⟩=some (cV (cr x)))
     (first
     | exact⟨Zi _,m0,m1,g1,g2,g3,g4,g5,g6⟩
     | (go_split_ands;refine⟨Zf (by assumption) z,Ze z (by assumption),Ze z (by assumption),Ze z (by assumption),Ze z (by assumption),Ze z (by assumption),Ze z (by assumption),Ze z (by assumption),Ze z (by assumption)⟩))
     (first|(go_at_call 279;refine (C _).mono ?_;rintro e w' ⟨rfl,z⟩))
    rename_i hH;have HH:=Zd (Zf HB hH.1);clear hH;go_wp2;go_roundw
    case rel=>exact⟨m+1,hi,by go_num,rfl,by omega,by omega,bb,Za HH⟩
    case measure=>simp[intOf];omega
   ·have bb:=Zd (I2 (by rw[<-Bool.not_eq_true];intro q;exact ag (az.2 q)));clear I1 I2 az;go_wp2_with fail
    go_region_held3 (λw'=>ZD wr w'/\w'.cell? ⟨w.heap.size,0,none⟩=some (E J p.1)/\w'.cell? ⟨w.heap.size,1,none⟩=some (E J p.2)/\w'.cell? ⟨b,off+m*6,none⟩=some (E J x.1)/\w'.cell? ⟨b,off+m*6+1,none⟩=some (E J x.2.1)/\w'.cell? ⟨b,off+m*6+2,none⟩=some (E J (cv x))/\w'.cell? ⟨b,off+m*6+3,none⟩=some (F a l d)/\w'.cell? ⟨b,off+m*6+4,none⟩=some (E J (ch x))/\w'.cell? ⟨b,off+m*6+5,none⟩=some (cV (cr x)))
     (first
     | exact⟨Zi _,m0,m1,g1,g2,g3,g4,g5,g6⟩
     | (go_split_ands;refine⟨Zf (by assumption) z,Ze z (by assumption),Ze z (by assumption),Ze z (by assumption),Ze z (by assumption),Ze z (by assumption),Ze z (by assumption),Ze z (by assumption),Ze z (by assumption)⟩))
     (first|(go_at_call 279;refine (C _).mono ?_;rintro e w' ⟨rfl,z⟩))
    rename_i hH;have HH:=Zd (Zf HB hH.1);clear hH;go_wp2;go_roundw
    case rel=>exact⟨lo,m,rfl,by go_num,by omega,by omega,bb,Za HH⟩
    case measure=>simp[intOf];omega
  ·have e:lo=hi:=(by omega);subst e;have ek:k=lo:=(by rw[<-Za HK];exact Zcd HS p lo (by rw[Za HZ];exact ar) (λt Q h=>I.1 t Q h) (λt Q h=>I.2 t Q h));subst ek;have hf:=Ad (p:=p) HS;rw[Za HF,Za HK,Za HZ] at hf;by_cases be:k<n
   ·have br:k<L.length:=(by rw[Za HZ];exact be);have cb:(k:Int)<(n:Int):=(by omega);have bd:=CoinAt.kept _ _ _ _ _ (Zf ak hb) (HC k br);rw[cM br,Option.map_some] at hf;obtain⟨x,hx⟩:=ZF (L[k]);rw[hx] at bd hf;obtain⟨a,l,d,g1,g2,g3,g4,g5,g6,_,_⟩:=bd.val;obtain⟨ct,hz⟩:=ZF (Gc (pt x) p);have C:=Zd (λw=>Mf x a l d p ct w hz);unfold cnV at C;have hg:decide ((k:Int)<(n:Int))=true:=decide_eq_true cb
    have ay:Hid (f=decide (ct=0)):=by
     show _=_;rw[hf,decide_eq_true be,Bool.true_and,<-hz];exact decide_eq_decide.2 (by rw[bG,Zkz])
    clear bd hx hz hf hb I;by_cases ag:ct=0
    ·subst ag;have ah:Hid (f=true):=(by show _=_;rw[Za ay];rfl);clear ay;go_wp2_with fail
     go_region_held3 (λw'=>ZD wr w'/\w'.cell? ⟨w.heap.size,0,none⟩=some (E J p.1)/\w'.cell? ⟨w.heap.size,1,none⟩=some (E J p.2)/\w'.cell? ⟨b,off+k*6,none⟩=some (E J x.1)/\w'.cell? ⟨b,off+k*6+1,none⟩=some (E J x.2.1)/\w'.cell? ⟨b,off+k*6+2,none⟩=some (E J (cv x))/\w'.cell? ⟨b,off+k*6+3,none⟩=some (F a l d)/\w'.cell? ⟨b,off+k*6+4,none⟩=some (E J (ch x))/\w'.cell? ⟨b,off+k*6+5,none⟩=some (cV (cr x)))
      (first
      | exact⟨Zi _,m0,m1,g1,g2,g3,g4,g5,g6⟩
      | (go_split_ands;refine⟨Zf (by assumption) z,Ze z (by assumption),Ze z (by assumption),Ze z (by assumption),Ze z (by assumption),Ze z (by assumption),Ze z (by assumption),Ze z (by assumption),Ze z (by assumption)⟩))
      (first|(go_at_call 279;refine (C _).mono ?_;rintro e w' ⟨rfl,z⟩))
     rename_i hH;have HH:=Zd (Zf HB hH.1);clear hH;go_wp2;go_ret2;exact⟨by rw[Za ah];rfl,Zf ak HH⟩
    ·have ah:Hid (f=false):=(by show _=_;rw[Za ay];exact decide_eq_false ag);have gz:(ct == 0)=false:=(by simp[ag]);clear ay;go_wp2_with fail
     go_region_held3 (λw'=>ZD wr w'/\w'.cell? ⟨w.heap.size,0,none⟩=some (E J p.1)/\w'.cell? ⟨w.heap.size,1,none⟩=some (E J p.2)/\w'.cell? ⟨b,off+k*6,none⟩=some (E J x.1)/\w'.cell? ⟨b,off+k*6+1,none⟩=some (E J x.2.1)/\w'.cell? ⟨b,off+k*6+2,none⟩=some (E J (cv x))/\w'.cell? ⟨b,off+k*6+3,none⟩=some (F a l d)/\w'.cell? ⟨b,off+k*6+4,none⟩=some (E J (ch x))/\w'.cell? ⟨b,off+k*6+5,none⟩=some (cV (cr x)))
      (first
      | exact⟨Zi _,m0,m1,g1,g2,g3,g4,g5,g6⟩
      | (go_split_ands;refine⟨Zf (by assumption) z,Ze z (by assumption),Ze z (by assumption),Ze z (by assumption),Ze z (by assumption),Ze z (by assumption),Ze z (by assumption),Ze z (by assumption),Ze z (by assumption)⟩))
      (first|(go_at_call 279;refine (C _).mono ?_;rintro e w' ⟨rfl,z⟩))
     rename_i hH;have HH:=Zd (Zf HB hH.1);clear hH;go_wp2;go_ret2;exact⟨by rw[Za ah];rfl,Zf ak HH⟩
   ·have ah:Hid (f=false):=(by show _=_;rw[hf,decide_eq_false be,Bool.false_and]);have hg:decide ((k:Int)<(n:Int))=false:=decide_eq_false (by omega);clear hf hb I;go_wp2_with fail
    go_quiet (fail)
    go_wp2;go_ret2;exact⟨by rw[Za ah];rfl,Zf ak (Zf HB (Df _ _))⟩
theorem Zin(a c)(p:PtD)(v)(w:World) :
  ZH 278 #[F a 0 c,.agg #[E J p.1,E J p.2],v] w (cT #[E J 0,cV false]):=by
 have z:=Zd (Zh w (cR #[E J p.1,E J p.2] 117));go_enter func278,ntmps278;go_wp2;refine wp_loop_rounds 1 ?_;rw[rounds_succ];go_wp2_with fail
 go_quiet (fail)
 go_wp2;go_ret2;exact⟨rfl,Zf z (Df _ _)⟩
theorem Zld(a)(n c:Nat)(L)(p:PtD)(k:Nat)(f:Bool)(w:World)(hs:Srt L)(hn:n<=4611686018427387903)(h:CoinsAt w a n L)(Q:pos p L=k)(z:Ug p L=f) :
  ZH 278 #[F a n c,.agg #[E J p.1,E J p.2],.func (.func 279) #[] #[]] w (cT #[E J k,cV f]):=by
 obtain⟨hl,hc⟩:=h;by_cases h2:n=0
 ·subst h2;have e:L=[]:=aG.1 hl;subst e;subst Q z;exact Zin a c p _ w
 ·obtain⟨b,off,rfl,_,ac⟩:=hc (by omega);exact Zim b off n c L p k f w hs hn hl ac Q z
theorem J5(a)(n c:Nat)(L)(p:PtD)(k:Nat)(f:Bool)(w:World)(hs:Srt L)(hn:n<=4611686018427387903)(h:CoinsAt w a n L)(hk:pos p L=k)(hf:Ug p L=f) :
  ZH 250 #[F a n c,.agg #[E J p.1,E J p.2]] w (cT #[E J k,cV f]):=by
 have z:=Zh w (cR #[E J p.1,E J p.2] 117);have HB:=Zd z;have C:=Zd (Zld a n c L p k f _ hs hn (h.later z) hk hf);clear hs h hk hf z;go_enter func250,ntmps250;go_wp2_with fail;refine C.mono ?_;rintro e w2 ⟨rfl,Q⟩;have ae:=Zd (Zf HB Q);clear Q;go_wp2;go_ret2;exact⟨rfl,Za ae⟩
theorem Zo{fn:Func}{p u:Tmp}{ty:bO}(h:fn.results=#[.cell p ty,.tmp u])(tmps:Array Value)(P:Program)(w) :
  (results fn tmps).run P w =
   ((asAddr (tmps.getD p undef)).run P w).andThen λa z=>((loadVar ty a).run P z).andThen λx Q=>.ok (cT #[x,tmps.getD u undef]) Q:=by
 simp only[results,h];simp[Sem.run_bind,Result.andThen]
theorem Cd(w0 w:World)(p:Nat)(v)(K:List CV)(q:PtD)(h:Pu w0 w p v K)(hs:Srt (K.map (·.1)))(hn:K.length<=4096)(hf:Ug q (K.map (·.1))=false) :
  ZH 205 #[cU (some ⟨p,0,none⟩),.agg #[E J q.1,E J q.2]] w (cT #[zeroC,cV false]):=by
 obtain⟨a,c,rfl,hC,hS⟩:=h.coins;obtain⟨n,ak⟩:=ZF (K.length);obtain⟨k,hk⟩:=ZF (pos q (K.map (·.1)));have ae:=h.box;rw[ak] at hC ae hn;obtain⟨X,Q⟩:=ZG ((w.alloc (cR #[E J q.1,E J q.2] 117)).alloc (cR #[E J 0,E J 0,E J 0,F none 0 0,E J 0,cV false] 124));have aa:ZD w X:=by rw[Q];exact Zf (Zh _ _) (Zh _ _)
 have ag:X.heap[w.heap.size+1]? = some (cR zeroCs.toArray 124 (0,0)):=by
  rw[Q];have:=aJ (w.alloc (cR #[E J q.1,E J q.2] 117)) (cR zeroCs.toArray 124);rw[show (w.alloc (cR #[E J q.1,E J q.2] 117)).heap.size=w.heap.size+1 by simp] at this;exact this
 have x0:X.cell? ⟨w.heap.size,0,none⟩=some (E J q.1):=by rw[Q];exact Ze (Zh _ _) (Z5 w _ _ _).1
 have x1:X.cell? ⟨w.heap.size,1,none⟩=some (E J q.2):=by rw[Q];exact Ze (Zh _ _) (Z5 w _ _ _).2
 have xp:X.cell? ⟨p,0,none⟩=some (F a n c):=Ze aa (Zb (X:=[F a n c]) ae 0 _ rfl);have PL:=Zd (λw' (hb:ZD X w')=>J5 a n c (K.map (·.1)) q k false w' hs (by omega) ((hC.later aa).later hb) hk hf);have an:=Zd aa;have af:=Zd ag;clear hk hf hC hS hs ae aa ag h ak;go_enter func205,ntmps205;go_wp2_with fail;rw[<-Q];clear Q
 go_region_held3 (λw'=>ZD X w'/\w'.cell? ⟨w.heap.size,0,none⟩=some (E J q.1)/\w'.cell? ⟨w.heap.size,1,none⟩=some (E J q.2)/\w'.cell? ⟨p,0,none⟩=some (F a n c))
  (first
  | exact⟨Zi _,x0,x1,xp⟩
  | (go_split_ands;refine⟨Zf (by assumption) ab,Ze ab (by assumption),Ze ab (by assumption),Ze ab (by assumption)⟩))
  (first|(go_at_call 250;go_split_ands;refine (PL _ (by assumption)).mono ?_;rintro e w' ⟨rfl,ab⟩))
 rename_i hH;have z:=(hH.1.block _ (lt_of_block af)).trans af;have HB:=Zd (Zf an hH.1);have f0:=Zg z 0;have f1:=Zg z 1;have f2:=Zg z 2;have f3:=Zg z 3;have f4:=Zg z 4;have f5:=Zg z 5;have c0:=Zb z 0 _ rfl;have c1:=Zb z 1 _ rfl;have c2:=Zb z 2 _ rfl;have c3:=Zb z 3 _ rfl;have c4:=Zb z 4 _ rfl;have c5:=Zb z 5 _ rfl;clear z hH;go_wp2;(try simp only[Exit.inBlock,Exit.then]);refine aW (v:=cT #[zeroC,cV false]) ?_ rfl ⟨rfl,?_⟩
 ·rw[Zo rfl];unfold zeroC;go_simp
 ·exact (((((HB.setCell (Nat.le_succ _) _).setCell (Nat.le_succ _) _).setCell (Nat.le_succ _) _).setCell (Nat.le_succ _) _).setCell (Nat.le_succ _) _).setCell (Nat.le_succ _) _
theorem Va{w:World}{p:Nat}{v u}{t:bO}(h:w.heap[p]? = some (cR #[v] t (0,0))):(w.setCell ⟨p,0,none⟩ u).heap[p]? = some (cR #[u] t (0,0)):=by
 rw[setCell_eq_setRow w p 0 #[v] t (0,0) u h];exact setRow_heap w p _ _ t _ h
theorem Zki(K:List CV)(k:Nat)(h:k<K.length):(K.map (·.1))[k]'(by simpa using h)=K[k].1:=by simp
theorem Uc(w:World)(a b c d e f)(t:bO):(w.alloc (cR #[a,b,c,d,e,f] t)).heap[w.heap.size]? = some (cR [a,b,c,d,e,f].toArray t (0,0)):=aJ w _
theorem Cb(w0 w)(p:Nat)(v:Value)(K:List CV)(q:PtD)(h:Pu w0 w p v K)(hs:Srt (K.map (·.1)))(hn:K.length<=4096)(hf:Ug q (K.map (·.1))=true) :
  Calls aA 205 #[cU (some ⟨p,0,none⟩),.agg #[E J q.1,E J q.2]] w λe w'=>∃ (x:CV) (v':Value) (K':List CV),e = cS (cT #[cnV x.1 x.2.1 x.2.2.1 x.2.2.2,cV true])/\Um q (K.map (·.1))=some (x.1,K'.map (·.1))/\x∈K/\(∀ y∈K',y∈K)/\K'.length+1=K.length /\
   Pu w0 w' p v' K'/\Gr w w' (PuS p v)/\v'.ownBlock=v.ownBlock:=by
 have hO:=h.own;obtain⟨k,z⟩:=ZF (pos q (K.map (·.1)));have hp:=Ad (p:=q) hs;rw[hf,z] at hp;have cb:=Eq.symm hp;rw[Bool.and_eq_true,decide_eq_true_eq,decide_eq_true_eq,List.length_map] at cb;obtain⟨ab,bi⟩:=cb
 have bz:pt ((K.map (·.1))[k]'(by simpa using ab))=q:=by
  rw[cM (by simpa using ab),Option.map_some,bG] at bi;exact bi
 have hT:=Zfg (p:=q) hs (by rw[z];simpa using ab) (by simp only[z];exact bz);simp only[z] at hT;rw[Zki K k ab,<-List.map_take,<-List.map_drop,<-List.map_append] at hT;obtain⟨a,c,rfl,hC,hS⟩:=h.coins
 obtain⟨g,rfl⟩:∃ g,a=some ⟨g,0,none⟩:=by
  rcases hO.2 with ⟨_,e⟩|⟨g,_,_,e,_⟩
  ·omega
  ·simp only[cO] at e;exact⟨g,e.1⟩
 obtain⟨n,bj⟩:=ZF (K.length);have aq:=h.box;have bg:g≠p:=λe=>h.ne (by rw[e];rfl);have dm:w0.heap.size<=g:=Xj hO g rfl;obtain⟨x,hx⟩:=ZF (K[k]);have cc:x∈K:=by rw[<-hx];exact List.getElem_mem ab
 obtain⟨f0,f1,f2,f3,f4,f5⟩:=Tz K k ab;rw[hx] at f0 f1 f2 f3 f4 f5 hT;rw[bj] at hC aq hn ab hO;have cg:∀ j u,j<n*6->(Zm K)[j]? = some u->w.cell? ⟨g,j,none⟩=some u:=λj u hj hu=>by rw[World.ownsRow.cellAt hO j hj];exact hu
 obtain⟨X,hX⟩:=ZG ((w.alloc (cR #[E J q.1,E J q.2] 117)).alloc (cR #[E J 0,E J 0,E J 0,F none 0 0,E J 0,cV false] 124));have ap:ZD w X:=by rw[hX];exact Zf (Zh _ _) (Zh _ _)
 have bx:X.heap[w.heap.size+1]? = some (cR zeroCs.toArray 124 (0,0)):=by
  rw[hX];have:=aJ (w.alloc (cR #[E J q.1,E J q.2] 117)) (cR zeroCs.toArray 124);rw[show (w.alloc (cR #[E J q.1,E J q.2] 117)).heap.size=w.heap.size+1 by simp] at this;exact this
 have x0:X.cell? ⟨w.heap.size,0,none⟩=some (E J q.1):=by rw[hX];exact Ze (Zh _ _) (Z5 w _ _ _).1
 have x1:X.cell? ⟨w.heap.size,1,none⟩=some (E J q.2):=by rw[hX];exact Ze (Zh _ _) (Z5 w _ _ _).2
 have xp:X.cell? ⟨p,0,none⟩=some (F (some ⟨g,0,none⟩) n c):=Ze ap (Zb (X:=[F (some ⟨g,0,none⟩) n c]) aq 0 _ rfl);have PL:=Zd (λw' (hb:ZD X w')=>J5 (some ⟨g,0,none⟩) n c (K.map (·.1)) q k true w' hs (by omega) ((hC.later ap).later hb) z hf);have D0:=Zd (cg _ _ (by omega) f0);have D1:=Zd (cg _ _ (by omega) f1);have D2:=Zd (cg _ _ (by omega) f2);have D3:=Zd (cg _ _ (by omega) f3);have D4:=Zd (cg _ _ (by omega) f4);have D5:=Zd (cg _ _ (by omega) f5);have cw:=Zd ap;have bt:=Zd bx;have HO:=Zd hO;have HT:=Zd hT;have HP:=Zd h;have cu:=Zd aq;have dc:=Zd cc;have av:=Zd bj;have dr:p<w.heap.size:=h.lt;have dz:g<w.heap.size:=(hO.lt g rfl).2;clear z hf hC hS hs aq ap bx h hO hT bi bz hp f0 f1 f2 f3 f4 f5 cg hx cc bj;go_enter func205,ntmps205;go_wp2_with fail;rw[<-hX];clear hX
 go_region_held3 (λw'=>ZD X w'/\w'.cell? ⟨w.heap.size,0,none⟩=some (E J q.1)/\w'.cell? ⟨w.heap.size,1,none⟩=some (E J q.2)/\w'.cell? ⟨p,0,none⟩=some (F (some ⟨g,0,none⟩) n c))
  (first
  | exact⟨Zi _,x0,x1,xp⟩
  | (go_split_ands;refine⟨Zf (by assumption) aj,Ze aj (by assumption),Ze aj (by assumption),Ze aj (by assumption)⟩))
  (first|(go_at_call 250;go_split_ands;refine (PL _ (by assumption)).mono ?_;rintro e w' ⟨rfl,aj⟩))
 rename_i hH;have aa:=Zf cw hH.1;have bh:=(hH.1.block _ (lt_of_block bt)).trans bt;have d0:=Ze aa D0;have d1:=Ze aa D1;have d2:=Ze aa D2;have d3:=Ze aa D3;have d4:=Ze aa D4;have d5:=Ze aa D5;have bk:=hH.2.2.2;have ed:=aD _ _ bk;have ea:(k:Int)<(n:Int):=by omega
 have eg:IntKind.i64.wrap ((k:Int)+1)=(k:Int)+1:=by rw[bI];omega
 obtain⟨Y,hY⟩:=ZG (w'.alloc (cR #[E J x.1.1,E J x.1.2.1,E J (cv x.1),.slice x.2.1 x.2.2.1 x.2.2.2,E J (ch x.1),cV (cr x.1)] 124));have ah:ZD w' Y:=by rw[hY];exact Zh _ _
 have hy:Y.heap[w'.heap.size]? = some (cR [E J x.1.1,E J x.1.2.1,E J (cv x.1),.slice x.2.1 x.2.2.1 x.2.2.2,E J (ch x.1),cV (cr x.1)].toArray 124 (0,0)):=by rw[hY];exact Uc _ _ _ _ _ _ _ _
 have bv:Y.ownsRow w0.heap.size 124 6 (F (some ⟨g,0,none⟩) n c) n (Zm K):=(Gr.of (S:=λ_=>False) (Zf aa ah)).own HO (λ_ _ q=>q);have au:=Ln w0.heap.size g n c k (k+1) K Y ab rfl av bv;rw[show ((k+1:Nat):Int)=(k:Int)+1 by omega] at au;have cx:=Zd au;have yp:=Ze ah bk;have ee:=aD _ _ yp;have bq:=Zd (Zf aa ah);have br:=Zd (ZE ah bh);have bu:=Zd hy;have ef:w.heap.size+1<w'.heap.size:=lt_of_block bh;clear hH aj aa bh xp x0 x1 ah hy bv au;go_wp2_with fail;rw[<-hY];clear hY;go_wp2_with fail;refine cx.mono ?_;rintro e w4 ⟨rfl,ca,ak⟩;have al:=(ak.block p (by omega) (by simp;exact λe=>bg e.symm)).trans ((bq.block p dr).trans cu);have Q:=(ak.block (w.heap.size+1) (lt_of_block br) (by simp;omega)).trans br;have ac:=(ak.block w'.heap.size (lt_of_block bu) (by simp;omega)).trans bu;have p4:=Zb (X:=[F (some ⟨g,0,none⟩) n c]) al 0 _ rfl;have en:=Zg al 0;have e0:=Zb ac 0 _ rfl;have e1:=Zb ac 1 _ rfl;have e2:=Zb ac 2 _ rfl;have e3:=Zb ac 3 _ rfl;have e4:=Zb ac 4 _ rfl;have e5:=Zb ac 5 _ rfl;have z0:=Zb Q 0 _ rfl;have z1:=Zb Q 1 _ rfl;have z2:=Zb Q 2 _ rfl;have z3:=Zb Q 3 _ rfl;have z4:=Zb Q 4 _ rfl;have z5:=Zb Q 5 _ rfl;have y0:=Zg Q 0;have y1:=Zg Q 1;have y2:=Zg Q 2;have y3:=Zg Q 3;have y4:=Zg Q 4;have y5:=Zg Q 5;have n1:¬(w'.heap.size=p):=by omega
 have n2:¬(p=w'.heap.size):=by omega
 have n3:¬(w.heap.size+1=p):=by omega
 have n4:¬(p=w.heap.size+1):=by omega
 have n5:¬(w'.heap.size=w.heap.size+1):=by omega
 have n6:¬(w.heap.size+1=w'.heap.size):=by omega
 have GA:Hid (Gr w w4 (PuS p (F (some ⟨g,0,none⟩) n c))):=(Gr.of bq).grown ak (λk z=>.inl (.inr z))
 have GS:Hid (∀ k,PuS p (F (some ⟨g,0,none⟩) n c) k->w0.heap.size<=k):=λk z=>by
  rcases z with rfl|z
  ·exact HP.ge
  ·cases z;exact dm
 have GO:Hid (∀ k,(aY (some ⟨g,0,none⟩) (n - 1) c).ownBlock=some k->¬(k=p\/k=w.heap.size+1)):=λk z=>by
  cases z;rintro (e|e)
  ·exact bg e
  ·have e2:g=w.heap.size+1:=e;omega
 have cz:=Zd ca;have da:=Zd al;have eb:=lt_of_block ac;have ec:p<w4.heap.size:=lt_of_block al;clear ak ca al Q ac d0 d1 d2 d3 d4 d5 yp bk;go_wp2;(try simp only[Exit.inBlock,Exit.then]);refine aW (v:=cT #[cnV x.1 x.2.1 x.2.2.1 x.2.2.2,cV true]) ?_ rfl ⟨x,F (some ⟨g,0,none⟩) (n - 1) c,K.take k++K.drop (k+1),rfl,Za HT,Za dc,?_,?_,?_,?_,rfl⟩
 ·rw[Zo rfl];unfold cnV;go_simp
 ·exact λy hy=>(List.mem_append.1 hy).elim List.mem_of_mem_take List.mem_of_mem_drop
 ·have:=Za av;simp only[bH,bJ,List.length_drop];omega
 ·have hl:(K.take k++K.drop (k+1)).length=n - 1:=by
   have:=Za av;simp only[bH,bJ,List.length_drop];omega
  have hp:=Za HP;refine⟨?_,hp.ge,?_,?_,λe=>bg (by cases e;rfl),λy hy=>hp.lk y ((List.mem_append.1 hy).elim List.mem_of_mem_take List.mem_of_mem_drop)⟩
  ·exact ((GA.one p 0 (.inl (.inl rfl)) _).six (w.heap.size+1) (.inr (Nat.le_succ _)) _ _ _ _ _ _).below hp.bel hp.bel.size GS
  ·exact ((Gr.refl _ (λk=>k=w.heap.size+1)).six (w.heap.size+1) (.inl rfl) _ _ _ _ _ _).heap (Va da) n4
  ·rw[hl];exact (((Gr.refl w4 (λk=>k=p\/k=w.heap.size+1)).one p 0 (.inl (.inl rfl)) _).six (w.heap.size+1) (.inl (.inr rfl)) _ _ _ _ _ _).own cz GO
 ·exact (GA.one p 0 (.inl (.inl rfl)) _).six (w.heap.size+1) (.inr (Nat.le_succ _)) _ _ _ _ _ _
