import Derived.Test.YtpikejjiignchaaGreatDoorH
import Derived.Test.YtpikejjiignchaaGreatDoorG4
open Go.Proofs.Tryz
open Go renaming TypeId->bO,heap_alloc_new->aK,maxLen->cD,setRow_other->cT,lt_of_block->aA
open Go.Addr renaming add_lit->cO
open Go.Ending renaming returned->dX
open Go.IntKind renaming wrap_i64->bF,i64->J
open Go.Obj renaming cells->dW
open Go.Proofs.Tryz renaming prog->aB,underlying29->bR
open Go.Value renaming int->E,slice->F,tuple->dY,pointer->dZ,bool->eA
open Go.Value.slice renaming injEq->cZ
open Go.World renaming cell?->dI
open List renaming length_eq_zero_iff->aJ,append_assoc->cV,take_append_of_le_length->cQ,take_of_length_le->aY,length_append->bB,getElem?_eq_some_iff->cU,length_take->bG,mem_filter->dO
open Nat renaming le_refl->aE,zero_le->aP,le_trans->aT,lt_of_lt_of_le->aI
open Option.some renaming injEq->bE
set_option maxHeartbeats 6400000
set_option maxRecDepth 10000
namespace Go.Proofs.YtpikejjiignchaaGreatDoor
open Go.RowKit
def zeroC:Value:=.agg #[E J 0,E J 0,E J 0,F none 0 0,E J 0,eA false]
theorem Tryz.infoCoin:(Tryz.prog.info? 103).map (λi=>(i.zero,i.size,i.bytes))=some (some zeroC,6,64):=by kernel_rfl
theorem Y6{w:World}{base:Nat}{e:bO}{size:Nat}{v:Value}{n:Nat}{xs}(h:w.ownsRow base e size v n xs)(k:Nat)(z:v.ownBlock=some k):base<=k:=by
 rcases h.2 with ⟨rfl,_⟩|⟨g,cap,aa,rfl,O,_⟩
 ·cases z
 ·cases z;exact O
theorem Jf(w:World)(e:bO)(size:Nat):(w.alloc (dW #[] e)).ownsRow w.heap.size e size (F (some ⟨w.heap.size,0,none⟩) 0 0) 0 []:=
 ⟨by simp,.inr ⟨w.heap.size,0,#[],rfl,aE _,aK w _,aE _,aP _,by simp,by simp⟩⟩
theorem Jo(w):Calls aB 88 #[F none 0 0] w λe w'=>e = dX (F none 0 0)/\w=w':=by
 have z:=λw=>Lib.run_eql_slice_nil (P:=aB) w 29 103 none 0 0 0 0 bR;go_enter func88,ntmps88;go_wp2;go_ret;exact⟨rfl,rfl⟩
theorem U5(z:Addr)(n c:Nat)(K:List CV)(w:World)(hn:n<=2199023255552)(hz:K.length=n)(hc:∀ j u,(Zk K)[j]? = some u->w.cell? (z.add j)=some u) :
  Calls aB 88 #[F (some z) n c] w λe w'=>∃ v,e = dX v/\w'.ownsRow w.heap.size 103 6 v n (Zk K)/\ZD w w':=by
 obtain⟨i0,hi,al,am,an⟩:=info_parts Tryz.infoCoin;have hb:=Zg w (dW #[] 103);have HC:Hid (∀ j u,(Zk K)[j]? = some u->(w.alloc (dW #[] 103)).cell? (z.add j)=some u):=λj u hj=>Zc hb (hc j u hj);have O:=Zb hb;have HZ:=Zb hz;have HO:=Zb (Jf w 103 6);have he:=λw=>Lib.run_eql_slice_nil (P:=aB) w 29 103 (some z) n c 0 0 bR;clear hc hb hz;go_enter func88,ntmps88
 go_wp2_with (at_builtin;refine wpList_append_own _ rfl _ _ 29 rfl w.heap.size 103 i0 zeroC 6 64 bR hi al am an rfl (by decide) _ _ _ rfl HO z n c (Zk K) rfl (by rw[Z9,Za HZ]) HC (Xs K) (by unfold cD;omega) (by omega) O.size ?_;intro v2 w3 ae ad _)
 have HW:Hid (w3.ownsRow w.heap.size 103 6 v2 n (Zk K)):=by show World.ownsRow _ _ _ _ _ _ _;simpa using ae
 have ag:=Zb (O.grown ad O.size (Y6 HO));clear ae ad;go_wp2;go_ret;exact⟨v2,rfl,Za HW,Za ag⟩
theorem Q5(z:Addr)(n c:Nat)(K:List CV)(w:World)(hn:n<=4096)(hz:K.length=n)(O:∀ j u,(Zk K)[j]? = some u->w.cell? (z.add j)=some u) :
  Calls aB 88 #[F (some z) n c] w λe w'=>∃ v,e = dX v/\w'.ownsRow w.heap.size 103 6 v n (Zk K)/\ZD w w':=
 U5 z n c K w (aT hn (by decide)) hz O
theorem Ts(a)(n c:Nat)(L)(w:World)(hn:n<=2199023255552)(h:CoinsAt w a n L)(hs:SlOk a n c) :
  Calls aB 88 #[F a n c] w λe w'=>∃ v,∃ K:List CV,e = dX v/\K.map (·.1)=L/\(∀ x∈K,LkAt w x)/\w'.ownsRow w.heap.size 103 6 v K.length (Zk K)/\ZD w w':=by
 obtain⟨O,hc⟩:=h;cases a with
 | none=>
  obtain⟨rfl,rfl⟩:=hs.2.2 rfl;have e:L=[]:=aJ.1 O;subst e;exact (Jo w).mono λe w' ⟨x,y⟩=>⟨_,[],x,rfl,λ_ hx=>(by cases hx),y ▸ ⟨rfl,.inl ⟨rfl,rfl⟩⟩,y ▸ Below.refl _ _⟩
 | some ad=>
  by_cases h0:n=0
  ·subst h0;have e:L=[]:=aJ.1 O;subst e;exact (U5 ad 0 c [] w hn rfl (λj u z=>by simp[Zk] at z)).mono λe w' ⟨v,x,y,ai⟩=>⟨v,[],x,rfl,λ_ hx=>(by cases hx),y,ai⟩
  ·obtain⟨b,off,e,_,ag⟩:=hc (by omega);obtain⟨rfl⟩:=e;obtain⟨K,h1,h2,h3⟩:=Qx ag;have hk:K.length=n:=(by rw[<-O,<-h1,List.length_map]);exact (U5 ⟨b,off,none⟩ n c K w hn hk (λj u z=>by rw[cO];exact h3 j u z)).mono λe w' ⟨v,x,y,ai⟩=>⟨v,K,x,h1,h2,by rw[hk];exact y,ai⟩
theorem Fm(a)(n c:Nat)(L)(w:World)(z:n<=4096)(h:CoinsAt w a n L)(O:SlOk a n c) :
  Calls aB 88 #[F a n c] w λe w'=>∃ v,∃ K:List CV,e = dX v/\K.map (·.1)=L/\(∀ x∈K,LkAt w x)/\w'.ownsRow w.heap.size 103 6 v K.length (Zk K)/\ZD w w':=
 Ts a n c L w (aT z (by decide)) h O
theorem Tryz.zeroCoin(w):(zeroValue 103).run aB w = .ok zeroC w:=by
 obtain⟨O,hi,z,_,_⟩:=info_parts Tryz.infoCoin;simp[zeroValue,typeInfo,hi,z]
def zeroCs:List Value:=[E J 0,E J 0,E J 0,F none 0 0,E J 0,eA false]
theorem Zjh:(Builtin.zeroCells zeroC.cells 1).toList=zeroCs:=by kernel_rfl
theorem Zcs:∀ v∈zeroCs,v.oneCell'=true:=by
 intro v z;simp only[zeroCs,List.mem_cons,List.not_mem_nil,or_false] at z
 rcases z with rfl|rfl|rfl|rfl|rfl|rfl <;> rfl
theorem Zmt(X Z:List Value)(i n:Nat)(hi:i<n)(O:n*6<=X.length) :
  (laid (laid X (i*6) ((X.take (n*6)).drop ((i+1)*6))) ((n - 1)*6) Z).take ((n - 1)*6)=(X.take (n*6)).take (i*6)++(X.take (n*6)).drop ((i+1)*6):=by
 have z:((X.take (n*6)).drop ((i+1)*6)).length=(n - 1)*6 - i*6:=by simp;omega
 unfold laid;rw[cV,cQ (by simp;omega),aY (by simp;omega)];rw[z,show i*6+((n - 1)*6 - i*6)=(n - 1)*6 by omega,cQ (by rw[bB,z];simp;omega),aY (by rw[bB,z];simp;omega),List.take_take,Nat.min_eq_left (by omega)]
theorem Ss(base g n c i j:Nat)(K:List CV)(w:World)(hi:i<n)(hj:j=i+1)(hz:K.length=n)(h:w.ownsRow base 103 6 (F (some ⟨g,0,none⟩) n c) n (Zk K)) :
  Calls aB 136 #[F (some ⟨g,0,none⟩) n c,E J i,E J j] w λe w'=>e = dX (F (some ⟨g,0,none⟩) (n - 1) c)/\w'.ownsRow base 103 6 (F (some ⟨g,0,none⟩) (n - 1) c) (n - 1) (Zk (K.take i++K.drop (i+1)))/\w.grownBy w' (some g):=by
 obtain⟨i0,ax,bu,bb,bv⟩:=info_parts Tryz.infoCoin;obtain⟨ay,h|⟨g',c',z,hv,aw,hh,h1,h2,h3,h4⟩⟩:=h
 ·cases h.1
 simp only[cZ,bE,Addr.mk.injEq,and_true,true_and] at hv;obtain⟨rfl,rfl⟩:=hv;unfold cD at h2;have ag:z.toList.length=c*6:=by simpa using h3
 obtain⟨news,ab⟩:=ZG ((z.toList.take (n*6)).drop ((i+1)*6));have ac:news.length=(n - j)*6:=by rw[ab];simp;omega
 have am:∀ u∈news,u.oneCell'=true:=λu hu=>by
  rw[ab,h4] at hu;exact Xs K u (List.mem_of_mem_drop hu)
 obtain⟨A,hA,az⟩:∃ A:Addr,(if c=j then some (⟨g,0,none⟩:Addr) else some ⟨g,j*6,none⟩)=some A/\Hid (∀ t u,news[t]? = some u->w.drew.cell? (A.add t)=some u):=by
  by_cases hc:c=j
  ·refine⟨⟨g,0,none⟩,by simp[hc],λt u hu=>?_⟩;have h0:news.length=0:=(by rw[ac];omega);rw[aJ.1 h0] at hu;simp at hu
  ·refine⟨⟨g,j*6,none⟩,by simp[hc],λt u hu=>?_⟩;have ht:t<(n - j)*6:=(by rw[<-ac];exact (cU.1 hu).1);rw[ab,List.getElem?_drop,List.getElem?_take_of_lt (by omega)] at hu;rw[cO];show w.cell? _=_;simp only[dI,hh];rw[<-hu,<-hj];simp
 have h5:i*6+news.length<=z.size:=by rw[ac,h3];omega
 obtain⟨O,ad⟩:=ZG (w.drew.setRow g (laid z.toList (i*6) news).toArray);have ah:O.heap[g]? = some (dW (laid z.toList (i*6) news).toArray 103 (0,0)):=by rw[ad];exact setRow_heap w.drew g z _ 103 (0,0) hh
 have af:(laid z.toList (i*6) news).length=c*6:=by rw[Qv _ _ _ (by simpa using h5),ag]
 have aj:∀ ty d,(Builtin.clear_ #[29] ty #[F (some ⟨g,(n - 1)*6,none⟩) 1 d]).run aB O = .ok (dY #[]) (O.setRow g (laid (laid z.toList (i*6) news) ((n - 1)*6) zeroCs).toArray):=λty d=>by
  have:=Ms (P:=aB) O 29 103 ty zeroC bR Tryz.zeroCoin g ((n - 1)*6) 1 d 6 (laid z.toList (i*6) news).toArray 103 zeroCs (by decide) Zjh ah rfl (by simp[af];omega) Zcs;simpa using this
 have bs:i+(n - j)=n - 1:=by omega
 have R:Hid (O.setRow g (laid (laid z.toList (i*6) news) ((n - 1)*6) zeroCs).toArray |>.ownsRow base 103 6 (F (some ⟨g,0,none⟩) (n - 1) c) (n - 1) (Zk (K.take i++K.drop (i+1)))):=by
  refine⟨by rw[Z9];simp;omega,.inr ⟨g,c,(laid (laid z.toList (i*6) news) ((n - 1)*6) zeroCs).toArray,rfl,aw,setRow_heap _ g _ _ 103 (0,0) ah,by omega,by unfold cD;omega,?_,?_⟩⟩
  ·rw[List.size_toArray,Qv _ _ _ (by rw[af];simp[zeroCs];omega),af]
  ·rw[ab];show List.take _ (laid _ _ _)=_;rw[Zmt z.toList zeroCs i n hi (by rw[ag];omega),h4,Z0,Uk,Ul]
 have G:Hid (w.grownBy (O.setRow g (laid (laid z.toList (i*6) news) ((n - 1)*6) zeroCs).toArray) (some g)):=by
  have e:O.setRow g (laid (laid z.toList (i*6) news) ((n - 1)*6) zeroCs).toArray=w.drew.setRow g (laid (laid z.toList (i*6) news) ((n - 1)*6) zeroCs).toArray:=by rw[ad,setRow_setRow]
  rw[e];refine⟨rfl,rfl,rfl,by simp[World.setRow],λk hk al=>?_⟩;exact cT w.drew g k _ (λe=>al (by rw[e]))
 have ao:=Zb aj;have HW:=Zb ad;have aq:=Zb am;have ar:=Zb ac;have au:=Zb hh;have av:=Zb h5;have bh:i<=c:=by omega
 have bk:j<=c:=by omega
 have bn:j<=n:=by omega
 have bi:¬(i=j):=by omega
 have al:¬(c=i+(n - j)):=by omega
 have bq:i+(n - j)<=n:=by omega
 have br:(i:Int)+((n - j:Nat):Int)<=(n:Int):=by omega
 have bj:((i:Int) == (j:Int))=false:=by simp;omega
 clear aj ad am ac hh h5 ah af ab h3 h4 ay ag hj hz;go_enter func136,ntmps136;go_wp2_with fail
 go_region_law (refine Pc rfl (.tmp 22) (.tmp 25) 29 rfl 103 i0 6 bR ax bb g i c (by simp[Act.eval,Act.put]) A (n - j) (c - j) news (by simp[Act.eval,Act.put]) ar az aq (by omega) z 103 au av ?_;rw[<-Za HW])
 have bg:∀ ty d,(Builtin.clear_ #[29] ty #[F (some ⟨g,(n - 1)*6,none⟩) (n - (n - 1)) d]).run aB O = .ok (dY #[]) (O.setRow g (laid (laid z.toList (i*6) news) ((n - 1)*6) zeroCs).toArray):=λty d=>by
  rw[show n - (n - 1)=1 by omega];exact ao ty d
 go_wp2;go_ret;exact⟨rfl,Za R,Za G⟩
theorem Yl(y:CV):(Zk [y]).length=6:=Z9 [y]
theorem U1{w:World}{b:Nat}{X:List Value}{t:bO}(h:w.heap[b]? = some (dW X.toArray t (0,0)))(j:Nat)(u)(z:X[j]? = some u):w.cell? ⟨b,j,none⟩=some u:=by
 simp only[dI,h];simpa using z
theorem Qw(z)(n c O:Nat)(K:List CV)(y:CV)(w:World)(hn:n<=4096)(ay:n<=c)(aq:c<n+1)(hz:K.length=n)(ac:z=none->n=0/\c=0)
  (hc:∀ b,z=some b->∀ j u,(Zk K)[j]? = some u->w.cell? (b.add j)=some u) (hv:w.heap[O]? = some (dW (Zk [y]).toArray 103 (0,0))) :
  Calls aB 197 #[F z n c,E J n,F (some ⟨O,0,none⟩) 1 1] w λe w'=>∃ v',e = dX v'/\w'.ownsRow w.heap.size 103 6 v' (n+1) (Zk (K++[y]))/\w.grownBy w' none:=by
 obtain⟨i0,ao,ar,au,av⟩:=info_parts Tryz.infoCoin;have HC:=Zb hc;have HZ:Hid ((Zk K).length=n*6):=by show _=_;rw[Z9,hz]
 have HN:=Zb ac
 have HV:Hid (∀ j u,(Zk [y])[j]? = some u->w.cell? ((⟨O,0,none⟩:Addr).add j)=some u):=λj u hj=>by
  rw[cO,Nat.zero_add];exact U1 hv j u hj
 have H1:Hid ((Zk [y]).length=1*6):=Yl y;clear hc hz ac hv;go_enter func197,ntmps197
 go_wp2_with (at_builtin;refine wpList_append_grows _ rfl _ _ 29 rfl 103 i0 zeroC 6 64 bR ao ar au av rfl (by decide) z n c (Zk K) rfl HN HZ HC ⟨O,0,none⟩ 1 1 (Zk [y]) rfl H1 HV (Xs [y]) aq (by unfold cD;omega) (by omega) ?_;intro v2 w3 ad ab)
 have HW:Hid (w3.ownsRow w.heap.size 103 6 v2 (n+1) (Zk (K++[y]))):=by rw[Z0];exact ad
 have HG:=Zb ab;clear ad ab;go_wp2;go_ret;exact⟨v2,rfl,Za HW,Za HG⟩
theorem Gb{P:Program}(w:World)(t ty e:bO)(i:TypeInfo)(size:Nat)(h1:P.underlying t=some (.slice e))(h2:P.info? e=some i)(h4:i.size=size)
  (b n cap:Nat) (O:Addr) (m c:Nat) (news:List Value) (hn:news.length=m*size) (hc:∀ j u,news[j]? = some u->w.cell? (O.add j)=some u) (ac:∀ u∈news,u.oneCell'=true)
  (ah:n+m<=cap) (z:Array Value) (te:bO) (ai:w.heap[b]? = some (dW z te (0,0))) (af:n*size+news.length<=z.size) :
  (Builtin.append_ #[t,t] ty #[F (some ⟨b,0,none⟩) n cap,F (some O) m c]).run P w = .ok (F (some ⟨b,0,none⟩) (n+m) cap) (w.setRow b (laid z.toList (n*size) news).toArray):=by
 subst h4;have ae:=run_firstCells_some (P:=P) w i.size m O m c news hn hc;have aa:=run_storeCells_at P b (n*i.size) te news 0 z w ai (by simpa using af) ac;simp only[Nat.add_zero] at aa;simp[Builtin.append_,run_underlying h1,sizeOf,typeInfo,h2,Builtin.lenOf,ah,ae,cO,aa,laid]
theorem Zot(X Y:List Value)(n c:Nat)(h:n+1<=c)(z:X.length=c*6)(O:Y.length=6):(laid X (n*6) Y).take ((n+1)*6)=X.take (n*6)++Y:=by
 unfold laid;rw[cQ (by simp;omega),aY (by simp;omega)]
theorem Nz(base g n c vb:Nat)(K:List CV)(y:CV)(w:World)(ac:n+1<=c)(hz:K.length=n)(h:w.ownsRow base 103 6 (F (some ⟨g,0,none⟩) n c) n (Zk K))(hv:w.heap[vb]? = some (dW (Zk [y]).toArray 103 (0,0))) :
  Calls aB 197 #[F (some ⟨g,0,none⟩) n c,E J n,F (some ⟨vb,0,none⟩) 1 1] w λe w'=>e = dX (F (some ⟨g,0,none⟩) (n+1) c)/\w'.ownsRow base 103 6 (F (some ⟨g,0,none⟩) (n+1) c) (n+1) (Zk (K++[y]))/\w.grownBy w' (some g):=by
 obtain⟨i0,ah,ar,am,au⟩:=info_parts Tryz.infoCoin;obtain⟨aj,h|⟨g',c',z,ae,ag,hh,h1,h2,h3,h4⟩⟩:=h
 ·cases h.1
 simp only[cZ,bE,Addr.mk.injEq,and_true,true_and] at ae;obtain⟨rfl,rfl⟩:=ae;unfold cD at h2;have O:z.toList.length=c*6:=by simpa using h3
 have HR:Hid (∀ ty,(Builtin.append_ #[29,29] ty #[F (some ⟨g,0,none⟩) n c,F (some ⟨vb,0,none⟩) 1 1]).run aB w = .ok (F (some ⟨g,0,none⟩) (n+1) c) (w.setRow g (laid z.toList (n*6) (Zk [y])).toArray)):=λty=>
  Gb w 29 ty 103 i0 6 bR ah am g n c ⟨vb,0,none⟩ 1 1 (Zk [y]) (Yl y) (λj u hj=>by rw[cO,Nat.zero_add];exact U1 hv j u hj) (Xs [y]) ac z 103 hh (by rw[Yl,h3];omega)
 have R:Hid ((w.setRow g (laid z.toList (n*6) (Zk [y])).toArray).ownsRow base 103 6 (F (some ⟨g,0,none⟩) (n+1) c) (n+1) (Zk (K++[y]))):=by
  refine⟨by rw[Z9];simp;omega,.inr ⟨g,c,(laid z.toList (n*6) (Zk [y])).toArray,rfl,ag,setRow_heap _ g _ _ 103 (0,0) hh,ac,by unfold cD;omega,?_,?_⟩⟩
  ·rw[List.size_toArray,Qv _ _ _ (by rw[O,Yl];omega),O]
  ·show List.take _ (laid _ _ _)=_;rw[Zot _ _ n c ac O (Yl y),h4,Z0]
 have G:Hid (w.grownBy (w.setRow g (laid z.toList (n*6) (Zk [y])).toArray) (some g)):=
  ⟨rfl,rfl,rfl,by simp[World.setRow],λk hk ak=>cT w g k _ (λe=>ak (by rw[e]))⟩
 clear hh h3 h4 aj O hz hv;go_enter func197,ntmps197
 go_wp2_with (at_builtin;refine U7 _ rfl _ _ 29 29 rfl _ _ rfl rfl (HR _) ?_)
 go_wp2;go_ret;exact⟨rfl,Za R,Za G⟩
theorem Zos(X Y:List Value)(i n c:Nat)(hi:i<n)(h:n+1<=c)(hX:X.length=c*6)(O:Y.length=6) :
  (laid (laid X ((i+1)*6) ((X.take (n*6)).drop (i*6))) (i*6) Y).take ((n+1)*6)=(X.take (n*6)).take (i*6)++(Y++(X.take (n*6)).drop (i*6)):=by
 have z:((X.take (n*6)).drop (i*6)).length=n*6 - i*6:=by simp;omega
 obtain⟨Z,hZ⟩:=ZG ((X.take (n*6)).drop (i*6));rw[<-hZ] at z ⊢
 have e2:(laid X ((i+1)*6) Z).take (i*6)=X.take (i*6):=by
  unfold laid;rw[cV,cQ (by simp;omega),List.take_take,Nat.min_eq_left (by omega)]
 have e3:(laid X ((i+1)*6) Z).drop (i*6+6)=Z++X.drop ((i+1)*6+Z.length):=by
  unfold laid;rw[cV,show i*6+6=(i+1)*6 by omega,List.drop_append_of_le_length (by simp;omega),List.drop_of_length_le (by rw[bG];omega),List.nil_append]
 rw[show laid (laid X ((i+1)*6) Z) (i*6) Y=X.take (i*6)++Y++(Z++X.drop ((i+1)*6+Z.length)) by unfold laid at e2 e3 ⊢;rw[O,e2,e3]];rw[<-cV,cQ (by simp[z,O];omega),aY (by simp[z,O];omega),List.take_take,Nat.min_eq_left (by omega),cV]
theorem Ar(K:List CV)(y:CV)(i:Nat):Zk (K.take i++y :: K.drop i)=(Zk K).take (i*6)++(Zk [y]++(Zk K).drop (i*6)):=by
 rw[Uk,Ul,Z0,show y :: K.drop i=[y]++K.drop i from rfl,Z0]
theorem Hq(base g n c i vb:Nat)(K:List CV)(y:CV)(w:World)(hi:i<n)(aq:n+1<=c)(hz:K.length=n)(h:w.ownsRow base 103 6 (F (some ⟨g,0,none⟩) n c) n (Zk K))(hv:w.heap[vb]? = some (dW (Zk [y]).toArray 103 (0,0)))(ak:vb≠g) :
  Calls aB 197 #[F (some ⟨g,0,none⟩) n c,E J i,F (some ⟨vb,0,none⟩) 1 1] w λe w'=>e = dX (F (some ⟨g,0,none⟩) (n+1) c)/\w'.ownsRow base 103 6 (F (some ⟨g,0,none⟩) (n+1) c) (n+1) (Zk (K.take i++y :: K.drop i))/\w.grownBy w' (some g):=by
 obtain⟨i0,ax,ca,bc,cb⟩:=info_parts Tryz.infoCoin;obtain⟨ay,h|⟨g',c',z,av,aw,hh,h1,h2,h3,h4⟩⟩:=h
 ·cases h.1
 simp only[cZ,bE,Addr.mk.injEq,and_true,true_and] at av;obtain⟨rfl,rfl⟩:=av;unfold cD at h2;have ai:z.toList.length=c*6:=by simpa using h3
 have ar:(Tryz.prog.info? 103).map (·.size)=some 6:=by rw[ax];simp[bc]
 have az:∀ lb cd,(callFunc 233 #[F (some ⟨vb,0,none⟩) 1 1,F (some ⟨g,(i+1)*6,none⟩) lb cd]).run aB w = .ok (.value (eA false)) w:=λlb cd=>by
  rw[run_callFunc_extern func233 (by kernel_rfl) (by kernel_rfl) (by kernel_rfl) (e:=Extern.SlicesOverlaps.overlaps #[29,29] #[4]) (by kernel_rfl),
   Lib.run_overlaps_apart w 29 4 103 bR 6 Tryz.sizeOf103 ⟨vb,0,none⟩ ⟨g,(i+1)*6,none⟩ 1 1 lb cd ak 103 103 6 (c*6) (by simp[World.shape?,hv,Yl]) (by simp[World.shape?,hh,h3]) (by omega) (by simp[World.frozen?,hv]) (by simp[World.frozen?,hv])]
  rfl
 obtain⟨Z,hZ⟩:=ZG ((z.toList.take (n*6)).drop (i*6));have ae:Z.length=(n - i)*6:=by rw[hZ];simp;omega
 have ao:∀ u∈Z,u.oneCell'=true:=λu hu=>by
  rw[hZ,h4] at hu;exact Xs K u (List.mem_of_mem_drop hu)
 obtain⟨O,ac⟩:=ZG (w.drew.setRow g (laid z.toList ((i+1)*6) Z).toArray);have am:O.heap[g]? = some (dW (laid z.toList ((i+1)*6) Z).toArray 103 (0,0)):=by rw[ac];exact setRow_heap w.drew g z _ 103 (0,0) hh
 have aj:(laid z.toList ((i+1)*6) Z).length=c*6:=by rw[Qv _ _ _ (by rw[ai,ae];omega),ai]
 have bo:∀ ty dc sc,(Builtin.copy_ #[29,29] ty #[F (some ⟨g,(i+1)*6,none⟩) (n - i) dc,F (some ⟨g,i*6,none⟩) (n+1 - i) sc]).run aB w.drew = .ok (goInt (n - i)) O:=λty dc sc=>by
  have:=Wq (P:=aB) w.drew 29 29 ty 103 g ((i+1)*6) (n - i) dc ⟨g,i*6,none⟩ (n+1 - i) sc 6 z 103 Z bR ar hh (by rw[ae];simp only[Nat.min_def];split <;> omega)
   (λj u hj=>by
    have ht:j<(n - i)*6:=(by rw[<-ae];exact (cU.1 hj).1);rw[hZ,List.getElem?_drop,List.getElem?_take_of_lt (by omega)] at hj;rw[cO];show w.cell? _=_;simp only[dI,hh];rw[<-hj];simp) (by rw[ae,h3];omega) ao
  rw[this,ac]
  congr 1
  simp only[Nat.min_def];split <;> (congr 1;omega)
 have hm:Nat.min 1 (n+1 - i)=1:=by simp only[Nat.min_def];split <;> omega
 have bq:∀ ty dc,(Builtin.copy_ #[29,29] ty #[F (some ⟨g,i*6,none⟩) (n+1 - i) dc,F (some ⟨vb,0,none⟩) 1 1]).run aB O = .ok (goInt 1) (O.setRow g (laid (laid z.toList ((i+1)*6) Z) (i*6) (Zk [y])).toArray):=λty dc=>by
  have ba:O.heap[vb]? = some (dW (Zk [y]).toArray 103 (0,0)):=by rw[ac,cT _ _ _ _ ak];exact hv
  have:=Wq (P:=aB) O 29 29 ty 103 g (i*6) (n+1 - i) dc ⟨vb,0,none⟩ 1 1 6 (laid z.toList ((i+1)*6) Z).toArray 103 (Zk [y]) bR ar am (by rw[Yl,hm])
   (λj u hj=>by rw[cO,Nat.zero_add];exact U1 ba j u hj) (by rw[Yl,List.size_toArray,aj];omega) (Xs [y])
  rw[this,hm];rfl
 have R:Hid ((O.setRow g (laid (laid z.toList ((i+1)*6) Z) (i*6) (Zk [y])).toArray).ownsRow base 103 6 (F (some ⟨g,0,none⟩) (n+1) c) (n+1) (Zk (K.take i++y :: K.drop i))):=by
  refine⟨by rw[Z9];simp;omega,.inr ⟨g,c,(laid (laid z.toList ((i+1)*6) Z) (i*6) (Zk [y])).toArray,rfl,aw,setRow_heap _ g _ _ 103 (0,0) am,aq,by unfold cD;omega,?_,?_⟩⟩
  ·rw[List.size_toArray,Qv _ _ _ (by rw[aj,Yl];omega),aj]
  ·show List.take _ (laid _ _ _)=_;rw[hZ,Zos _ _ i n c hi aq ai (Yl y),h4,Ar]
 have G:Hid (w.grownBy (O.setRow g (laid (laid z.toList ((i+1)*6) Z) (i*6) (Zk [y])).toArray) (some g)):=by
  have e:O.setRow g (laid (laid z.toList ((i+1)*6) Z) (i*6) (Zk [y])).toArray=w.drew.setRow g (laid (laid z.toList ((i+1)*6) Z) (i*6) (Zk [y])).toArray:=by rw[ac,setRow_setRow]
  rw[e];exact⟨rfl,rfl,rfl,by simp[World.setRow],λk hk ak=>cT w.drew g k _ (λe=>ak (by rw[e]))⟩
 have bs:i<=n:=by omega
 have bf:(0:Int)<=(i:Int)+1:=by omega
 have br:i<=c:=by omega
 have h9:¬((i:Int)=(n:Int)):=by omega
 have bg:¬(c=i+1):=by omega
 have bi:¬(c=i):=by omega
 have bx:IntKind.i64.wrap ((i:Int)+1)=(i:Int)+1:=by rw[bF];omega
 have bz:IntKind.i64.wrap ((n:Int)+1)=(n:Int)+1:=by rw[bF];omega
 have bv:((i:Int)+1).toNat=i+1:=by omega
 have bw:((n:Int)+1).toNat=n+1:=by omega
 have bh:(i:Int)<=(n:Int)+1:=by omega
 have bj:(i:Int)+1<=(n:Int)+1:=by omega
 have bk:(n:Int)+1<=(c:Int):=by omega
 have bn:¬((c:Int)<(n:Int)+1):=by omega
 clear ac am aj hh h3 h4 ay ai hz hv hZ ae ao;go_enter func197,ntmps197
 go_wp2_with (simp only[az])
 go_region
 go_wp2;go_ret;exact⟨rfl,Za R,Za G⟩
theorem Zor(X Y Z ag:List Value)(i n C:Nat)(hi:i<n)(hC:n+1<=C)(hX:X.length=C*6)(O:X.take (i*6)=ag)(hY:Y.length=6)(hZ:Z.length=(n - i)*6) :
  (laid (laid X (i*6) Y) ((i+1)*6) Z).take ((n+1)*6)=ag++(Y++Z):=by
 have e2:(laid X (i*6) Y).take ((i+1)*6)=ag++Y:=by
  unfold laid;rw[cQ (by simp;omega),aY (by simp;omega),O]
 rw[show laid (laid X (i*6) Y) ((i+1)*6) Z=ag++Y++Z++(laid X (i*6) Y).drop ((i+1)*6+Z.length) by rw[<-e2];rfl];have ac:ag.length=i*6:=by rw[<-O,bG];omega
 rw[cQ (by simp;omega),aY (by simp;omega),cV]
theorem Lv(base g n c i vb:Nat)(K:List CV)(y:CV)(w:World)(hi:i<n)(hn:n<=4096)(cz:c<n+1)(hz:K.length=n)(h:w.ownsRow base 103 6 (F (some ⟨g,0,none⟩) n c) n (Zk K))(hv:w.heap[vb]? = some (dW (Zk [y]).toArray 103 (0,0))) :
  Calls aB 197 #[F (some ⟨g,0,none⟩) n c,E J i,F (some ⟨vb,0,none⟩) 1 1] w λe w'=>∃ v',e = dX v'/\w'.ownsRow w.heap.size 103 6 v' (n+1) (Zk (K.take i++y :: K.drop i))/\w.grownBy w' none:=by
 obtain⟨i0,be,ce,az,bq⟩:=info_parts Tryz.infoCoin;obtain⟨bg,h|⟨g',c',bu,bn,cq,hh,h1,h2,h3,h4⟩⟩:=h
 ·cases h.1
 simp only[cZ,bE,Addr.mk.injEq,and_true,true_and] at bn;obtain⟨rfl,rfl⟩:=bn;unfold cD at h2;have bx:bu.toList.length=c*6:=by simpa using h3
 have bj:(Tryz.prog.info? 103).map (·.size)=some 6:=by rw[be];simp[az]
 have ca:g<w.heap.size:=aA hh;have cb:vb<w.heap.size:=aA hv;obtain⟨k,hk⟩:=ZG (n+1 - i);have bf:i+k=n+1:=by omega
 obtain⟨df,hO⟩:=ZG (Zk (K.take i));have ah:df.length=i*6:=by rw[hO,Z9,bG];omega
 have ar:∀ j u,(Zk K)[j]? = some u->w.cell? ⟨g,j,none⟩=some u:=λj u z=>by
  have ax:j<n*6:=by rw[<-bg];exact (cU.1 z).1
  rw[<-h4,List.getElem?_take_of_lt ax] at z;simp only[dI,hh];simpa using z
 obtain⟨C,hC⟩:=ZG (grownCap w (i+k) c 103);have bb:n+1<=C:=by rw[hC,<-bf];exact grownCap_ge w (i+k) c 103
 have bv:C<=cD:=by rw[hC];exact grownCap_le_maxLen w (i+k) c 103 (by unfold cD;omega)
 obtain⟨X,hX⟩:=ZG ((df.toArray++Builtin.zeroCells zeroC.cells k++Builtin.zeroCells zeroC.cells (C - (i+k))))
 have aq:X.size=C*6:=by
  rw[hX];have:zeroC.cells.size=6:=rfl;simp only[Array.size_append,List.size_toArray,size_zeroCells,this,ah];omega
 have an:X.toList.length=C*6:=by simpa using aq
 have bc:X.toList.take (i*6)=df:=by
  rw[hX,<-ah];simp
 obtain⟨W0,O⟩:=ZG (w.drew.alloc (dW X 103))
 have bd:∀ ty,(Builtin.append_ #[29,3] ty #[F (some ⟨g,0,none⟩) i c,E J k]).run aB w = .ok (F (some ⟨w.heap.size,0,none⟩) (n+1) C) W0:=λty=>by
  have:=Lib.run_append_grow_zeros (P:=aB) w 29 3 ty 103 i0 zeroC .i64 .i64 bR underlying3 be ce (some ⟨g,0,none⟩) i c df
   (run_firstCells_some (P:=aB) w.drew i0.size i ⟨g,0,none⟩ i c df (by rw[ah,az]) (λj u z=>by
    rw[cO,Nat.zero_add];have ax:j<i*6:=(by rw[<-ah];exact (cU.1 z).1);rw[hO,<-Uk,List.getElem?_take_of_lt ax] at z;exact ar j u z))
   k (by omega) (by rw[az];decide) (by omega) (by omega) (by rw[bq];omega) (growslice_fits (by omega) (by rw[bq];omega))
  rw[this,O,hX,hC,bf]
 have av:W0.heap[w.heap.size]? = some (dW X 103 (0,0)):=by rw[O];exact aK w.drew _
 obtain⟨W1,ab⟩:=ZG (W0.setRow w.heap.size (laid X.toList (i*6) (Zk [y])).toArray);have aw:W1.heap[w.heap.size]? = some (dW (laid X.toList (i*6) (Zk [y])).toArray 103 (0,0)):=by rw[ab];exact setRow_heap W0 _ _ _ 103 (0,0) av
 have ao:(laid X.toList (i*6) (Zk [y])).length=C*6:=by rw[Qv _ _ _ (by rw[an,Yl];omega),an]
 have hm:Nat.min 1 (n+1 - i)=1:=by simp only[Nat.min_def];split <;> omega
 have bi:Nat.min (n - i) (n - i)=n - i:=by simp only[Nat.min_def];split <;> omega
 have ct:∀ ty de,(Builtin.copy_ #[29,29] ty #[F (some ⟨w.heap.size,i*6,none⟩) (n+1 - i) de,F (some ⟨vb,0,none⟩) 1 1]).run aB W0 = .ok (goInt 1) W1:=λty de=>by
  have cd:W0.heap[vb]? = some (dW (Zk [y]).toArray 103 (0,0)):=by rw[O,Below.heap_alloc w.drew _ vb cb];exact hv
  have:=Wq (P:=aB) W0 29 29 ty 103 w.heap.size (i*6) (n+1 - i) de ⟨vb,0,none⟩ 1 1 6 X 103 (Zk [y]) bR bj av (by rw[Yl,hm])
   (λj u z=>by rw[cO,Nat.zero_add];exact U1 cd j u z) (by rw[Yl,aq];omega) (Xs [y])
  rw[this,hm,ab];rfl
 obtain⟨Z,hZ⟩:=ZG (Zk (K.drop i));have aj:Z.length=(n - i)*6:=by rw[hZ,Z9,List.length_drop,hz]
 obtain⟨W2,ac⟩:=ZG (W1.drew.setRow w.heap.size (laid (laid X.toList (i*6) (Zk [y])) ((i+1)*6) Z).toArray)
 have cu:∀ ty de sc,(Builtin.copy_ #[29,29] ty #[F (some ⟨w.heap.size,(i+1)*6,none⟩) (n - i) de,F (some ⟨g,i*6,none⟩) (n - i) sc]).run aB W1.drew = .ok (goInt ((n - i:Nat):Int)) W2:=λty de sc=>by
  have:=Wq (P:=aB) W1.drew 29 29 ty 103 w.heap.size ((i+1)*6) (n - i) de ⟨g,i*6,none⟩ (n - i) sc 6 (laid X.toList (i*6) (Zk [y])).toArray 103 Z bR bj aw (by rw[aj,bi])
   (λj u z=>by
    rw[cO];show W1.cell? _=_;have bw:W1.heap[g]? = w.heap[g]?:=(by rw[ab,cT _ _ _ _ (by omega),O,Below.heap_alloc w.drew _ g ca];rfl);rw[World.cell?_of_block (a:=⟨g,i*6+j,none⟩) bw];exact ar _ u (by rw[hZ,<-Ul,List.getElem?_drop] at z;exact z)) (by rw[aj,List.size_toArray,ao];omega) (λu hu=>Xs _ u (by rw[hZ] at hu;exact hu))
  rw[this,bi,ac]
 have R:Hid (W2.ownsRow w.heap.size 103 6 (F (some ⟨w.heap.size,0,none⟩) (n+1) C) (n+1) (Zk (K.take i++y :: K.drop i))):=by
  refine⟨by rw[Z9];simp;omega,.inr ⟨w.heap.size,C,(laid (laid X.toList (i*6) (Zk [y])) ((i+1)*6) Z).toArray,rfl,aE _,by rw[ac];exact setRow_heap W1.drew _ _ _ 103 (0,0) aw,bb,bv,?_,?_⟩⟩
  ·rw[List.size_toArray,Qv _ _ _ (by rw[ao,aj];omega),ao]
  ·show List.take _ (laid _ _ _)=_;rw[Zor X.toList (Zk [y]) Z df i n C hi bb an bc (Yl y) aj,Ar,Uk,Ul,hO,hZ]
 have G:Hid (w.grownBy W2 none):=by
  refine⟨by rw[ac,ab,O];rfl,by rw[ac,ab,O];rfl,by rw[ac,ab,O];rfl,by rw[ac,ab,O];simp[World.setRow],λq hq _=>?_⟩;rw[ac,cT _ _ _ _ (by omega)];show W1.heap[q]? = _;rw[ab,cT _ _ _ _ (by omega),O,Below.heap_alloc w.drew _ q hq];rfl
 have cx:i<=n:=by omega
 have cw:i<=c:=by omega
 have h9:¬((i:Int)=(n:Int)):=by omega
 have ci:(0:Int)<=(i:Int)+1:=by omega
 have cj:¬(C=i+1):=by omega
 have cm:¬(C=i):=by omega
 have cp:¬(c=i):=by omega
 have db:IntKind.i64.wrap ((i:Int)+1)=(i:Int)+1:=by rw[bF];omega
 have dc:IntKind.i64.wrap ((n:Int)+1)=(n:Int)+1:=by rw[bF];omega
 have dd:IntKind.i64.wrap ((n:Int)+1 - (i:Int))=(k:Int):=by rw[bF];omega
 have da:((i:Int)+1).toNat=i+1:=by omega
 have cn:(i:Int)+1<=(n:Int)+1:=by omega
 have cl:(i:Int)<=(n:Int)+1:=by omega
 have co:(c:Int)<(n:Int)+1:=by omega
 have bt:=Zb bd;clear bd O ab ac av aw ao hh h3 h4 bg bx hz hv hZ aj hX aq an bc hO ah hC ar hk;go_enter func197,ntmps197
 go_wp2_with (at_builtin;refine U7 _ rfl _ _ 29 3 rfl _ _ rfl rfl (bt _) ?_)
 go_wp2
 go_region
 go_wp2;go_ret;exact⟨_,rfl,Za R,Za G⟩
theorem Wh{w:World}{base z:Nat}{e:bO}{size:Nat}{v}{n:Nat}{xs}(h:w.ownsRow z e size v n xs)(hb:base<=z):w.ownsRow base e size v n xs:=by
 obtain⟨O,h0|⟨g,cap,aa,hv,hg,r⟩⟩:=h
 ·exact⟨O,.inl h0⟩
 ·exact⟨O,.inr ⟨g,cap,aa,hv,aT hb hg,r⟩⟩
theorem Hr{w w':World}{row:Option Nat}(h:w.grownBy w' none):w.grownBy w' row:=⟨h.os,h.tape,h.output,h.size,λk z _=>h.block k z (by simp)⟩
theorem N5(base:Nat)(a)(n c i vb:Nat)(K:List CV)(y:CV)(w:World)(hi:i<=n)(hn:n<=4096)(O:K.length=n)(ag:base<=w.heap.size)(h:w.ownsRow base 103 6 (F a n c) n (Zk K))(hv:w.heap[vb]? = some (dW (Zk [y]).toArray 103 (0,0)))
  (ap:(Value.slice a n c).ownBlock≠some vb) :
  Calls aB 197 #[F a n c,E J i,F (some ⟨vb,0,none⟩) 1 1] w λe w'=>∃ z,e = dX z/\w'.ownsRow base 103 6 z (n+1) (Zk (K.take i++y :: K.drop i))/\w.grownBy w' (Value.slice a n c).ownBlock/\(z.ownBlock=(Value.slice a n c).ownBlock\/∀ k,z.ownBlock=some k->w.heap.size<=k):=by
 have hO:=h
 rcases h.2 with ⟨e,h0⟩|⟨g,c',ar,ak,au,hh,h1,h2,h3,h4⟩
 ·simp only[cZ] at e;obtain⟨rfl,rfl,rfl⟩:=e;obtain rfl:i=0:=by omega
  have eK:K=[]:=aJ.1 O;subst eK;refine (Qw none 0 0 vb [] y w hn (aE _) (by omega) rfl (λ_=>⟨rfl,rfl⟩) (λb hb=>by cases hb) hv).mono ?_;rintro e w' ⟨z,rfl,x,aw⟩;exact⟨z,rfl,Wh x ag,Hr aw,.inr λk hk=>Y6 x k hk⟩
 ·simp only[cZ] at ak;obtain⟨rfl,_,rfl⟩:=ak;have am:vb≠g:=λe=>ap (by rw[e];rfl);by_cases an:i=n
  ·subst an;by_cases hr:i+1<=c
   ·refine (Nz base g i c vb K y w hr O hO hv).mono ?_;rintro e w' ⟨rfl,x,aw⟩;exact⟨_,rfl,by rw[<-O,List.take_length,List.drop_length,O];exact x,aw,.inl rfl⟩
   ·refine (Qw (some ⟨g,0,none⟩) i c vb K y w hn h1 (by omega) O (λe=>by cases e) (λb hb j u hj=>?_) hv).mono ?_
    ·cases hb;rw[cO,Nat.zero_add];have ao:j<i*6:=(by rw[<-hO.1];exact (cU.1 hj).1);rw[World.ownsRow.cellAt hO j ao];exact hj
    ·rintro e w' ⟨z,rfl,x,aw⟩;exact⟨z,rfl,by rw[<-O,List.take_length,List.drop_length,O];exact Wh x ag,Hr aw,.inr λk hk=>Y6 x k hk⟩
  ·by_cases hr:n+1<=c
   ·refine (Hq base g n c i vb K y w (by omega) hr O hO hv am).mono ?_;rintro e w' ⟨rfl,x,aw⟩;exact⟨_,rfl,x,aw,.inl rfl⟩
   ·refine (Lv base g n c i vb K y w (by omega) hn (by omega) O hO hv).mono ?_;rintro e w' ⟨z,rfl,x,aw⟩;exact⟨z,rfl,Wh x ag,Hr aw,.inr λk hk=>Y6 x k hk⟩
structure Gr(w w':World)(S:Nat->Prop):Prop where
 os:w'.os=w.os
 tape:w'.tape=w.tape
 output:w'.output=w.output
 size:w.heap.size<=w'.heap.size
 block:∀ k,k<w.heap.size->¬S k->w'.heap[k]? = w.heap[k]?
theorem Gr.refl(w)(S:Nat->Prop):Gr w w S:=⟨rfl,rfl,rfl,aE _,λ_ _ _=>rfl⟩
theorem Gr.of{w w':World}{S:Nat->Prop}(h:ZD w w'):Gr w w' S:=⟨h.os,h.tape,h.output,h.size,λk z _=>h.block k z⟩
theorem Gr.on{w z w2:World}{S:Nat->Prop}(h:Gr w z S)(k:ZD z w2):Gr w w2 S:=
 ⟨k.os.trans h.os,k.tape.trans h.tape,k.output.trans h.output,aT h.size k.size,λi hi O=>(k.block i (aI hi h.size)).trans (h.block i hi O)⟩
theorem Gr.trans{w O w2}{S:Nat->Prop}(h:Gr w O S)(k:Gr O w2 S):Gr w w2 S:=
 ⟨k.os.trans h.os,k.tape.trans h.tape,k.output.trans h.output,aT h.size k.size,λi hi z=>(k.block i (aI hi h.size) z).trans (h.block i hi z)⟩
theorem Gr.mono{w z:World}{S T:Nat->Prop}(h:Gr w z S)(hs:∀ k,k<w.heap.size->S k->T k):Gr w z T:=
 ⟨h.os,h.tape,h.output,h.size,λi hi O=>h.block i hi (λq=>O (hs i hi q))⟩
theorem Gr.grown{w O w2:World}{S:Nat->Prop}{row:Option Nat}(h:Gr w O S)(g:O.grownBy w2 row)(hr:∀ k,row=some k->S k\/w.heap.size<=k):Gr w w2 S:=
 ⟨g.os.trans h.os,g.tape.trans h.tape,g.output.trans h.output,aT h.size g.size,λi hi z=>(g.block i (aI hi h.size) (λe=>by
  rcases hr i e.symm with q|q
  ·exact z q
  ·omega)).trans (h.block i hi z)⟩
theorem Gr.set{w z:World}{S:Nat->Prop}(h:Gr w z S){p:Addr}(hp:S p.block\/w.heap.size<=p.block)(u):Gr w (z.setCell p u) S:=
 ⟨h.os,h.tape,h.output,by simpa[World.setCell] using h.size,λi hi O=>(Below.heap_setCell z p u i (λe=>by
  subst e
  rcases hp with q|q
  ·exact O q
  ·omega)).trans (h.block i hi O)⟩
theorem Gr.one{w z:World}{S:Nat->Prop}(h:Gr w z S)(b i:Nat)(O:S b\/w.heap.size<=b)(u):Gr w (z.setCell ⟨b,i,none⟩ u) S:=h.set (p:=⟨b,i,none⟩) O u
theorem Gr.six{w w1:World}{S:Nat->Prop}(h:Gr w w1 S)(b:Nat)(z:S b\/w.heap.size<=b)(O a1 a2 a3 a4 a5):Gr w ((((((w1.setCell ⟨b,0,none⟩ O).setCell ⟨b,1,none⟩ a1).setCell ⟨b,2,none⟩ a2).setCell ⟨b,3,none⟩ a3).setCell ⟨b,4,none⟩ a4).setCell ⟨b,5,none⟩ a5) S:=
 (((((h.one b 0 z O).one b 1 z a1).one b 2 z a2).one b 3 z a3).one b 4 z a4).one b 5 z a5
theorem Gr.new{w z:World}{S:Nat->Prop}(h:Gr w z S)(o:Obj):Gr w (z.alloc o) S:=h.on (Zg _ _)
theorem Gr.draw{w z:World}{S:Nat->Prop}(h:Gr w z S):Gr w z.drew S:=⟨h.os,h.tape,h.output,h.size,h.block⟩
theorem Gr.below{w0 w w':World}{S:Nat->Prop}{B:Nat}(h:Gr w w' S)(z:Below B w0 w)(hB:B<=w.heap.size)(hs:∀ k,S k->B<=k):Below B w0 w':=
 ⟨h.os.trans z.os,h.tape.trans z.tape,h.output.trans z.output,aT z.size h.size,λk O=>(h.block k (by omega) (λq=>by have:=hs k q;omega)).trans (z.block k O)⟩
theorem Gr.own{w w':World}{S:Nat->Prop}(h:Gr w w' S){base:Nat}{e:bO}{size:Nat}{v:Value}{n:Nat}{xs}(ho:w.ownsRow base e size v n xs)(hn:∀ k,v.ownBlock=some k->¬S k):w'.ownsRow base e size v n xs:=by
 obtain⟨O,h0|⟨g,cap,ab,hv,hg,z,r⟩⟩:=ho
 ·exact⟨O,.inl h0⟩
 ·exact⟨O,.inr ⟨g,cap,ab,hv,hg,(h.block g (aA z) (hn g (by rw[hv];rfl))).trans z,r⟩⟩
theorem Gr.heap{w w':World}{S:Nat->Prop}(h:Gr w w' S){b:Nat}{o:Obj}(z:w.heap[b]? = some o)(O:¬S b):w'.heap[b]? = some o:=(h.block b (aA z) O).trans z
theorem Zd{w:World}{b:Nat}{X:List Value}{t:bO}(h:w.heap[b]? = some (dW X.toArray t (0,0)))(j:Nat)(u)(z:X[j]? = some u):w.cell? ⟨b,j,none⟩=some u:=U1 h j u z
theorem Zi{w:World}{b:Nat}{X}{t:bO}(h:w.heap[b]? = some (dW X t (0,0)))(j:Nat):w.frozen? ⟨b,j,none⟩=false:=by simp[World.frozen?,h]
structure Pu(w0 w:World)(p:Nat)(v:Value)(K:List CV):Prop where
 bel:ZD w0 w
 ge:w0.heap.size<=p
 box:w.heap[p]? = some (dW #[v] 221 (0,0))
 own:w.ownsRow w0.heap.size 103 6 v K.length (Zk K)
 ne:v.ownBlock≠some p
 lk:∀ x∈K,LkAt w0 x
def PuS(p:Nat)(v:Value):Nat->Prop:=λk=>k=p\/v.ownBlock=some k
theorem Pu.coins{w0 w}{p:Nat}{v}{K:List CV}(h:Pu w0 w p v K):∃ a c,v = F a K.length c/\CoinsAt w a K.length (K.map (·.1))/\SlOk a K.length c:=
 Zx h.own (λx z=>(h.lk x z).later h.bel)
theorem Pu.lt{w0 w:World}{p:Nat}{v K}(h:Pu w0 w p v K):p<w.heap.size:=aA h.box
theorem Pu.kept{w0 w w':World}{p:Nat}{v K}(h:Pu w0 w p v K)(z:ZD w w'):Pu w0 w' p v K:=
 ⟨Ze h.bel (z.mono h.bel.size |> λq=>⟨q.os,q.tape,q.output,q.size,z.block⟩),h.ge,(z.block p h.lt).trans h.box,(Gr.of (S:=λ_=>False) z).own h.own (λ_ _ q=>q),h.ne,h.lk⟩
theorem Eg(a)(n c:Nat)(L w)(hn:n<=4096)(h:CoinsAt w a n L)(hs:SlOk a n c) :
  Calls aB 140 #[F a n c] w λe w'=>∃ p v,∃ K:List CV,e = dX (dZ (some ⟨p,0,none⟩))/\K.map (·.1)=L/\Pu w w' p v K:=by
 have C:=Zb (Fm a n c L w hn h hs);clear h hs;go_enter func140,ntmps140;go_wp2_with fail;refine C.mono ?_;rintro e w2 ⟨v,K,rfl,hK,hl,O,z⟩;obtain⟨a',c',rfl,_,_⟩:=Zx O (λx hx=>(hl x hx).later z);obtain⟨n',ab⟩:=ZF (K.length);rw[ab] at O ⊢
 have P:Hid (Pu w (w2.alloc (dW #[F a' n' c'] 221)) w2.heap.size (F a' n' c') K):=by
  refine⟨z.alloc z.size _,z.size,aK w2 _,by rw[ab];exact O.alloc _,λe=>?_,hl⟩;have:=(O.lt _ e).2;omega
 have HK:=Zb hK;clear hK hl O z ab;go_wp2;go_ret;exact⟨w2.heap.size,_,K,rfl,Za HK,Za P⟩
theorem Ab(x:Zf)(a)(n c:Nat)(p:PtD)(z:Int)(w:World)(hz:Lw (pt x) p=z) :
  ZH 229 #[cnV x a n c,.agg #[E J p.1,E J p.2]] w (E J z):=by
 unfold cnV;have HB:=Zb (Ze (Zg w (dW #[E J x.1,E J x.2.1,E J (cv x),F a n c,E J (ch x),eA (cr x)] 103)) (Zg _ (dW #[E J p.1,E J p.2] 99)));have C:=Zb (λw=>Pq (pt x) p z w hz);unfold pt at C;clear hz;go_enter func229,ntmps229;go_wp2_with fail;refine (C _).mono ?_;rintro e w2 ⟨rfl,O⟩;have ac:=Zb (Ze HB O);clear O;go_wp2;go_ret;exact⟨rfl,Za ac⟩
theorem Zhv{L:List Zf}(h:Srt L)(p:PtD)(i:Nat)(hi:i<=L.length)(h1:∀ t (ht:t<L.length),t<i->lt (pt L[t]) p=true)(h2:∀ t (ht:t<L.length),i<=t->lt (pt L[t]) p=false):pos p L=i:=by
 obtain⟨O,_⟩:=Qg (p:=p) h;have hl:=Zkz p L
 rcases Nat.lt_trichotomy (pos p L) i with q|q|q
 ·have:=h1 (pos p L) (by omega) q;have z:L[pos p L]'(by omega)∈L.drop (pos p L):=by rw[List.drop_eq_getElem_cons (by omega)];exact List.mem_cons_self ..
  rw[(Qg (p:=p) h).2,dO] at z;rw[this] at z;exact absurd z.2 (by decide)
 ·exact q
 ·have:=h2 i (by omega) (aE _)
  have z:L[i]'(by omega)∈L.take (pos p L):=by
   rw[List.mem_take_iff_getElem];exact⟨i,by omega,rfl⟩
  rw[O,dO,this] at z;exact absurd z.2 (by decide)
theorem Ev{L:List Zf}(h:Srt L)(p:PtD)(i j:Nat)(hi:i<L.length)(O:j<L.length)(aa:i<=j)(z:lt (pt L[j]) p=true):lt (pt L[i]) p=true:=by
 rcases Nat.lt_or_ge i j with q|q
 ·exact lt_trans (List.pairwise_iff_getElem.1 h i j hi O q) z
 ·obtain rfl:i=j:=by omega
  exact z
theorem Zng(b off n c:Nat)(L:List Zf)(p:PtD)(k:Nat)(f:Bool)(w:World)(hs:Srt L)(hn:n<=4611686018427387903)(hz:L.length=n)(hc:∀ i (h:i<L.length),CoinAt w b (off+i*6) L[i])
  (hk:pos p L=k) (hf:Xp p L=f) :
  ZH 228 #[F (some ⟨b,off,none⟩) n c,.agg #[E J p.1,E J p.2],.func (.func 229) #[] #[]] w (dY #[E J k,eA f]):=by
 have HS:=Zb hs;have HC:=Zb hc;have HZ:=Zb hz;have HK:=Zb hk;have HF:=Zb hf;clear hs hc hz hk hf;obtain⟨X,hX⟩:=ZG (w.alloc (dW #[E J p.1,E J p.2] 99));obtain⟨n0,n1⟩:=Yo w (E J p.1) (E J p.2) 99;rw[<-hX] at n0 n1;have bg:ZD w X:=by rw[hX];exact Zg _ _
 have aj:=Zb bg;have N0:=Zb n0;have N1:=Zb n1;clear n0 n1 bg;go_enter func228,ntmps228;go_wp2;rw[<-hX];clear hX
 go_loopw [9,10] (λs9 ba wr=>∃ lo hi:Nat,s9 = E J lo/\ba = E J hi/\lo<=hi/\hi<=n/\Hid ((∀ t (O:t<L.length),t<lo->lt (pt L[t]) p=true)/\(∀ t (O:t<L.length),hi<=t->lt (pt L[t]) p=false))/\ZD X wr) (λs9 ba _=>(intOf ba).toNat - (intOf s9).toNat)
 case atStart=>exact⟨0,n,rfl,rfl,aP _,aE _,(⟨λt _ h=>absurd h (by omega),λt O h=>absurd O (by rw[Za HZ];omega)⟩:(∀ t (O:t<L.length),t<0->lt (pt L[t]) p=true)/\(∀ t (O:t<L.length),n<=t->lt (pt L[t]) p=false)),Below.refl _ _⟩
 case round=>
  obtain⟨lo,hi,rfl,rfl,ca,ap,I,hb⟩:=hrel;have HB:=Zb hb;have m0:=Zc hb N0;have m1:=Zc hb N1;have ci:=World.block_lt_of_cell? _ _ m0;by_cases cb:lo<hi
  ·obtain⟨m,hm⟩:∃ m:Nat,m=(lo+hi) / 2:=⟨_,rfl⟩;have cc:((lo:Int)+(hi:Int)) / 2=(m:Int):=(by omega);have bw:m<n:=(by omega);have cf:(m:Int)<(n:Int):=(by omega);have az:m<L.length:=(by rw[Za HZ];exact bw);have ap:=CoinAt.kept _ _ _ _ _ (Ze aj hb) (HC m az);have I1:Hid (lt (pt L[m]) p=true->(∀ t (O:t<L.length),t<m+1->lt (pt L[t]) p=true)/\(∀ t (O:t<L.length),hi<=t->lt (pt L[t]) p=false)):=λh=>⟨λt O h2=>Ev HS p t m O az (by omega) h,I.2⟩
   have I2:Hid (lt (pt L[m]) p=false->(∀ t (O:t<L.length),t<lo->lt (pt L[t]) p=true)/\(∀ t (O:t<L.length),m<=t->lt (pt L[t]) p=false)):=λh=>⟨I.1,λt O h2=>by
    rw[<-Bool.not_eq_true];intro q;rw[Ev (Za HS) p m t az O h2 q] at h;exact Bool.noConfusion h⟩
   obtain⟨x,hx⟩:=ZF (L[m]);rw[hx] at ap I1 I2;obtain⟨a,l,d,g1,g2,g3,g4,g5,g6,_,_⟩:=ap.val;obtain⟨cj,hz⟩:=ZF (Lw (pt x) p);have C:=Zb (λw=>Ab x a l d p cj w hz);unfold cnV at C;have av:cj<0↔lt (pt x) p=true:=(by rw[<-hz];exact Cq);have ce:lo<=m:=(by omega);have cd:m<hi:=(by omega);have HM:=Zb hm;clear ap hx hz I hb hm;by_cases ag:cj<0
   ·have aw:=Zb (I1 (av.1 ag));clear av;go_wp2_with fail
    go_region_held3 (λw'=>ZD wr w'/\w'.cell? ⟨w.heap.size,0,none⟩=some (E J p.1)/\w'.cell? ⟨w.heap.size,1,none⟩=some (E J p.2)/\w'.cell? ⟨b,off+m*6,none⟩=some (E J x.1)/\w'.cell? ⟨b,off+m*6+1,none⟩=some (E J x.2.1)/\w'.cell? ⟨b,off+m*6+2,none⟩=some (E J (cv x))/\w'.cell? ⟨b,off+m*6+3,none⟩=some (F a l d)/\w'.cell? ⟨b,off+m*6+4,none⟩=some (E J (ch x))/\w'.cell? ⟨b,off+m*6+5,none⟩=some (eA (cr x)))
     (first
     | exact⟨Zh _,m0,m1,g1,g2,g3,g4,g5,g6⟩
     | (go_split_ands;refine⟨Ze (by assumption) z,Zc z (by assumption),Zc z (by assumption),Zc z (by assumption),Zc z (by assumption),Zc z (by assumption),Zc z (by assumption),Zc z (by assumption),Zc z (by assumption)⟩))
     (first|(go_at_call 229;refine (C _).mono ?_;rintro e w' ⟨rfl,z⟩))
    rename_i hH;have HH:=Zb (Ze HB hH.1);clear hH;go_wp2;go_roundw
    case rel=>exact⟨m+1,hi,by go_num,rfl,by omega,by omega,aw,Za HH⟩
    case measure=>simp[intOf];omega
   ·have aw:=Zb (I2 (by rw[<-Bool.not_eq_true];intro q;exact ag (av.2 q)));clear av;go_wp2_with fail
    go_region_held3 (λw'=>ZD wr w'/\w'.cell? ⟨w.heap.size,0,none⟩=some (E J p.1)/\w'.cell? ⟨w.heap.size,1,none⟩=some (E J p.2)/\w'.cell? ⟨b,off+m*6,none⟩=some (E J x.1)/\w'.cell? ⟨b,off+m*6+1,none⟩=some (E J x.2.1)/\w'.cell? ⟨b,off+m*6+2,none⟩=some (E J (cv x))/\w'.cell? ⟨b,off+m*6+3,none⟩=some (F a l d)/\w'.cell? ⟨b,off+m*6+4,none⟩=some (E J (ch x))/\w'.cell? ⟨b,off+m*6+5,none⟩=some (eA (cr x)))
     (first
     | exact⟨Zh _,m0,m1,g1,g2,g3,g4,g5,g6⟩
     | (go_split_ands;refine⟨Ze (by assumption) z,Zc z (by assumption),Zc z (by assumption),Zc z (by assumption),Zc z (by assumption),Zc z (by assumption),Zc z (by assumption),Zc z (by assumption),Zc z (by assumption)⟩))
     (first|(go_at_call 229;refine (C _).mono ?_;rintro e w' ⟨rfl,z⟩))
    rename_i hH;have HH:=Zb (Ze HB hH.1);clear hH;go_wp2;go_roundw
    case rel=>exact⟨lo,m,rfl,by go_num,by omega,by omega,aw,Za HH⟩
    case measure=>simp[intOf];omega
  ·have e:lo=hi:=(by omega);subst e;have ek:k=lo:=(by rw[<-Za HK];exact Zhv HS p lo (by rw[Za HZ];exact ap) (λt O h=>I.1 t O h) (λt O h=>I.2 t O h));subst ek;have hf:=Zbp (p:=p) HS;rw[Za HF,Za HK,Za HZ] at hf;by_cases ay:k<n
   ·have bk:k<L.length:=(by rw[Za HZ];exact ay);have bv:(k:Int)<(n:Int):=(by omega);have ax:=CoinAt.kept _ _ _ _ _ (Ze aj hb) (HC k bk);rw[List.getElem?_eq_getElem bk,Option.map_some] at hf;obtain⟨x,hx⟩:=ZF (L[k]);rw[hx] at ax hf;obtain⟨a,l,d,g1,g2,g3,g4,g5,g6,_,_⟩:=ax.val;obtain⟨cj,hz⟩:=ZF (Lw (pt x) p);have C:=Zb (λw=>Ab x a l d p cj w hz);unfold cnV at C;have hg:decide ((k:Int)<(n:Int))=true:=decide_eq_true bv
    have bi:Hid (f=decide (cj=0)):=by
     show _=_;rw[hf,decide_eq_true ay,Bool.true_and,<-hz];exact decide_eq_decide.2 (by rw[bE,Zpi])
    clear ax hx hz hf hb I;by_cases ag:cj=0
    ·subst ag;have ah:Hid (f=true):=(by show _=_;rw[Za bi];rfl);go_wp2_with fail
     go_region_held3 (λw'=>ZD wr w'/\w'.cell? ⟨w.heap.size,0,none⟩=some (E J p.1)/\w'.cell? ⟨w.heap.size,1,none⟩=some (E J p.2)/\w'.cell? ⟨b,off+k*6,none⟩=some (E J x.1)/\w'.cell? ⟨b,off+k*6+1,none⟩=some (E J x.2.1)/\w'.cell? ⟨b,off+k*6+2,none⟩=some (E J (cv x))/\w'.cell? ⟨b,off+k*6+3,none⟩=some (F a l d)/\w'.cell? ⟨b,off+k*6+4,none⟩=some (E J (ch x))/\w'.cell? ⟨b,off+k*6+5,none⟩=some (eA (cr x)))
      (first
      | exact⟨Zh _,m0,m1,g1,g2,g3,g4,g5,g6⟩
      | (go_split_ands;refine⟨Ze (by assumption) z,Zc z (by assumption),Zc z (by assumption),Zc z (by assumption),Zc z (by assumption),Zc z (by assumption),Zc z (by assumption),Zc z (by assumption),Zc z (by assumption)⟩))
      (first|(go_at_call 229;refine (C _).mono ?_;rintro e w' ⟨rfl,z⟩))
     rename_i hH;have HH:=Zb (Ze HB hH.1);clear hH;go_wp2;go_ret2;exact⟨by rw[Za ah];rfl,Ze aj HH⟩
    ·have ah:Hid (f=false):=(by show _=_;rw[Za bi];exact decide_eq_false ag);have gz:(cj == 0)=false:=(by simp[ag]);go_wp2_with fail
     go_region_held3 (λw'=>ZD wr w'/\w'.cell? ⟨w.heap.size,0,none⟩=some (E J p.1)/\w'.cell? ⟨w.heap.size,1,none⟩=some (E J p.2)/\w'.cell? ⟨b,off+k*6,none⟩=some (E J x.1)/\w'.cell? ⟨b,off+k*6+1,none⟩=some (E J x.2.1)/\w'.cell? ⟨b,off+k*6+2,none⟩=some (E J (cv x))/\w'.cell? ⟨b,off+k*6+3,none⟩=some (F a l d)/\w'.cell? ⟨b,off+k*6+4,none⟩=some (E J (ch x))/\w'.cell? ⟨b,off+k*6+5,none⟩=some (eA (cr x)))
      (first
      | exact⟨Zh _,m0,m1,g1,g2,g3,g4,g5,g6⟩
      | (go_split_ands;refine⟨Ze (by assumption) z,Zc z (by assumption),Zc z (by assumption),Zc z (by assumption),Zc z (by assumption),Zc z (by assumption),Zc z (by assumption),Zc z (by assumption),Zc z (by assumption)⟩))
      (first|(go_at_call 229;refine (C _).mono ?_;rintro e w' ⟨rfl,z⟩))
     rename_i hH;have HH:=Zb (Ze HB hH.1);clear hH;go_wp2;go_ret2;exact⟨by rw[Za ah];rfl,Ze aj HH⟩
   ·have ah:Hid (f=false):=(by show _=_;rw[hf,decide_eq_false ay,Bool.false_and]);have hg:decide ((k:Int)<(n:Int))=false:=decide_eq_false (by omega);clear hf hb I;go_wp2_with fail
    go_quiet (fail)
    go_wp2;go_ret2;exact⟨by rw[Za ah];rfl,Ze aj (Ze HB (H8 _ _))⟩
theorem Znh(a c)(p:PtD)(v)(w:World) :
  ZH 228 #[F a 0 c,.agg #[E J p.1,E J p.2],v] w (dY #[E J 0,eA false]):=by
 have z:=Zb (Zg w (dW #[E J p.1,E J p.2] 99));go_enter func228,ntmps228;go_wp2;refine wp_loop_rounds 1 ?_;rw[rounds_succ];go_wp2_with fail
 go_quiet (fail)
 go_wp2;go_ret2;exact⟨rfl,Ze z (H8 _ _)⟩
theorem Zpm(a)(n c:Nat)(L)(p:PtD)(k:Nat)(f:Bool)(w:World)(hs:Srt L)(hn:n<=4611686018427387903)(h:CoinsAt w a n L)(O:pos p L=k)(z:Xp p L=f) :
  ZH 228 #[F a n c,.agg #[E J p.1,E J p.2],.func (.func 229) #[] #[]] w (dY #[E J k,eA f]):=by
 obtain⟨hl,hc⟩:=h;by_cases h2:n=0
 ·subst h2;have e:L=[]:=aJ.1 hl;subst e;subst O z;exact Znh a c p _ w
 ·obtain⟨b,off,rfl,_,ac⟩:=hc (by omega);exact Zng b off n c L p k f w hs hn hl ac O z
theorem Sa(a)(n c:Nat)(L)(p:PtD)(k:Nat)(f:Bool)(w:World)(hs:Srt L)(hn:n<=4611686018427387903)(h:CoinsAt w a n L)(hk:pos p L=k)(hf:Xp p L=f) :
  ZH 194 #[F a n c,.agg #[E J p.1,E J p.2]] w (dY #[E J k,eA f]):=by
 have z:=Zg w (dW #[E J p.1,E J p.2] 99);have HB:=Zb z;have C:=Zb (Zpm a n c L p k f _ hs hn (h.later z) hk hf);clear hs h hk hf z;go_enter func194,ntmps194;go_wp2_with fail;refine C.mono ?_;rintro e w2 ⟨rfl,O⟩;have ae:=Zb (Ze HB O);clear O;go_wp2;go_ret2;exact⟨rfl,Za ae⟩
