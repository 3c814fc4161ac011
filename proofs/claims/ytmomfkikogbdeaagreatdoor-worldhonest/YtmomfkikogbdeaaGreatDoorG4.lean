import Derived.Test.YtmomfkikogbdeaaGreatDoorH
import Derived.Test.YtmomfkikogbdeaaGreatDoorG3
open Go.Proofs.Tryz
open Go renaming maxLen->cW,lt_of_block->aA,heap_alloc_new->aH,TypeId->cR,bodyPost_ret->aW
open Go.Addr renaming add_lit->cC
open Go.Ending renaming returned->dA
open Go.IntKind renaming wrap_i64->bH,i64->J
open Go.Obj renaming cells->cZ
open Go.Proofs.Tryz renaming prog->aB,underlying29->cE
open Go.Value renaming slice->aX,int->E,slice->F,tuple->dB,pointer->dC,bool->dD
open Go.World renaming cell?->bF,block_lt_of_cell?->aE
open List renaming append_assoc->bZ,take_append_of_le_length->cJ,drop_of_length_le->bM,length_take->bP,take_of_length_le->aV,getElem?_eq_some_iff->cT,length_eq_zero_iff->aP,drop_eq_getElem_cons->aI,mem_filter->cU,getElem?_eq_getElem->cF,mem_append->bA,length_append->bW
open Nat renaming le_refl->aF,le_trans->aT,lt_of_lt_of_le->aD
open Option.some renaming injEq->bG
set_option maxHeartbeats 6400000
set_option maxRecDepth 10000
namespace Go.Proofs.YtmomfkikogbdeaaGreatDoor
open Go.RowKit
theorem Zor(X Y:List Value)(i n c:Nat)(hi:i<n)(h:n+1<=c)(hX:X.length=c*6)(Q:Y.length=6) :
  (laid (laid X ((i+1)*6) ((X.take (n*6)).drop (i*6))) (i*6) Y).take ((n+1)*6)=(X.take (n*6)).take (i*6)++(Y++(X.take (n*6)).drop (i*6)):=by
 have z:((X.take (n*6)).drop (i*6)).length=n*6 - i*6:=by simp;omega
 obtain⟨Z,hZ⟩:=ZG ((X.take (n*6)).drop (i*6));rw[<-hZ] at z ⊢
 have e2:(laid X ((i+1)*6) Z).take (i*6)=X.take (i*6):=by
  unfold laid;rw[bZ,cJ (by simp;omega),List.take_take,Nat.min_eq_left (by omega)]
 have e3:(laid X ((i+1)*6) Z).drop (i*6+6)=Z++X.drop ((i+1)*6+Z.length):=by
  unfold laid;rw[bZ,show i*6+6=(i+1)*6 by omega,List.drop_append_of_le_length (by simp;omega),bM (by rw[bP];omega),List.nil_append]
 rw[show laid (laid X ((i+1)*6) Z) (i*6) Y=X.take (i*6)++Y++(Z++X.drop ((i+1)*6+Z.length)) by unfold laid at e2 e3 ⊢;rw[Q,e2,e3]];rw[<-bZ,cJ (by simp[z,Q];omega),aV (by simp[z,Q];omega),List.take_take,Nat.min_eq_left (by omega),bZ]
theorem Df(K:List CV)(y:CV)(i:Nat):Zm (K.take i++y :: K.drop i)=(Zm K).take (i*6)++(Zm [y]++(Zm K).drop (i*6)):=by
 rw[U4,U5,Yp,show y :: K.drop i=[y]++K.drop i from rfl,Yp]
theorem Gb(base g n c i vb:Nat)(K:List CV)(y:CV)(w:World)(hi:i<n)(au:n+1<=c)(hz:K.length=n)(h:w.ownsRow base 124 6 (F (some ⟨g,0,none⟩) n c) n (Zm K))(hv:w.heap[vb]? = some (cZ (Zm [y]).toArray 124 (0,0)))(al:vb≠g) :
  Calls aB 254 #[F (some ⟨g,0,none⟩) n c,E J i,F (some ⟨vb,0,none⟩) 1 1] w λe w'=>e = dA (F (some ⟨g,0,none⟩) (n+1) c)/\w'.ownsRow base 124 6 (F (some ⟨g,0,none⟩) (n+1) c) (n+1) (Zm (K.take i++y :: K.drop i))/\w.grownBy w' (some g):=by
 obtain⟨i0,az,cg,bg,cj⟩:=info_parts Tryz.infoCoin;obtain⟨bb,h|⟨g',c',z,ax,ay,hh,h1,h2,h3,h4⟩⟩:=h
 ·cases h.1
 simp only[Value.slice.injEq,bG,Addr.mk.injEq,and_true,true_and] at ax;obtain⟨rfl,rfl⟩:=ax;unfold cW at h2;have aj:z.toList.length=c*6:=by simpa using h3
 have av:(Tryz.prog.info? 124).map (·.size)=some 6:=by rw[az];simp[bg]
 have bd:∀ lb cb,(callFunc 283 #[F (some ⟨vb,0,none⟩) 1 1,F (some ⟨g,(i+1)*6,none⟩) lb cb]).run aB w = .ok (.value (dD false)) w:=λlb cb=>by
  rw[run_callFunc_extern func283 (by kernel_rfl) (by kernel_rfl) (by kernel_rfl) (e:=Extern.SlicesOverlaps.overlaps #[29,29] #[4]) (by kernel_rfl),
   Lib.run_overlaps_apart w 29 4 124 cE 6 Tryz.sizeOf124 ⟨vb,0,none⟩ ⟨g,(i+1)*6,none⟩ 1 1 lb cb al 124 124 6 (c*6) (by simp[World.shape?,hv,Z9]) (by simp[World.shape?,hh,h3]) (by omega) (by simp[World.frozen?,hv]) (by simp[World.frozen?,hv])]
  rfl
 obtain⟨Z,hZ⟩:=ZG ((z.toList.take (n*6)).drop (i*6));have ae:Z.length=(n - i)*6:=by rw[hZ];simp;omega
 have aq:∀ u∈Z,u.oneCell'=true:=λu hu=>by
  rw[hZ,h4] at hu;exact Wj K u (List.mem_of_mem_drop hu)
 obtain⟨Q,ac⟩:=ZG (w.drew.setRow g (laid z.toList ((i+1)*6) Z).toArray);have an:Q.heap[g]? = some (cZ (laid z.toList ((i+1)*6) Z).toArray 124 (0,0)):=by rw[ac];exact setRow_heap w.drew g z _ 124 (0,0) hh
 have ak:(laid z.toList ((i+1)*6) Z).length=c*6:=by rw[W8 _ _ _ (by rw[aj,ae];omega),aj]
 have bu:∀ ty dc sc,(Builtin.copy_ #[29,29] ty #[F (some ⟨g,(i+1)*6,none⟩) (n - i) dc,F (some ⟨g,i*6,none⟩) (n+1 - i) sc]).run aB w.drew = .ok (goInt (n - i)) Q:=λty dc sc=>by
  have:=Vs (P:=aB) w.drew 29 29 ty 124 g ((i+1)*6) (n - i) dc ⟨g,i*6,none⟩ (n+1 - i) sc 6 z 124 Z cE av hh (by rw[ae];simp only[Nat.min_def];split <;> omega)
   (λj u hj=>by
    have ht:j<(n - i)*6:=(by rw[<-ae];exact (cT.1 hj).1);rw[hZ,List.getElem?_drop,List.getElem?_take_of_lt (by omega)] at hj;rw[cC];show w.cell? _=_;simp only[bF,hh];rw[<-hj];simp) (by rw[ae,h3];omega) aq
  rw[this,ac]
  congr 1
  simp only[Nat.min_def];split <;> (congr 1;omega)
 have hm:Nat.min 1 (n+1 - i)=1:=by simp only[Nat.min_def];split <;> omega
 have bv:∀ ty dc,(Builtin.copy_ #[29,29] ty #[F (some ⟨g,i*6,none⟩) (n+1 - i) dc,F (some ⟨vb,0,none⟩) 1 1]).run aB Q = .ok (goInt 1) (Q.setRow g (laid (laid z.toList ((i+1)*6) Z) (i*6) (Zm [y])).toArray):=λty dc=>by
  have be:Q.heap[vb]? = some (cZ (Zm [y]).toArray 124 (0,0)):=by rw[ac,setRow_other _ _ _ _ al];exact hv
  have:=Vs (P:=aB) Q 29 29 ty 124 g (i*6) (n+1 - i) dc ⟨vb,0,none⟩ 1 1 6 (laid z.toList ((i+1)*6) Z).toArray 124 (Zm [y]) cE av an (by rw[Z9,hm])
   (λj u hj=>by rw[cC,Nat.zero_add];exact V5 be j u hj) (by rw[Z9,List.size_toArray,ak];omega) (Wj [y])
  rw[this,hm];rfl
 have R:Hid ((Q.setRow g (laid (laid z.toList ((i+1)*6) Z) (i*6) (Zm [y])).toArray).ownsRow base 124 6 (F (some ⟨g,0,none⟩) (n+1) c) (n+1) (Zm (K.take i++y :: K.drop i))):=by
  refine⟨by rw[Yd];simp;omega,.inr ⟨g,c,(laid (laid z.toList ((i+1)*6) Z) (i*6) (Zm [y])).toArray,rfl,ay,setRow_heap _ g _ _ 124 (0,0) an,au,by unfold cW;omega,?_,?_⟩⟩
  ·rw[List.size_toArray,W8 _ _ _ (by rw[ak,Z9];omega),ak]
  ·show List.take _ (laid _ _ _)=_;rw[hZ,Zor _ _ i n c hi au aj (Z9 y),h4,Df]
 have G:Hid (w.grownBy (Q.setRow g (laid (laid z.toList ((i+1)*6) Z) (i*6) (Zm [y])).toArray) (some g)):=by
  have e:Q.setRow g (laid (laid z.toList ((i+1)*6) Z) (i*6) (Zm [y])).toArray=w.drew.setRow g (laid (laid z.toList ((i+1)*6) Z) (i*6) (Zm [y])).toArray:=by rw[ac,setRow_setRow]
  rw[e];exact⟨rfl,rfl,rfl,by simp[World.setRow],λk hk al=>setRow_other w.drew g k _ (λe=>al (by rw[e]))⟩
 have bz:i<=n:=by omega
 have bj:(0:Int)<=(i:Int)+1:=by omega
 have bx:i<=c:=by omega
 have h9:¬((i:Int)=(n:Int)):=by omega
 have bk:¬(c=i+1):=by omega
 have bq:¬(c=i):=by omega
 have ce:IntKind.i64.wrap ((i:Int)+1)=(i:Int)+1:=by rw[bH];omega
 have cf:IntKind.i64.wrap ((n:Int)+1)=(n:Int)+1:=by rw[bH];omega
 have cc:((i:Int)+1).toNat=i+1:=by omega
 have cd:((n:Int)+1).toNat=n+1:=by omega
 have bo:(i:Int)<=(n:Int)+1:=by omega
 have br:(i:Int)+1<=(n:Int)+1:=by omega
 have bs:(n:Int)+1<=(c:Int):=by omega
 have bt:¬((c:Int)<(n:Int)+1):=by omega
 clear ac an ak hh h3 h4 bb aj hz hv hZ ae aq;go_enter func254,ntmps254
 go_wp2_with (simp only[bd])
 go_region
 go_wp2;go_ret;exact⟨rfl,Za R,Za G⟩
theorem Zoq(X Y Z O:List Value)(i n C:Nat)(hi:i<n)(hC:n+1<=C)(hX:X.length=C*6)(z:X.take (i*6)=O)(hY:Y.length=6)(hZ:Z.length=(n - i)*6) :
  (laid (laid X (i*6) Y) ((i+1)*6) Z).take ((n+1)*6)=O++(Y++Z):=by
 have Q:(laid X (i*6) Y).take ((i+1)*6)=O++Y:=by
  unfold laid;rw[cJ (by simp;omega),aV (by simp;omega),z]
 rw[show laid (laid X (i*6) Y) ((i+1)*6) Z=O++Y++Z++(laid X (i*6) Y).drop ((i+1)*6+Z.length) by rw[<-Q];rfl];have ab:O.length=i*6:=by rw[<-z,bP];omega
 rw[cJ (by simp;omega),aV (by simp;omega),bZ]
theorem Hj(base g n c i vb:Nat)(K:List CV)(y:CV)(w:World)(hi:i<n)(hn:n<=4096)(dd:c<n+1)(hz:K.length=n)(h:w.ownsRow base 124 6 (F (some ⟨g,0,none⟩) n c) n (Zm K))(hv:w.heap[vb]? = some (cZ (Zm [y]).toArray 124 (0,0))) :
  Calls aB 254 #[F (some ⟨g,0,none⟩) n c,E J i,F (some ⟨vb,0,none⟩) 1 1] w λe w'=>∃ v',e = dA v'/\w'.ownsRow w.heap.size 124 6 v' (n+1) (Zm (K.take i++y :: K.drop i))/\w.grownBy w' none:=by
 obtain⟨i0,bg,cg,az,bt⟩:=info_parts Tryz.infoCoin;obtain⟨bi,h|⟨g',c',bx,br,cx,hh,h1,h2,h3,h4⟩⟩:=h
 ·cases h.1
 simp only[Value.slice.injEq,bG,Addr.mk.injEq,and_true,true_and] at br;obtain⟨rfl,rfl⟩:=br;unfold cW at h2;have cb:bx.toList.length=c*6:=by simpa using h3
 have bo:(Tryz.prog.info? 124).map (·.size)=some 6:=by rw[bg];simp[az]
 have cd:g<w.heap.size:=aA hh;have ce:vb<w.heap.size:=aA hv;obtain⟨k,hk⟩:=ZG (n+1 - i);have bh:i+k=n+1:=by omega
 obtain⟨O,hO⟩:=ZG (Zm (K.take i));have af:O.length=i*6:=by rw[hO,Yd,bP];omega
 have ar:∀ j u,(Zm K)[j]? = some u->w.cell? ⟨g,j,none⟩=some u:=λj u z=>by
  have ax:j<n*6:=by rw[<-bi];exact (cT.1 z).1
  rw[<-h4,List.getElem?_take_of_lt ax] at z;simp only[bF,hh];simpa using z
 obtain⟨C,hC⟩:=ZG (grownCap w (i+k) c 124);have bd:n+1<=C:=by rw[hC,<-bh];exact grownCap_ge w (i+k) c 124
 have bz:C<=cW:=by rw[hC];exact grownCap_le_maxLen w (i+k) c 124 (by unfold cW;omega)
 obtain⟨X,hX⟩:=ZG ((O.toArray++Builtin.zeroCells zeroC.cells k++Builtin.zeroCells zeroC.cells (C - (i+k))))
 have aq:X.size=C*6:=by
  rw[hX];have:zeroC.cells.size=6:=rfl;simp only[Array.size_append,List.size_toArray,size_zeroCells,this,af];omega
 have am:X.toList.length=C*6:=by simpa using aq
 have be:X.toList.take (i*6)=O:=by
  rw[hX,<-af];simp
 obtain⟨W0,Q⟩:=ZG (w.drew.alloc (cZ X 124))
 have bf:∀ ty,(Builtin.append_ #[29,3] ty #[F (some ⟨g,0,none⟩) i c,E J k]).run aB w = .ok (F (some ⟨w.heap.size,0,none⟩) (n+1) C) W0:=λty=>by
  have:=Lib.run_append_grow_zeros (P:=aB) w 29 3 ty 124 i0 zeroC .i64 .i64 cE underlying3 bg cg (some ⟨g,0,none⟩) i c O
   (run_firstCells_some (P:=aB) w.drew i0.size i ⟨g,0,none⟩ i c O (by rw[af,az]) (λj u z=>by
    rw[cC,Nat.zero_add];have ax:j<i*6:=(by rw[<-af];exact (cT.1 z).1);rw[hO,<-U4,List.getElem?_take_of_lt ax] at z;exact ar j u z))
   k (by omega) (by rw[az];decide) (by omega) (by omega) (by rw[bt];omega) (growslice_fits (by omega) (by rw[bt];omega))
  rw[this,Q,hX,hC,bh]
 have av:W0.heap[w.heap.size]? = some (cZ X 124 (0,0)):=by rw[Q];exact aH w.drew _
 obtain⟨W1,ab⟩:=ZG (W0.setRow w.heap.size (laid X.toList (i*6) (Zm [y])).toArray);have aw:W1.heap[w.heap.size]? = some (cZ (laid X.toList (i*6) (Zm [y])).toArray 124 (0,0)):=by rw[ab];exact setRow_heap W0 _ _ _ 124 (0,0) av
 have an:(laid X.toList (i*6) (Zm [y])).length=C*6:=by rw[W8 _ _ _ (by rw[am,Z9];omega),am]
 have hm:Nat.min 1 (n+1 - i)=1:=by simp only[Nat.min_def];split <;> omega
 have bk:Nat.min (n - i) (n - i)=n - i:=by simp only[Nat.min_def];split <;> omega
 have cy:∀ ty dc,(Builtin.copy_ #[29,29] ty #[F (some ⟨w.heap.size,i*6,none⟩) (n+1 - i) dc,F (some ⟨vb,0,none⟩) 1 1]).run aB W0 = .ok (goInt 1) W1:=λty dc=>by
  have cf:W0.heap[vb]? = some (cZ (Zm [y]).toArray 124 (0,0)):=by rw[Q,Below.heap_alloc w.drew _ vb ce];exact hv
  have:=Vs (P:=aB) W0 29 29 ty 124 w.heap.size (i*6) (n+1 - i) dc ⟨vb,0,none⟩ 1 1 6 X 124 (Zm [y]) cE bo av (by rw[Z9,hm])
   (λj u z=>by rw[cC,Nat.zero_add];exact V5 cf j u z) (by rw[Z9,aq];omega) (Wj [y])
  rw[this,hm,ab];rfl
 obtain⟨Z,hZ⟩:=ZG (Zm (K.drop i));have ah:Z.length=(n - i)*6:=by rw[hZ,Yd,List.length_drop,hz]
 obtain⟨W2,ac⟩:=ZG (W1.drew.setRow w.heap.size (laid (laid X.toList (i*6) (Zm [y])) ((i+1)*6) Z).toArray)
 have cz:∀ ty dc sc,(Builtin.copy_ #[29,29] ty #[F (some ⟨w.heap.size,(i+1)*6,none⟩) (n - i) dc,F (some ⟨g,i*6,none⟩) (n - i) sc]).run aB W1.drew = .ok (goInt ((n - i:Nat):Int)) W2:=λty dc sc=>by
  have:=Vs (P:=aB) W1.drew 29 29 ty 124 w.heap.size ((i+1)*6) (n - i) dc ⟨g,i*6,none⟩ (n - i) sc 6 (laid X.toList (i*6) (Zm [y])).toArray 124 Z cE bo aw (by rw[ah,bk])
   (λj u z=>by
    rw[cC];show W1.cell? _=_;have ca:W1.heap[g]? = w.heap[g]?:=(by rw[ab,setRow_other _ _ _ _ (by omega),Q,Below.heap_alloc w.drew _ g cd];rfl);rw[World.cell?_of_block (a:=⟨g,i*6+j,none⟩) ca];exact ar _ u (by rw[hZ,<-U5,List.getElem?_drop] at z;exact z)) (by rw[ah,List.size_toArray,an];omega) (λu hu=>Wj _ u (by rw[hZ] at hu;exact hu))
  rw[this,bk,ac]
 have R:Hid (W2.ownsRow w.heap.size 124 6 (F (some ⟨w.heap.size,0,none⟩) (n+1) C) (n+1) (Zm (K.take i++y :: K.drop i))):=by
  refine⟨by rw[Yd];simp;omega,.inr ⟨w.heap.size,C,(laid (laid X.toList (i*6) (Zm [y])) ((i+1)*6) Z).toArray,rfl,aF _,by rw[ac];exact setRow_heap W1.drew _ _ _ 124 (0,0) aw,bd,bz,?_,?_⟩⟩
  ·rw[List.size_toArray,W8 _ _ _ (by rw[an,ah];omega),an]
  ·show List.take _ (laid _ _ _)=_;rw[Zoq X.toList (Zm [y]) Z O i n C hi bd am be (Z9 y) ah,Df,U4,U5,hO,hZ]
 have G:Hid (w.grownBy W2 none):=by
  refine⟨by rw[ac,ab,Q];rfl,by rw[ac,ab,Q];rfl,by rw[ac,ab,Q];rfl,by rw[ac,ab,Q];simp[World.setRow],λq hq _=>?_⟩;rw[ac,setRow_other _ _ _ _ (by omega)];show W1.heap[q]? = _;rw[ab,setRow_other _ _ _ _ (by omega),Q,Below.heap_alloc w.drew _ q hq];rfl
 have db:i<=n:=by omega
 have da:i<=c:=by omega
 have h9:¬((i:Int)=(n:Int)):=by omega
 have cm:(0:Int)<=(i:Int)+1:=by omega
 have cn:¬(C=i+1):=by omega
 have cq:¬(C=i):=by omega
 have cw:¬(c=i):=by omega
 have df:IntKind.i64.wrap ((i:Int)+1)=(i:Int)+1:=by rw[bH];omega
 have dg:IntKind.i64.wrap ((n:Int)+1)=(n:Int)+1:=by rw[bH];omega
 have dh:IntKind.i64.wrap ((n:Int)+1 - (i:Int))=(k:Int):=by rw[bH];omega
 have de:((i:Int)+1).toNat=i+1:=by omega
 have ct:(i:Int)+1<=(n:Int)+1:=by omega
 have cp:(i:Int)<=(n:Int)+1:=by omega
 have cu:(c:Int)<(n:Int)+1:=by omega
 have bv:=Zd bf;clear bf Q ab ac av aw an hh h3 h4 bi cb hz hv hZ ah hX aq am be hO af hC ar hk;go_enter func254,ntmps254
 go_wp2_with (at_builtin;refine Ud _ rfl _ _ 29 3 rfl _ _ rfl rfl (bv _) ?_)
 go_wp2
 go_region
 go_wp2;go_ret;exact⟨_,rfl,Za R,Za G⟩
theorem Yx{w:World}{base z:Nat}{e:cR}{size:Nat}{v}{n:Nat}{xs}(h:w.ownsRow z e size v n xs)(hb:base<=z):w.ownsRow base e size v n xs:=by
 obtain⟨Q,h0|⟨g,cap,aa,hv,hg,r⟩⟩:=h
 ·exact⟨Q,.inl h0⟩
 ·exact⟨Q,.inr ⟨g,cap,aa,hv,aT hb hg,r⟩⟩
theorem Gd{w w':World}{row:Option Nat}(h:w.grownBy w' none):w.grownBy w' row:=⟨h.os,h.tape,h.output,h.size,λk z _=>h.block k z (by simp)⟩
theorem Lq(base:Nat)(a)(n c i Q:Nat)(K:List CV)(y:CV)(w:World)(hi:i<=n)(hn:n<=4096)(z:K.length=n)(af:base<=w.heap.size)(h:w.ownsRow base 124 6 (F a n c) n (Zm K))(hv:w.heap[Q]? = some (cZ (Zm [y]).toArray 124 (0,0)))
  (aq:(aX a n c).ownBlock≠some Q) :
  Calls aB 254 #[F a n c,E J i,F (some ⟨Q,0,none⟩) 1 1] w λe w'=>∃ v',e = dA v'/\w'.ownsRow base 124 6 v' (n+1) (Zm (K.take i++y :: K.drop i))/\w.grownBy w' (aX a n c).ownBlock/\(v'.ownBlock=(aX a n c).ownBlock\/∀ k,v'.ownBlock=some k->w.heap.size<=k):=by
 have hO:=h
 rcases h.2 with ⟨e,h0⟩|⟨g,c',au,ak,av,hh,h1,h2,h3,h4⟩
 ·simp only[Value.slice.injEq] at e;obtain⟨rfl,rfl,rfl⟩:=e;obtain rfl:i=0:=by omega
  have eK:K=[]:=aP.1 z;subst eK;refine (Uz none 0 0 Q [] y w hn (aF _) (by omega) rfl (λ_=>⟨rfl,rfl⟩) (λb hb=>by cases hb) hv).mono ?_;rintro e w' ⟨v',rfl,x,ax⟩;exact⟨v',rfl,Yx x af,Gd ax,.inr λk hk=>Wb x k hk⟩
 ·simp only[Value.slice.injEq] at ak;obtain⟨rfl,_,rfl⟩:=ak;have am:Q≠g:=λe=>aq (by rw[e];rfl);by_cases an:i=n
  ·subst an;by_cases hr:i+1<=c
   ·refine (Lp base g i c Q K y w hr z hO hv).mono ?_;rintro e w' ⟨rfl,x,ax⟩;exact⟨_,rfl,by rw[<-z,List.take_length,List.drop_length,z];exact x,ax,.inl rfl⟩
   ·refine (Uz (some ⟨g,0,none⟩) i c Q K y w hn h1 (by omega) z (λe=>by cases e) (λb hb j u hj=>?_) hv).mono ?_
    ·cases hb;rw[cC,Nat.zero_add];have ap:j<i*6:=(by rw[<-hO.1];exact (cT.1 hj).1);rw[World.ownsRow.cellAt hO j ap];exact hj
    ·rintro e w' ⟨v',rfl,x,ax⟩;exact⟨v',rfl,by rw[<-z,List.take_length,List.drop_length,z];exact Yx x af,Gd ax,.inr λk hk=>Wb x k hk⟩
  ·by_cases hr:n+1<=c
   ·refine (Gb base g n c i Q K y w (by omega) hr z hO hv am).mono ?_;rintro e w' ⟨rfl,x,ax⟩;exact⟨_,rfl,x,ax,.inl rfl⟩
   ·refine (Hj base g n c i Q K y w (by omega) hn (by omega) z hO hv).mono ?_;rintro e w' ⟨v',rfl,x,ax⟩;exact⟨v',rfl,Yx x af,Gd ax,.inr λk hk=>Wb x k hk⟩
structure Gr(w w':World)(S:Nat->Prop):Prop where
 os:w'.os=w.os
 tape:w'.tape=w.tape
 output:w'.output=w.output
 size:w.heap.size<=w'.heap.size
 block:∀ k,k<w.heap.size->¬S k->w'.heap[k]? = w.heap[k]?
theorem Gr.refl(w)(S:Nat->Prop):Gr w w S:=⟨rfl,rfl,rfl,aF _,λ_ _ _=>rfl⟩
theorem Gr.of{w w':World}{S:Nat->Prop}(h:ZD w w'):Gr w w' S:=⟨h.os,h.tape,h.output,h.size,λk z _=>h.block k z⟩
theorem Gr.on{w z w2:World}{S:Nat->Prop}(h:Gr w z S)(k:ZD z w2):Gr w w2 S:=
 ⟨k.os.trans h.os,k.tape.trans h.tape,k.output.trans h.output,aT h.size k.size,λi hi Q=>(k.block i (aD hi h.size)).trans (h.block i hi Q)⟩
theorem Gr.trans{w Q w2}{S:Nat->Prop}(h:Gr w Q S)(k:Gr Q w2 S):Gr w w2 S:=
 ⟨k.os.trans h.os,k.tape.trans h.tape,k.output.trans h.output,aT h.size k.size,λi hi z=>(k.block i (aD hi h.size) z).trans (h.block i hi z)⟩
theorem Gr.mono{w z:World}{S T:Nat->Prop}(h:Gr w z S)(hs:∀ k,k<w.heap.size->S k->T k):Gr w z T:=
 ⟨h.os,h.tape,h.output,h.size,λi hi Q=>h.block i hi (λq=>Q (hs i hi q))⟩
theorem Gr.grown{w Q w2:World}{S:Nat->Prop}{row:Option Nat}(h:Gr w Q S)(g:Q.grownBy w2 row)(hr:∀ k,row=some k->S k\/w.heap.size<=k):Gr w w2 S:=
 ⟨g.os.trans h.os,g.tape.trans h.tape,g.output.trans h.output,aT h.size g.size,λi hi z=>(g.block i (aD hi h.size) (λe=>by
  rcases hr i e.symm with q|q
  ·exact z q
  ·omega)).trans (h.block i hi z)⟩
theorem Gr.set{w z:World}{S:Nat->Prop}(h:Gr w z S){p:Addr}(hp:S p.block\/w.heap.size<=p.block)(u):Gr w (z.setCell p u) S:=
 ⟨h.os,h.tape,h.output,by simpa[World.setCell] using h.size,λi hi Q=>(Below.heap_setCell z p u i (λe=>by
  subst e
  rcases hp with q|q
  ·exact Q q
  ·omega)).trans (h.block i hi Q)⟩
theorem Gr.one{w z:World}{S:Nat->Prop}(h:Gr w z S)(b i:Nat)(Q:S b\/w.heap.size<=b)(u):Gr w (z.setCell ⟨b,i,none⟩ u) S:=h.set (p:=⟨b,i,none⟩) Q u
theorem Gr.six{w w1:World}{S:Nat->Prop}(h:Gr w w1 S)(b:Nat)(z:S b\/w.heap.size<=b)(Q a1 a2 a3 a4 a5):Gr w ((((((w1.setCell ⟨b,0,none⟩ Q).setCell ⟨b,1,none⟩ a1).setCell ⟨b,2,none⟩ a2).setCell ⟨b,3,none⟩ a3).setCell ⟨b,4,none⟩ a4).setCell ⟨b,5,none⟩ a5) S:=
 (((((h.one b 0 z Q).one b 1 z a1).one b 2 z a2).one b 3 z a3).one b 4 z a4).one b 5 z a5
theorem Gr.new{w z:World}{S:Nat->Prop}(h:Gr w z S)(o:Obj):Gr w (z.alloc o) S:=h.on (Zh _ _)
theorem Gr.draw{w z:World}{S:Nat->Prop}(h:Gr w z S):Gr w z.drew S:=⟨h.os,h.tape,h.output,h.size,h.block⟩
theorem Gr.below{w0 w w':World}{S:Nat->Prop}{B:Nat}(h:Gr w w' S)(z:Below B w0 w)(hB:B<=w.heap.size)(hs:∀ k,S k->B<=k):Below B w0 w':=
 ⟨h.os.trans z.os,h.tape.trans z.tape,h.output.trans z.output,aT z.size h.size,λk Q=>(h.block k (by omega) (λq=>by have:=hs k q;omega)).trans (z.block k Q)⟩
theorem Gr.own{w w':World}{S:Nat->Prop}(h:Gr w w' S){base:Nat}{e:cR}{size:Nat}{v:Value}{n:Nat}{xs}(ho:w.ownsRow base e size v n xs)(hn:∀ k,v.ownBlock=some k->¬S k):w'.ownsRow base e size v n xs:=by
 obtain⟨Q,h0|⟨g,cap,ab,hv,hg,z,r⟩⟩:=ho
 ·exact⟨Q,.inl h0⟩
 ·exact⟨Q,.inr ⟨g,cap,ab,hv,hg,(h.block g (aA z) (hn g (by rw[hv];rfl))).trans z,r⟩⟩
theorem Gr.heap{w w':World}{S:Nat->Prop}(h:Gr w w' S){b:Nat}{o:Obj}(z:w.heap[b]? = some o)(Q:¬S b):w'.heap[b]? = some o:=(h.block b (aA z) Q).trans z
theorem Zb{w:World}{b:Nat}{X:List Value}{t:cR}(h:w.heap[b]? = some (cZ X.toArray t (0,0)))(j:Nat)(u)(z:X[j]? = some u):w.cell? ⟨b,j,none⟩=some u:=V5 h j u z
theorem Zg{w:World}{b:Nat}{X}{t:cR}(h:w.heap[b]? = some (cZ X t (0,0)))(j:Nat):w.frozen? ⟨b,j,none⟩=false:=by simp[World.frozen?,h]
theorem kc1{w:World}{b:Nat}{z X}{t:cR}(h:w.heap[b]? = some (cZ (z::X).toArray t (0,0))):w.cell? ⟨b,0,none⟩=some z/\b<w.heap.size:=⟨Zb h 0 _ rfl,aA h⟩
theorem kc2{w:World}{b:Nat}{z Q X}{t:cR}(h:w.heap[b]? = some (cZ (z::Q::X).toArray t (0,0))):w.cell? ⟨b,0,none⟩=some z/\w.cell? ⟨b,1,none⟩=some Q/\b<w.heap.size:=⟨Zb h 0 _ rfl,Zb h 1 _ rfl,aA h⟩
theorem kc3{w:World}{b:Nat}{z Q a2 X}{t:cR}(h:w.heap[b]? = some (cZ (z::Q::a2::X).toArray t (0,0))):w.cell? ⟨b,0,none⟩=some z/\w.cell? ⟨b,1,none⟩=some Q/\w.cell? ⟨b,2,none⟩=some a2/\b<w.heap.size:=⟨Zb h 0 _ rfl,Zb h 1 _ rfl,Zb h 2 _ rfl,aA h⟩
theorem kc4{w:World}{b:Nat}{z Q a2 a3 X}{t:cR}(h:w.heap[b]? = some (cZ (z::Q::a2::a3::X).toArray t (0,0))):w.cell? ⟨b,0,none⟩=some z/\w.cell? ⟨b,1,none⟩=some Q/\w.cell? ⟨b,2,none⟩=some a2/\w.cell? ⟨b,3,none⟩=some a3/\b<w.heap.size:=⟨Zb h 0 _ rfl,Zb h 1 _ rfl,Zb h 2 _ rfl,Zb h 3 _ rfl,aA h⟩
theorem kc5{w:World}{b:Nat}{z Q a2 a3 a4 X}{t:cR}(h:w.heap[b]? = some (cZ (z::Q::a2::a3::a4::X).toArray t (0,0))):w.cell? ⟨b,0,none⟩=some z/\w.cell? ⟨b,1,none⟩=some Q/\w.cell? ⟨b,2,none⟩=some a2/\w.cell? ⟨b,3,none⟩=some a3/\w.cell? ⟨b,4,none⟩=some a4/\b<w.heap.size:=⟨Zb h 0 _ rfl,Zb h 1 _ rfl,Zb h 2 _ rfl,Zb h 3 _ rfl,Zb h 4 _ rfl,aA h⟩
theorem kc6{w:World}{b:Nat}{z Q a2 a3 a4 a5 X}{t:cR}(h:w.heap[b]? = some (cZ (z::Q::a2::a3::a4::a5::X).toArray t (0,0))):w.cell? ⟨b,0,none⟩=some z/\w.cell? ⟨b,1,none⟩=some Q/\w.cell? ⟨b,2,none⟩=some a2/\w.cell? ⟨b,3,none⟩=some a3/\w.cell? ⟨b,4,none⟩=some a4/\w.cell? ⟨b,5,none⟩=some a5/\b<w.heap.size:=⟨Zb h 0 _ rfl,Zb h 1 _ rfl,Zb h 2 _ rfl,Zb h 3 _ rfl,Zb h 4 _ rfl,Zb h 5 _ rfl,aA h⟩
theorem kc9{w:World}{b:Nat}{z Q a2 a3 a4 a5 a6 a7 a8 X}{t:cR}(h:w.heap[b]? = some (cZ (z::Q::a2::a3::a4::a5::a6::a7::a8::X).toArray t (0,0))):w.cell? ⟨b,0,none⟩=some z/\w.cell? ⟨b,1,none⟩=some Q/\w.cell? ⟨b,2,none⟩=some a2/\w.cell? ⟨b,3,none⟩=some a3/\w.cell? ⟨b,4,none⟩=some a4/\w.cell? ⟨b,5,none⟩=some a5/\w.cell? ⟨b,6,none⟩=some a6/\w.cell? ⟨b,7,none⟩=some a7/\w.cell? ⟨b,8,none⟩=some a8/\b<w.heap.size:=⟨Zb h 0 _ rfl,Zb h 1 _ rfl,Zb h 2 _ rfl,Zb h 3 _ rfl,Zb h 4 _ rfl,Zb h 5 _ rfl,Zb h 6 _ rfl,Zb h 7 _ rfl,Zb h 8 _ rfl,aA h⟩
theorem kc12{w:World}{b:Nat}{z Q a2 a3 a4 a5 a6 a7 a8 a9 aa ab X}{t:cR}(h:w.heap[b]? = some (cZ (z::Q::a2::a3::a4::a5::a6::a7::a8::a9::aa::ab::X).toArray t (0,0))):w.cell? ⟨b,0,none⟩=some z/\w.cell? ⟨b,1,none⟩=some Q/\w.cell? ⟨b,2,none⟩=some a2/\w.cell? ⟨b,3,none⟩=some a3/\w.cell? ⟨b,4,none⟩=some a4/\w.cell? ⟨b,5,none⟩=some a5/\w.cell? ⟨b,6,none⟩=some a6/\w.cell? ⟨b,7,none⟩=some a7/\w.cell? ⟨b,8,none⟩=some a8/\w.cell? ⟨b,9,none⟩=some a9/\w.cell? ⟨b,10,none⟩=some aa/\w.cell? ⟨b,11,none⟩=some ab/\b<w.heap.size:=⟨Zb h 0 _ rfl,Zb h 1 _ rfl,Zb h 2 _ rfl,Zb h 3 _ rfl,Zb h 4 _ rfl,Zb h 5 _ rfl,Zb h 6 _ rfl,Zb h 7 _ rfl,Zb h 8 _ rfl,Zb h 9 _ rfl,Zb h 10 _ rfl,Zb h 11 _ rfl,aA h⟩
theorem kf1{w:World}{b:Nat}{z X}{t:cR}(h:w.heap[b]? = some (cZ (z::X).toArray t (0,0))):w.cell? ⟨b,0,none⟩=some z/\w.frozen? ⟨b,0,none⟩=false/\b<w.heap.size:=⟨Zb h 0 _ rfl,Zg h 0,aA h⟩
theorem kf2{w:World}{b:Nat}{z Q X}{t:cR}(h:w.heap[b]? = some (cZ (z::Q::X).toArray t (0,0))):w.cell? ⟨b,0,none⟩=some z/\w.cell? ⟨b,1,none⟩=some Q/\w.frozen? ⟨b,0,none⟩=false/\w.frozen? ⟨b,1,none⟩=false/\b<w.heap.size:=⟨Zb h 0 _ rfl,Zb h 1 _ rfl,Zg h 0,Zg h 1,aA h⟩
theorem kf3{w:World}{b:Nat}{z Q a2 X}{t:cR}(h:w.heap[b]? = some (cZ (z::Q::a2::X).toArray t (0,0))):w.cell? ⟨b,0,none⟩=some z/\w.cell? ⟨b,1,none⟩=some Q/\w.cell? ⟨b,2,none⟩=some a2/\w.frozen? ⟨b,0,none⟩=false/\w.frozen? ⟨b,1,none⟩=false/\w.frozen? ⟨b,2,none⟩=false/\b<w.heap.size:=⟨Zb h 0 _ rfl,Zb h 1 _ rfl,Zb h 2 _ rfl,Zg h 0,Zg h 1,Zg h 2,aA h⟩
theorem kf4{w:World}{b:Nat}{z Q a2 a3 X}{t:cR}(h:w.heap[b]? = some (cZ (z::Q::a2::a3::X).toArray t (0,0))):w.cell? ⟨b,0,none⟩=some z/\w.cell? ⟨b,1,none⟩=some Q/\w.cell? ⟨b,2,none⟩=some a2/\w.cell? ⟨b,3,none⟩=some a3/\w.frozen? ⟨b,0,none⟩=false/\w.frozen? ⟨b,1,none⟩=false/\w.frozen? ⟨b,2,none⟩=false/\w.frozen? ⟨b,3,none⟩=false/\b<w.heap.size:=⟨Zb h 0 _ rfl,Zb h 1 _ rfl,Zb h 2 _ rfl,Zb h 3 _ rfl,Zg h 0,Zg h 1,Zg h 2,Zg h 3,aA h⟩
theorem kf5{w:World}{b:Nat}{z Q a2 a3 a4 X}{t:cR}(h:w.heap[b]? = some (cZ (z::Q::a2::a3::a4::X).toArray t (0,0))):w.cell? ⟨b,0,none⟩=some z/\w.cell? ⟨b,1,none⟩=some Q/\w.cell? ⟨b,2,none⟩=some a2/\w.cell? ⟨b,3,none⟩=some a3/\w.cell? ⟨b,4,none⟩=some a4/\w.frozen? ⟨b,0,none⟩=false/\w.frozen? ⟨b,1,none⟩=false/\w.frozen? ⟨b,2,none⟩=false/\w.frozen? ⟨b,3,none⟩=false/\w.frozen? ⟨b,4,none⟩=false/\b<w.heap.size:=⟨Zb h 0 _ rfl,Zb h 1 _ rfl,Zb h 2 _ rfl,Zb h 3 _ rfl,Zb h 4 _ rfl,Zg h 0,Zg h 1,Zg h 2,Zg h 3,Zg h 4,aA h⟩
theorem kf6{w:World}{b:Nat}{z Q a2 a3 a4 a5 X}{t:cR}(h:w.heap[b]? = some (cZ (z::Q::a2::a3::a4::a5::X).toArray t (0,0))):w.cell? ⟨b,0,none⟩=some z/\w.cell? ⟨b,1,none⟩=some Q/\w.cell? ⟨b,2,none⟩=some a2/\w.cell? ⟨b,3,none⟩=some a3/\w.cell? ⟨b,4,none⟩=some a4/\w.cell? ⟨b,5,none⟩=some a5/\w.frozen? ⟨b,0,none⟩=false/\w.frozen? ⟨b,1,none⟩=false/\w.frozen? ⟨b,2,none⟩=false/\w.frozen? ⟨b,3,none⟩=false/\w.frozen? ⟨b,4,none⟩=false/\w.frozen? ⟨b,5,none⟩=false/\b<w.heap.size:=⟨Zb h 0 _ rfl,Zb h 1 _ rfl,Zb h 2 _ rfl,Zb h 3 _ rfl,Zb h 4 _ rfl,Zb h 5 _ rfl,Zg h 0,Zg h 1,Zg h 2,Zg h 3,Zg h 4,Zg h 5,aA h⟩
theorem kf9{w:World}{b:Nat}{z Q a2 a3 a4 a5 a6 a7 a8 X}{t:cR}(h:w.heap[b]? = some (cZ (z::Q::a2::a3::a4::a5::a6::a7::a8::X).toArray t (0,0))):w.cell? ⟨b,0,none⟩=some z/\w.cell? ⟨b,1,none⟩=some Q/\w.cell? ⟨b,2,none⟩=some a2/\w.cell? ⟨b,3,none⟩=some a3/\w.cell? ⟨b,4,none⟩=some a4/\w.cell? ⟨b,5,none⟩=some a5/\w.cell? ⟨b,6,none⟩=some a6/\w.cell? ⟨b,7,none⟩=some a7/\w.cell? ⟨b,8,none⟩=some a8/\w.frozen? ⟨b,0,none⟩=false/\w.frozen? ⟨b,1,none⟩=false/\w.frozen? ⟨b,2,none⟩=false/\w.frozen? ⟨b,3,none⟩=false/\w.frozen? ⟨b,4,none⟩=false/\w.frozen? ⟨b,5,none⟩=false/\w.frozen? ⟨b,6,none⟩=false/\w.frozen? ⟨b,7,none⟩=false/\w.frozen? ⟨b,8,none⟩=false/\b<w.heap.size:=⟨Zb h 0 _ rfl,Zb h 1 _ rfl,Zb h 2 _ rfl,Zb h 3 _ rfl,Zb h 4 _ rfl,Zb h 5 _ rfl,Zb h 6 _ rfl,Zb h 7 _ rfl,Zb h 8 _ rfl,Zg h 0,Zg h 1,Zg h 2,Zg h 3,Zg h 4,Zg h 5,Zg h 6,Zg h 7,Zg h 8,aA h⟩
theorem kf12{w:World}{b:Nat}{z Q a2 a3 a4 a5 a6 a7 a8 a9 aa ab X}{t:cR}(h:w.heap[b]? = some (cZ (z::Q::a2::a3::a4::a5::a6::a7::a8::a9::aa::ab::X).toArray t (0,0))):w.cell? ⟨b,0,none⟩=some z/\w.cell? ⟨b,1,none⟩=some Q/\w.cell? ⟨b,2,none⟩=some a2/\w.cell? ⟨b,3,none⟩=some a3/\w.cell? ⟨b,4,none⟩=some a4/\w.cell? ⟨b,5,none⟩=some a5/\w.cell? ⟨b,6,none⟩=some a6/\w.cell? ⟨b,7,none⟩=some a7/\w.cell? ⟨b,8,none⟩=some a8/\w.cell? ⟨b,9,none⟩=some a9/\w.cell? ⟨b,10,none⟩=some aa/\w.cell? ⟨b,11,none⟩=some ab/\w.frozen? ⟨b,0,none⟩=false/\w.frozen? ⟨b,1,none⟩=false/\w.frozen? ⟨b,2,none⟩=false/\w.frozen? ⟨b,3,none⟩=false/\w.frozen? ⟨b,4,none⟩=false/\w.frozen? ⟨b,5,none⟩=false/\w.frozen? ⟨b,6,none⟩=false/\w.frozen? ⟨b,7,none⟩=false/\w.frozen? ⟨b,8,none⟩=false/\w.frozen? ⟨b,9,none⟩=false/\w.frozen? ⟨b,10,none⟩=false/\w.frozen? ⟨b,11,none⟩=false/\b<w.heap.size:=⟨Zb h 0 _ rfl,Zb h 1 _ rfl,Zb h 2 _ rfl,Zb h 3 _ rfl,Zb h 4 _ rfl,Zb h 5 _ rfl,Zb h 6 _ rfl,Zb h 7 _ rfl,Zb h 8 _ rfl,Zb h 9 _ rfl,Zb h 10 _ rfl,Zb h 11 _ rfl,Zg h 0,Zg h 1,Zg h 2,Zg h 3,Zg h 4,Zg h 5,Zg h 6,Zg h 7,Zg h 8,Zg h 9,Zg h 10,Zg h 11,aA h⟩
structure Pu(w0 w:World)(p:Nat)(v:Value)(K:List CV):Prop where
 bel:ZD w0 w
 ge:w0.heap.size<=p
 box:w.heap[p]? = some (cZ #[v] 235 (0,0))
 own:w.ownsRow w0.heap.size 124 6 v K.length (Zm K)
 ne:v.ownBlock≠some p
 lk:∀ x∈K,LkAt w0 x
def PuS(p:Nat)(v:Value):Nat->Prop:=λk=>k=p\/v.ownBlock=some k
theorem Pu.coins{w0 w}{p:Nat}{v}{K:List CV}(h:Pu w0 w p v K):∃ a c,v = F a K.length c/\CoinsAt w a K.length (K.map (·.1))/\SlOk a K.length c:=
 Va h.own (λx hx=>(h.lk x hx).later h.bel)
theorem Pu.lt{w0 w:World}{p:Nat}{v K}(h:Pu w0 w p v K):p<w.heap.size:=aA h.box
theorem Pu.kept{w0 w w':World}{p:Nat}{v K}(h:Pu w0 w p v K)(z:ZD w w'):Pu w0 w' p v K:=
 ⟨Zf h.bel (z.mono h.bel.size |> λq=>⟨q.os,q.tape,q.output,q.size,z.block⟩),h.ge,(z.block p h.lt).trans h.box,(Gr.of (S:=λ_=>False) z).own h.own (λ_ _ q=>q),h.ne,h.lk⟩
theorem Zit(a)(n c:Nat)(L w)(hn:n<=4096)(h:CoinsAt w a n L)(hs:SlOk a n c) :
  Calls aB 145 #[F a n c] w λe w'=>∃ p v,∃ K:List CV,e = dA (dC (some ⟨p,0,none⟩))/\K.map (·.1)=L/\Pu w w' p v K:=by
 have C:=Zd (Th a n c L w hn h hs);clear h hs;go_enter func145,ntmps145;go_wp2_with fail;refine C.mono ?_;rintro e w2 ⟨v,K,rfl,hK,hl,Q,z⟩;obtain⟨a',c',rfl,_,_⟩:=Va Q (λx hx=>(hl x hx).later z);obtain⟨n',ab⟩:=ZF (K.length);rw[ab] at Q ⊢
 have P:Hid (Pu w (w2.alloc (cZ #[F a' n' c'] 235)) w2.heap.size (F a' n' c') K):=by
  refine⟨z.alloc z.size _,z.size,aH w2 _,by rw[ab];exact Q.alloc _,λe=>?_,hl⟩;have:=(Q.lt _ e).2;omega
 have HK:=Zd hK;clear hK hl Q z ab;go_wp2;go_ret;exact⟨w2.heap.size,_,K,rfl,Za HK,Za P⟩
theorem Nr(x:Zj)(a)(n c:Nat)(p:PtD)(z:Int)(w:World)(hz:Hl (pt x) p=z) :
  ZH 279 #[cnV x a n c,.agg #[E J p.1,E J p.2]] w (E J z):=by
 unfold cnV;have HB:=Zd (Zf (Zh w (cZ #[E J x.1,E J x.2.1,E J (cv x),F a n c,E J (ch x),dD (cr x)] 124)) (Zh _ (cZ #[E J p.1,E J p.2] 117)));have C:=Zd (λw=>T2 (pt x) p z w hz);unfold pt at C;clear hz;go_enter func279,ntmps279;go_wp2_with fail;refine (C _).mono ?_;rintro e w2 ⟨rfl,Q⟩;have ac:=Zd (Zf HB Q);clear Q;go_wp2;go_ret;exact⟨rfl,Za ac⟩
theorem Zfx{L:List Zj}(h:Srt L)(p:PtD)(i:Nat)(hi:i<=L.length)(h1:∀ t (ht:t<L.length),t<i->lt (pt L[t]) p=true)(h2:∀ t (ht:t<L.length),i<=t->lt (pt L[t]) p=false):pos p L=i:=by
 obtain⟨Q,_⟩:=Ul (p:=p) h;have hl:=Zjt p L
 rcases Nat.lt_trichotomy (pos p L) i with q|q|q
 ·have:=h1 (pos p L) (by omega) q;have z:L[pos p L]'(by omega)∈L.drop (pos p L):=by rw[aI (by omega)];exact List.mem_cons_self ..
  rw[(Ul (p:=p) h).2,cU] at z;rw[this] at z;exact absurd z.2 (by decide)
 ·exact q
 ·have:=h2 i (by omega) (aF _)
  have z:L[i]'(by omega)∈L.take (pos p L):=by
   rw[List.mem_take_iff_getElem];exact⟨i,by omega,rfl⟩
  rw[Q,cU,this] at z;exact absurd z.2 (by decide)
theorem Ar{L:List Zj}(h:Srt L)(p:PtD)(i j:Nat)(hi:i<L.length)(Q:j<L.length)(aa:i<=j)(z:lt (pt L[j]) p=true):lt (pt L[i]) p=true:=by
 rcases Nat.lt_or_ge i j with q|q
 ·exact lt_trans (List.pairwise_iff_getElem.1 h i j hi Q q) z
 ·obtain rfl:i=j:=by omega
  exact z
theorem Zmk(b off n c:Nat)(L:List Zj)(p:PtD)(k:Nat)(f:Bool)(w:World)(hs:Srt L)(hn:n<=4611686018427387903)(hz:L.length=n)(hc:∀ i (h:i<L.length),CoinAt w b (off+i*6) L[i])
  (hk:pos p L=k) (hf:Y3 p L=f) :
  ZH 278 #[F (some ⟨b,off,none⟩) n c,.agg #[E J p.1,E J p.2],.func (.func 279) #[] #[]] w (dB #[E J k,dD f]):=by
 obtain⟨HS,HC,HZ,HK,HF⟩:=kh5 hs hc hz hk hf;clear hs hc hz hk hf;obtain⟨X,hX⟩:=ZG (w.alloc (cZ #[E J p.1,E J p.2] 117));obtain⟨n0,n1⟩:=Yc w (E J p.1) (E J p.2) 117;rw[<-hX] at n0 n1;have bk:ZD w X:=by rw[hX];exact Zh _ _
 obtain⟨ak,N0,N1⟩:=kh3 bk n0 n1;clear n0 n1 bk;go_enter func278,ntmps278;go_wp2;rw[<-hX];clear hX
 go_loopw [9,10] (λs9 bg wr=>∃ lo hi:Nat,s9 = E J lo/\bg = E J hi/\lo<=hi/\hi<=n/\Hid ((∀ t (Q:t<L.length),t<lo->lt (pt L[t]) p=true)/\(∀ t (Q:t<L.length),hi<=t->lt (pt L[t]) p=false))/\ZD X wr) (λs9 bg _=>(intOf bg).toNat - (intOf s9).toNat)
 case atStart=>exact⟨0,n,rfl,rfl,Nat.zero_le _,aF _,(⟨λt _ h=>absurd h (by omega),λt Q h=>absurd Q (by rw[Za HZ];omega)⟩:(∀ t (Q:t<L.length),t<0->lt (pt L[t]) p=true)/\(∀ t (Q:t<L.length),n<=t->lt (pt L[t]) p=false)),Below.refl _ _⟩
 case round=>
  obtain⟨lo,hi,rfl,rfl,cf,ar,I,hb⟩:=hrel;have HB:=Zd hb;have m0:=Ze hb N0;have m1:=Ze hb N1;have cq:=aE _ _ m0;by_cases cg:lo<hi
  ·obtain⟨m,hm⟩:∃ m:Nat,m=(lo+hi) / 2:=⟨_,rfl⟩;have cj:((lo:Int)+(hi:Int)) / 2=(m:Int):=(by omega);have cc:m<n:=(by omega);have cn:(m:Int)<(n:Int):=(by omega);have bf:m<L.length:=(by rw[Za HZ];exact cc);have ar:=CoinAt.kept _ _ _ _ _ (Zf ak hb) (HC m bf);have I1:Hid (lt (pt L[m]) p=true->(∀ t (Q:t<L.length),t<m+1->lt (pt L[t]) p=true)/\(∀ t (Q:t<L.length),hi<=t->lt (pt L[t]) p=false)):=λh=>⟨λt Q h2=>Ar HS p t m Q bf (by omega) h,I.2⟩
   have I2:Hid (lt (pt L[m]) p=false->(∀ t (Q:t<L.length),t<lo->lt (pt L[t]) p=true)/\(∀ t (Q:t<L.length),m<=t->lt (pt L[t]) p=false)):=λh=>⟨I.1,λt Q h2=>by
    rw[<-Bool.not_eq_true];intro q;rw[Ar HS p m t bf Q h2 q] at h;exact Bool.noConfusion h⟩
   obtain⟨x,hx⟩:=ZF (L[m]);rw[hx] at ar I1 I2;obtain⟨a,l,d,g1,g2,g3,g4,g5,g6,_,_⟩:=ar.val;obtain⟨ct,hz⟩:=ZF (Hl (pt x) p);have C:=Zd (λw=>Nr x a l d p ct w hz);unfold cnV at C;have az:ct<0↔lt (pt x) p=true:=(by rw[<-hz];exact Fq);have cm:lo<=m:=(by omega);have cl:m<hi:=(by omega);have HM:=Zd hm;clear ar hx hz I hb hm;by_cases ag:ct<0
   ·have bb:=Zd (I1 (az.1 ag));clear I1 I2 az;go_wp2_with fail
    go_region_held3 (λw'=>ZD wr w'/\w'.cell? ⟨w.heap.size,0,none⟩=some (E J p.1)/\w'.cell? ⟨w.heap.size,1,none⟩=some (E J p.2)/\w'.cell? ⟨b,off+m*6,none⟩=some (E J x.1)/\w'.cell? ⟨b,off+m*6+1,none⟩=some (E J x.2.1)/\w'.cell? ⟨b,off+m*6+2,none⟩=some (E J (cv x))/\w'.cell? ⟨b,off+m*6+3,none⟩=some (F a l d)/\w'.cell? ⟨b,off+m*6+4,none⟩=some (E J (ch x))/\w'.cell? ⟨b,off+m*6+5,none⟩=some (dD (cr x)))
     (first
     | exact⟨Zi _,m0,m1,g1,g2,g3,g4,g5,g6⟩
     | (go_split_ands;refine⟨Zf (by assumption) z,Ze z (by assumption),Ze z (by assumption),Ze z (by assumption),Ze z (by assumption),Ze z (by assumption),Ze z (by assumption),Ze z (by assumption),Ze z (by assumption)⟩))
     (first|(go_at_call 279;refine (C _).mono ?_;rintro e w' ⟨rfl,z⟩))
    rename_i hH;have HH:=Zd (Zf HB hH.1);clear hH;go_wp2;go_roundw
    case rel=>exact⟨m+1,hi,by go_num,rfl,by omega,by omega,bb,Za HH⟩
    case measure=>simp[intOf];omega
   ·have bb:=Zd (I2 (by rw[<-Bool.not_eq_true];intro q;exact ag (az.2 q)));clear I1 I2 az;go_wp2_with fail
    go_region_held3 (λw'=>ZD wr w'/\w'.cell? ⟨w.heap.size,0,none⟩=some (E J p.1)/\w'.cell? ⟨w.heap.size,1,none⟩=some (E J p.2)/\w'.cell? ⟨b,off+m*6,none⟩=some (E J x.1)/\w'.cell? ⟨b,off+m*6+1,none⟩=some (E J x.2.1)/\w'.cell? ⟨b,off+m*6+2,none⟩=some (E J (cv x))/\w'.cell? ⟨b,off+m*6+3,none⟩=some (F a l d)/\w'.cell? ⟨b,off+m*6+4,none⟩=some (E J (ch x))/\w'.cell? ⟨b,off+m*6+5,none⟩=some (dD (cr x)))
     (first
     | exact⟨Zi _,m0,m1,g1,g2,g3,g4,g5,g6⟩
     | (go_split_ands;refine⟨Zf (by assumption) z,Ze z (by assumption),Ze z (by assumption),Ze z (by assumption),Ze z (by assumption),Ze z (by assumption),Ze z (by assumption),Ze z (by assumption),Ze z (by assumption)⟩))
     (first|(go_at_call 279;refine (C _).mono ?_;rintro e w' ⟨rfl,z⟩))
    rename_i hH;have HH:=Zd (Zf HB hH.1);clear hH;go_wp2;go_roundw
    case rel=>exact⟨lo,m,rfl,by go_num,by omega,by omega,bb,Za HH⟩
    case measure=>simp[intOf];omega
  ·have e:lo=hi:=(by omega);subst e;have ek:k=lo:=(by rw[<-Za HK];exact Zfx HS p lo (by rw[Za HZ];exact ar) (λt Q h=>I.1 t Q h) (λt Q h=>I.2 t Q h));subst ek;have hf:=Cj (p:=p) HS;rw[Za HF,Za HK,Za HZ] at hf;by_cases be:k<n
   ·have br:k<L.length:=(by rw[Za HZ];exact be);have cb:(k:Int)<(n:Int):=(by omega);have bd:=CoinAt.kept _ _ _ _ _ (Zf ak hb) (HC k br);rw[cF br,Option.map_some] at hf;obtain⟨x,hx⟩:=ZF (L[k]);rw[hx] at bd hf;obtain⟨a,l,d,g1,g2,g3,g4,g5,g6,_,_⟩:=bd.val;obtain⟨ct,hz⟩:=ZF (Hl (pt x) p);have C:=Zd (λw=>Nr x a l d p ct w hz);unfold cnV at C;have hg:decide ((k:Int)<(n:Int))=true:=decide_eq_true cb
    have ay:Hid (f=decide (ct=0)):=by
     show _=_;rw[hf,decide_eq_true be,Bool.true_and,<-hz];exact decide_eq_decide.2 (by rw[bG,Zph])
    clear bd hx hz hf hb I;by_cases ag:ct=0
    ·subst ag;have ah:Hid (f=true):=(by show _=_;rw[Za ay];rfl);clear ay;go_wp2_with fail
     go_region_held3 (λw'=>ZD wr w'/\w'.cell? ⟨w.heap.size,0,none⟩=some (E J p.1)/\w'.cell? ⟨w.heap.size,1,none⟩=some (E J p.2)/\w'.cell? ⟨b,off+k*6,none⟩=some (E J x.1)/\w'.cell? ⟨b,off+k*6+1,none⟩=some (E J x.2.1)/\w'.cell? ⟨b,off+k*6+2,none⟩=some (E J (cv x))/\w'.cell? ⟨b,off+k*6+3,none⟩=some (F a l d)/\w'.cell? ⟨b,off+k*6+4,none⟩=some (E J (ch x))/\w'.cell? ⟨b,off+k*6+5,none⟩=some (dD (cr x)))
      (first
      | exact⟨Zi _,m0,m1,g1,g2,g3,g4,g5,g6⟩
      | (go_split_ands;refine⟨Zf (by assumption) z,Ze z (by assumption),Ze z (by assumption),Ze z (by assumption),Ze z (by assumption),Ze z (by assumption),Ze z (by assumption),Ze z (by assumption),Ze z (by assumption)⟩))
      (first|(go_at_call 279;refine (C _).mono ?_;rintro e w' ⟨rfl,z⟩))
     rename_i hH;have HH:=Zd (Zf HB hH.1);clear hH;go_wp2;go_ret2;exact⟨by rw[Za ah];rfl,Zf ak HH⟩
    ·have ah:Hid (f=false):=(by show _=_;rw[Za ay];exact decide_eq_false ag);have gz:(ct == 0)=false:=(by simp[ag]);clear ay;go_wp2_with fail
     go_region_held3 (λw'=>ZD wr w'/\w'.cell? ⟨w.heap.size,0,none⟩=some (E J p.1)/\w'.cell? ⟨w.heap.size,1,none⟩=some (E J p.2)/\w'.cell? ⟨b,off+k*6,none⟩=some (E J x.1)/\w'.cell? ⟨b,off+k*6+1,none⟩=some (E J x.2.1)/\w'.cell? ⟨b,off+k*6+2,none⟩=some (E J (cv x))/\w'.cell? ⟨b,off+k*6+3,none⟩=some (F a l d)/\w'.cell? ⟨b,off+k*6+4,none⟩=some (E J (ch x))/\w'.cell? ⟨b,off+k*6+5,none⟩=some (dD (cr x)))
      (first
      | exact⟨Zi _,m0,m1,g1,g2,g3,g4,g5,g6⟩
      | (go_split_ands;refine⟨Zf (by assumption) z,Ze z (by assumption),Ze z (by assumption),Ze z (by assumption),Ze z (by assumption),Ze z (by assumption),Ze z (by assumption),Ze z (by assumption),Ze z (by assumption)⟩))
      (first|(go_at_call 279;refine (C _).mono ?_;rintro e w' ⟨rfl,z⟩))
     rename_i hH;have HH:=Zd (Zf HB hH.1);clear hH;go_wp2;go_ret2;exact⟨by rw[Za ah];rfl,Zf ak HH⟩
   ·have ah:Hid (f=false):=(by show _=_;rw[hf,decide_eq_false be,Bool.false_and]);have hg:decide ((k:Int)<(n:Int))=false:=decide_eq_false (by omega);clear hf hb I;go_wp2_with fail
    go_quiet (fail)
    go_wp2;go_ret2;exact⟨by rw[Za ah];rfl,Zf ak (Zf HB (Aa _ _))⟩
theorem Zml(a c)(p:PtD)(v)(w:World) :
  ZH 278 #[F a 0 c,.agg #[E J p.1,E J p.2],v] w (dB #[E J 0,dD false]):=by
 have z:=Zd (Zh w (cZ #[E J p.1,E J p.2] 117));go_enter func278,ntmps278;go_wp2;refine wp_loop_rounds 1 ?_;rw[rounds_succ];go_wp2_with fail
 go_quiet (fail)
 go_wp2;go_ret2;exact⟨rfl,Zf z (Aa _ _)⟩
theorem Zpl(a)(n c:Nat)(L)(p:PtD)(k:Nat)(f:Bool)(w:World)(hs:Srt L)(hn:n<=4611686018427387903)(h:CoinsAt w a n L)(Q:pos p L=k)(z:Y3 p L=f) :
  ZH 278 #[F a n c,.agg #[E J p.1,E J p.2],.func (.func 279) #[] #[]] w (dB #[E J k,dD f]):=by
 obtain⟨hl,hc⟩:=h;by_cases h2:n=0
 ·subst h2;have e:L=[]:=aP.1 hl;subst e;subst Q z;exact Zml a c p _ w
 ·obtain⟨b,off,rfl,_,ac⟩:=hc (by omega);exact Zmk b off n c L p k f w hs hn hl ac Q z
theorem Rn(a)(n c:Nat)(L)(p:PtD)(k:Nat)(f:Bool)(w:World)(hs:Srt L)(hn:n<=4611686018427387903)(h:CoinsAt w a n L)(hk:pos p L=k)(hf:Y3 p L=f) :
  ZH 250 #[F a n c,.agg #[E J p.1,E J p.2]] w (dB #[E J k,dD f]):=by
 have z:=Zh w (cZ #[E J p.1,E J p.2] 117);obtain⟨HB,C⟩:=kh2 z (Zpl a n c L p k f _ hs hn (h.later z) hk hf);clear hs h hk hf z;go_enter func250,ntmps250;go_wp2_with fail;refine C.mono ?_;rintro e w2 ⟨rfl,Q⟩;have ae:=Zd (Zf HB Q);clear Q;go_wp2;go_ret2;exact⟨rfl,Za ae⟩
theorem Zn{fn:Func}{p u:Tmp}{ty:cR}(h:fn.results=#[.cell p ty,.tmp u])(tmps:Array Value)(P:Program)(w) :
  (results fn tmps).run P w =
   ((asAddr (tmps.getD p undef)).run P w).andThen λa z=>((loadVar ty a).run P z).andThen λx Q=>.ok (dB #[x,tmps.getD u undef]) Q:=by
 simp only[results,h];simp[Sem.run_bind,Result.andThen]
theorem Zan(w0 w:World)(p:Nat)(v)(K:List CV)(q:PtD)(h:Pu w0 w p v K)(hs:Srt (K.map (·.1)))(hn:K.length<=4096)(hf:Y3 q (K.map (·.1))=false) :
  ZH 205 #[dC (some ⟨p,0,none⟩),.agg #[E J q.1,E J q.2]] w (dB #[zeroC,dD false]):=by
 obtain⟨a,c,rfl,hC,hS⟩:=h.coins;obtain⟨n,ak⟩:=ZF (K.length);obtain⟨k,hk⟩:=ZF (pos q (K.map (·.1)));have ae:=h.box;rw[ak] at hC ae hn;obtain⟨X,Q⟩:=ZG ((w.alloc (cZ #[E J q.1,E J q.2] 117)).alloc (cZ #[E J 0,E J 0,E J 0,F none 0 0,E J 0,dD false] 124));have aa:ZD w X:=by rw[Q];exact Zf (Zh _ _) (Zh _ _)
 have ag:X.heap[w.heap.size+1]? = some (cZ zeroCs.toArray 124 (0,0)):=by
  rw[Q];have:=aH (w.alloc (cZ #[E J q.1,E J q.2] 117)) (cZ zeroCs.toArray 124);rw[show (w.alloc (cZ #[E J q.1,E J q.2] 117)).heap.size=w.heap.size+1 by simp] at this;exact this
 have x0:X.cell? ⟨w.heap.size,0,none⟩=some (E J q.1):=by rw[Q];exact Ze (Zh _ _) (Yc w _ _ _).1
 have x1:X.cell? ⟨w.heap.size,1,none⟩=some (E J q.2):=by rw[Q];exact Ze (Zh _ _) (Yc w _ _ _).2
 have xp:X.cell? ⟨p,0,none⟩=some (F a n c):=Ze aa (Zb (X:=[F a n c]) ae 0 _ rfl);have PL:=Zd (λw' (hb:ZD X w')=>Rn a n c (K.map (·.1)) q k false w' hs (by omega) ((hC.later aa).later hb) hk hf);obtain⟨an,af⟩:=kh2 aa ag;clear hk hf hC hS hs ae aa ag h ak;go_enter func205,ntmps205;go_wp2_with fail;rw[<-Q];clear Q
 go_region_held3 (λw'=>ZD X w'/\w'.cell? ⟨w.heap.size,0,none⟩=some (E J q.1)/\w'.cell? ⟨w.heap.size,1,none⟩=some (E J q.2)/\w'.cell? ⟨p,0,none⟩=some (F a n c))
  (first
  | exact⟨Zi _,x0,x1,xp⟩
  | (go_split_ands;refine⟨Zf (by assumption) ab,Ze ab (by assumption),Ze ab (by assumption),Ze ab (by assumption)⟩))
  (first|(go_at_call 250;go_split_ands;refine (PL _ (by assumption)).mono ?_;rintro e w' ⟨rfl,ab⟩))
 rename_i hH;have z:=(hH.1.block _ (aA af)).trans af;have HB:=Zd (Zf an hH.1);have f0:=Zg z 0;have f1:=Zg z 1;have f2:=Zg z 2;have f3:=Zg z 3;have f4:=Zg z 4;have f5:=Zg z 5;have c0:=Zb z 0 _ rfl;have c1:=Zb z 1 _ rfl;have c2:=Zb z 2 _ rfl;have c3:=Zb z 3 _ rfl;have c4:=Zb z 4 _ rfl;have c5:=Zb z 5 _ rfl;clear z hH;go_wp2;(try simp only[Exit.inBlock,Exit.then]);refine aW (v:=dB #[zeroC,dD false]) ?_ rfl ⟨rfl,?_⟩
 ·rw[Zn rfl];unfold zeroC;go_simp
 ·exact (((((HB.setCell (Nat.le_succ _) _).setCell (Nat.le_succ _) _).setCell (Nat.le_succ _) _).setCell (Nat.le_succ _) _).setCell (Nat.le_succ _) _).setCell (Nat.le_succ _) _
theorem Vt{w:World}{p:Nat}{v u}{t:cR}(h:w.heap[p]? = some (cZ #[v] t (0,0))):(w.setCell ⟨p,0,none⟩ u).heap[p]? = some (cZ #[u] t (0,0)):=by
 rw[setCell_eq_setRow w p 0 #[v] t (0,0) u h];exact setRow_heap w p _ _ t _ h
theorem Zoi(K:List CV)(k:Nat)(h:k<K.length):(K.map (·.1))[k]'(by simpa using h)=K[k].1:=by simp
theorem W7(w:World)(a b c d e f)(t:cR):(w.alloc (cZ #[a,b,c,d,e,f] t)).heap[w.heap.size]? = some (cZ [a,b,c,d,e,f].toArray t (0,0)):=aH w _
theorem Zam(w0 w)(p:Nat)(v:Value)(K:List CV)(q:PtD)(h:Pu w0 w p v K)(hs:Srt (K.map (·.1)))(hn:K.length<=4096)(hf:Y3 q (K.map (·.1))=true) :
  Calls aB 205 #[dC (some ⟨p,0,none⟩),.agg #[E J q.1,E J q.2]] w λe w'=>∃ (x:CV) (v':Value) (K':List CV),e = dA (dB #[cnV x.1 x.2.1 x.2.2.1 x.2.2.2,dD true])/\Ue q (K.map (·.1))=some (x.1,K'.map (·.1))/\x∈K/\(∀ y∈K',y∈K)/\K'.length+1=K.length /\
   Pu w0 w' p v' K'/\Gr w w' (PuS p v)/\v'.ownBlock=v.ownBlock:=by
 have hO:=h.own;obtain⟨k,z⟩:=ZF (pos q (K.map (·.1)));have hp:=Cj (p:=q) hs;rw[hf,z] at hp;have cb:=Eq.symm hp;rw[Bool.and_eq_true,decide_eq_true_eq,decide_eq_true_eq,List.length_map] at cb;obtain⟨ab,bi⟩:=cb
 have bz:pt ((K.map (·.1))[k]'(by simpa using ab))=q:=by
  rw[cF (by simpa using ab),Option.map_some,bG] at bi;exact bi
 have hT:=Ziz (p:=q) hs (by rw[z];simpa using ab) (by simp only[z];exact bz);simp only[z] at hT;rw[Zoi K k ab,<-List.map_take,<-List.map_drop,<-List.map_append] at hT;obtain⟨a,c,rfl,hC,hS⟩:=h.coins
 obtain⟨g,rfl⟩:∃ g,a=some ⟨g,0,none⟩:=by
  rcases hO.2 with ⟨_,e⟩|⟨g,_,_,e,_⟩
  ·omega
  ·simp only[Value.slice.injEq] at e;exact⟨g,e.1⟩
 obtain⟨n,bj⟩:=ZF (K.length);have aq:=h.box;have bg:g≠p:=λe=>h.ne (by rw[e];rfl);have dm:w0.heap.size<=g:=Wb hO g rfl;obtain⟨x,hx⟩:=ZF (K[k]);have cc:x∈K:=by rw[<-hx];exact List.getElem_mem ab
 obtain⟨f0,f1,f2,f3,f4,f5⟩:=Sv K k ab;rw[hx] at f0 f1 f2 f3 f4 f5 hT;rw[bj] at hC aq hn ab hO;have cg:∀ j u,j<n*6->(Zm K)[j]? = some u->w.cell? ⟨g,j,none⟩=some u:=λj u hj hu=>by rw[World.ownsRow.cellAt hO j hj];exact hu
 obtain⟨X,hX⟩:=ZG ((w.alloc (cZ #[E J q.1,E J q.2] 117)).alloc (cZ #[E J 0,E J 0,E J 0,F none 0 0,E J 0,dD false] 124));have ap:ZD w X:=by rw[hX];exact Zf (Zh _ _) (Zh _ _)
 have bx:X.heap[w.heap.size+1]? = some (cZ zeroCs.toArray 124 (0,0)):=by
  rw[hX];have:=aH (w.alloc (cZ #[E J q.1,E J q.2] 117)) (cZ zeroCs.toArray 124);rw[show (w.alloc (cZ #[E J q.1,E J q.2] 117)).heap.size=w.heap.size+1 by simp] at this;exact this
 have x0:X.cell? ⟨w.heap.size,0,none⟩=some (E J q.1):=by rw[hX];exact Ze (Zh _ _) (Yc w _ _ _).1
 have x1:X.cell? ⟨w.heap.size,1,none⟩=some (E J q.2):=by rw[hX];exact Ze (Zh _ _) (Yc w _ _ _).2
 have xp:X.cell? ⟨p,0,none⟩=some (F (some ⟨g,0,none⟩) n c):=Ze ap (Zb (X:=[F (some ⟨g,0,none⟩) n c]) aq 0 _ rfl);have PL:=Zd (λw' (hb:ZD X w')=>Rn (some ⟨g,0,none⟩) n c (K.map (·.1)) q k true w' hs (by omega) ((hC.later ap).later hb) z hf);obtain⟨D0,D1,D2,D3,D4,D5,cw,bt⟩:=kh8 (cg _ _ (by omega) f0) (cg _ _ (by omega) f1) (cg _ _ (by omega) f2) (cg _ _ (by omega) f3) (cg _ _ (by omega) f4) (cg _ _ (by omega) f5) ap bx;obtain⟨HO,HT,HP,cu,dc⟩:=kh5 hO hT h aq cc;have av:=Zd bj;have dr:p<w.heap.size:=h.lt;have dz:g<w.heap.size:=(hO.lt g rfl).2;clear z hf hC hS hs aq ap bx h hO hT bi bz hp f0 f1 f2 f3 f4 f5 cg hx cc bj;go_enter func205,ntmps205;go_wp2_with fail;rw[<-hX];clear hX
 go_region_held3 (λw'=>ZD X w'/\w'.cell? ⟨w.heap.size,0,none⟩=some (E J q.1)/\w'.cell? ⟨w.heap.size,1,none⟩=some (E J q.2)/\w'.cell? ⟨p,0,none⟩=some (F (some ⟨g,0,none⟩) n c))
  (first
  | exact⟨Zi _,x0,x1,xp⟩
  | (go_split_ands;refine⟨Zf (by assumption) aj,Ze aj (by assumption),Ze aj (by assumption),Ze aj (by assumption)⟩))
  (first|(go_at_call 250;go_split_ands;refine (PL _ (by assumption)).mono ?_;rintro e w' ⟨rfl,aj⟩))
 rename_i hH;have aa:=Zf cw hH.1;have bh:=(hH.1.block _ (aA bt)).trans bt;have d0:=Ze aa D0;have d1:=Ze aa D1;have d2:=Ze aa D2;have d3:=Ze aa D3;have d4:=Ze aa D4;have d5:=Ze aa D5;have bk:=hH.2.2.2;have ed:=aE _ _ bk;have ea:(k:Int)<(n:Int):=by omega
 have eg:IntKind.i64.wrap ((k:Int)+1)=(k:Int)+1:=by rw[bH];omega
 obtain⟨Y,hY⟩:=ZG (w'.alloc (cZ #[E J x.1.1,E J x.1.2.1,E J (cv x.1),.slice x.2.1 x.2.2.1 x.2.2.2,E J (ch x.1),dD (cr x.1)] 124));have ah:ZD w' Y:=by rw[hY];exact Zh _ _
 have hy:Y.heap[w'.heap.size]? = some (cZ [E J x.1.1,E J x.1.2.1,E J (cv x.1),.slice x.2.1 x.2.2.1 x.2.2.2,E J (ch x.1),dD (cr x.1)].toArray 124 (0,0)):=by rw[hY];exact W7 _ _ _ _ _ _ _ _
 have bv:Y.ownsRow w0.heap.size 124 6 (F (some ⟨g,0,none⟩) n c) n (Zm K):=(Gr.of (S:=λ_=>False) (Zf aa ah)).own HO (λ_ _ q=>q);have au:=Mv w0.heap.size g n c k (k+1) K Y ab rfl av bv;rw[show ((k+1:Nat):Int)=(k:Int)+1 by omega] at au;have cx:=Zd au;have yp:=Ze ah bk;have ee:=aE _ _ yp;obtain⟨bq,br,bu⟩:=kh3 (Zf aa ah) (ZE ah bh) hy;have ef:w.heap.size+1<w'.heap.size:=aA bh;clear hH aj aa bh xp x0 x1 ah hy bv au;go_wp2_with fail;rw[<-hY];clear hY;go_wp2_with fail;refine cx.mono ?_;rintro e w4 ⟨rfl,ca,ak⟩;have al:=(ak.block p (by omega) (by simp;exact λe=>bg e.symm)).trans ((bq.block p dr).trans cu);have Q:=(ak.block (w.heap.size+1) (aA br) (by simp;omega)).trans br;have ac:=(ak.block w'.heap.size (aA bu) (by simp;omega)).trans bu;have p4:=Zb (X:=[F (some ⟨g,0,none⟩) n c]) al 0 _ rfl;have en:=Zg al 0;have e0:=Zb ac 0 _ rfl;have e1:=Zb ac 1 _ rfl;have e2:=Zb ac 2 _ rfl;have e3:=Zb ac 3 _ rfl;have e4:=Zb ac 4 _ rfl;have e5:=Zb ac 5 _ rfl;have z0:=Zb Q 0 _ rfl;have z1:=Zb Q 1 _ rfl;have z2:=Zb Q 2 _ rfl;have z3:=Zb Q 3 _ rfl;have z4:=Zb Q 4 _ rfl;have z5:=Zb Q 5 _ rfl;have y0:=Zg Q 0;have y1:=Zg Q 1;have y2:=Zg Q 2;have y3:=Zg Q 3;have y4:=Zg Q 4;have y5:=Zg Q 5;have n1:¬(w'.heap.size=p):=by omega
 have n2:¬(p=w'.heap.size):=by omega
 have n3:¬(w.heap.size+1=p):=by omega
 have n4:¬(p=w.heap.size+1):=by omega
 have n5:¬(w'.heap.size=w.heap.size+1):=by omega
 have n6:¬(w.heap.size+1=w'.heap.size):=by omega
 have GA:Hid (Gr w w4 (PuS p (F (some ⟨g,0,none⟩) n c))):=(Gr.of bq).grown ak (λk z=>.inl (.inr z))
 have GS:Hid (∀ k,PuS p (F (some ⟨g,0,none⟩) n c) k->w0.heap.size<=k):=λk z=>by
  rcases z with rfl|z
  ·exact HP.ge
  ·cases z;exact dm
 have GO:Hid (∀ k,(aX (some ⟨g,0,none⟩) (n - 1) c).ownBlock=some k->¬(k=p\/k=w.heap.size+1)):=λk z=>by
  cases z;rintro (e|e)
  ·exact bg e
  ·have e2:g=w.heap.size+1:=e;omega
 obtain⟨cz,da⟩:=kh2 ca al;have eb:=aA ac;have ec:p<w4.heap.size:=aA al;clear ak ca al Q ac d0 d1 d2 d3 d4 d5 yp bk;go_wp2;(try simp only[Exit.inBlock,Exit.then]);refine aW (v:=dB #[cnV x.1 x.2.1 x.2.2.1 x.2.2.2,dD true]) ?_ rfl ⟨x,F (some ⟨g,0,none⟩) (n - 1) c,K.take k++K.drop (k+1),rfl,Za HT,Za dc,?_,?_,?_,?_,rfl⟩
 ·rw[Zn rfl];unfold cnV;go_simp
 ·exact λy hy=>(bA.1 hy).elim List.mem_of_mem_take List.mem_of_mem_drop
 ·have:=Za av;simp only[bW,bP,List.length_drop];omega
 ·have hl:(K.take k++K.drop (k+1)).length=n - 1:=by
   have:=Za av;simp only[bW,bP,List.length_drop];omega
  have hp:=Za HP;refine⟨?_,hp.ge,?_,?_,λe=>bg (by cases e;rfl),λy hy=>hp.lk y ((bA.1 hy).elim List.mem_of_mem_take List.mem_of_mem_drop)⟩
  ·exact ((GA.one p 0 (.inl (.inl rfl)) _).six (w.heap.size+1) (.inr (Nat.le_succ _)) _ _ _ _ _ _).below hp.bel hp.bel.size GS
  ·exact ((Gr.refl _ (λk=>k=w.heap.size+1)).six (w.heap.size+1) (.inl rfl) _ _ _ _ _ _).heap (Vt da) n4
  ·rw[hl];exact (((Gr.refl w4 (λk=>k=p\/k=w.heap.size+1)).one p 0 (.inl (.inl rfl)) _).six (w.heap.size+1) (.inl (.inr rfl)) _ _ _ _ _ _).own cz GO
 ·exact (GA.one p 0 (.inl (.inl rfl)) _).six (w.heap.size+1) (.inr (Nat.le_succ _)) _ _ _ _ _ _
abbrev Zl:=Int×Int×Int×Int×List TxD
def TxAt(w:World)(b o:Nat)(t:TxD):Prop:=
 w.cell? ⟨b,o,none⟩=some (E J t.1)/\(∃ a n c,w.cell? ⟨b,o+1,none⟩=some (F a n c)/\InsAt w a n t.2.1/\SlOk a n c)/\(∃ a n c,w.cell? ⟨b,o+2,none⟩=some (F a n c)/\OutsAt w a n t.2.2/\SlOk a n c)
theorem TxAt.kept:Hf TxAt:=λ_ _ _ _ _ z h=>by
 obtain⟨h1,⟨a,n,c,h2,h3,h4⟩,Q,n',c',h5,h6,h7⟩:=h;exact⟨Ze z h1,⟨a,n,c,Ze z h2,h3.later z,h4⟩,Q,n',c',Ze z h5,h6.later z,h7⟩
def TxsAt(w:World)(a:Option Addr)(len:Nat)(l:List TxD):Prop:=RowsAt TxAt 3 w a len l
theorem TxsAt.later{w w':World}{a len l}(h:TxsAt w a len l)(z:ZD w w'):TxsAt w' a len l:=RowsAt.later TxAt.kept h z
def W9(p h k n:Int):Bool:=(decide (0<=p) && decide (p<=120)) && ((decide (1<=h) && decide (h<=1000)) && ((decide (1<=k) && decide (k<=1000)) && (decide (0<=n) && decide (n<=1000000000))))
def Vr(t:TxD)(i h:Int):Bool:=if 0<i then !decide (t.2.1.length=0) else decide (t.2.1.length=0) && decide (t.1=h)
def We(h:Int):Nat->List TxD->Int
 | _,[]=>0
 | i,t :: r=>if Zu t≠0 then Zu t else if Vr t i h=false then 4 else We h (i+1) r
def Yk(b:Zl):Int:=if W9 b.1 b.2.1 b.2.2.1 b.2.2.2.1=false then 3 else if 4<b.2.2.2.2.length then 2 else if b.2.2.2.2.length=0 then 4 else We b.2.1 0 b.2.2.2.2
theorem Zmd(h:Int)(T:List TxD)(k:Nat)(z:k<T.length):We h k (T.drop k)=if Zu T[k]≠0 then Zu T[k] else if Vr T[k] k h=false then 4 else We h (k+1) (T.drop (k+1)):=by
 rw[aI z];rfl
theorem Zhz(h:Int)(T:List TxD)(k:Nat)(z:T.length<=k):We h k (T.drop k)=0:=by
 rw[bM z];rfl
theorem Zz(w:World)(a b c d e)(t:cR):(w.alloc (cZ #[a,b,c,d,e] t)).heap[w.heap.size]? = some (cZ [a,b,c,d,e].toArray t (0,0)):=aH w _
theorem Yn{fn:Func}{p:Tmp}{ty:cR}(h:fn.results=#[.cell p ty])(tmps:Array Value)(P:Program)(w) :
  (results fn tmps).run P w=((asAddr (tmps.getD p undef)).run P w).andThen λa z=>(loadVar ty a).run P z:=by
 simp only[results,h];simp[Sem.run_bind,Result.andThen]
