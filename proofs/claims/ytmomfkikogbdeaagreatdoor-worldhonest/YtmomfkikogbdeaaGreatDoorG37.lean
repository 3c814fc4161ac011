import Derived.Test.YtmomfkikogbdeaaGreatDoorH
import Derived.Test.YtmomfkikogbdeaaGreatDoorG36
open Go.Proofs.Tryz
open Go renaming lt_of_block->aA
open Go.Ending renaming returned->dA
open Go.IntKind renaming i64->J
open Go.Obj renaming cells->cZ
open Go.Proofs.Tryz renaming prog->aB
open Go.Value renaming int->E,slice->F,tuple->dB,pointer->dC
open Go.World renaming block_lt_of_cell?->aE
open List renaming flatten_cons->bJ,length_append->bW,take_of_length_le->aV,take_append_of_le_length->cJ,length_take->bP
open Nat renaming lt_of_lt_of_le->aD
open Prod.mk renaming injEq->aN
set_option maxHeartbeats 12800000
set_option maxRecDepth 10000
namespace Go.Proofs.YtmomfkikogbdeaaGreatDoor
open Go.RowKit
theorem Zdf{sz:Nat}:∀ {K:List (List Value)},Tr.Wid sz K->K.flatten.length=K.length*sz
 | [],_=>by simp
 | c :: K,h=>by
  have h1:=h c (by simp);have h2:=Zdf (K:=K) (λc z=>h c (by simp[z]));rw[bJ,bW,h2,h1,List.length_cons,Nat.succ_mul];omega
theorem Hw{sz:Nat}:∀ {K:List (List Value)} (_:Tr.Wid sz K) {i:Nat},K.flatten.take (i*sz)=(K.take i).flatten
 | [],_,i=>by simp
 | c :: K,h,0=>by simp
 | c :: K,h,i+1=>by
  have h1:=h c (by simp);have h2:=Hw (K:=K) (λc z=>h c (by simp[z])) (i:=i);rw[bJ,List.take_append,h1,aV (by rw[h1,Nat.succ_mul];omega),show (i+1)*sz - sz=i*sz by rw[Nat.succ_mul];omega,h2,List.take_succ_cons,bJ]
theorem Hx{sz:Nat}:∀ {K:List (List Value)} (_:Tr.Wid sz K) {i:Nat},K.flatten.drop (i*sz)=(K.drop i).flatten
 | [],_,i=>by simp
 | c :: K,h,0=>by simp
 | c :: K,h,i+1=>by
  have h1:=h c (by simp);have h2:=Hx (K:=K) (λc z=>h c (by simp[z])) (i:=i);rw[bJ,List.drop_append,h1,List.drop_of_length_le (by rw[h1,Nat.succ_mul];omega),show (i+1)*sz - sz=i*sz by rw[Nat.succ_mul];omega,h2,List.drop_succ_cons];simp
def zeroM:Value:=.agg #[E J 0,E J 0,E J 0,E J 0,E J 0,E J 0,E J 0,E J 0,F none 0 0,E J 0,F none 0 0,F none 0 0]
theorem Tryz.zeroMsg(w):(zeroValue 106).run aB w = .ok zeroM w:=by
 obtain⟨Q,hi,z,_,_⟩:=info_parts Tr.Tryz.infoMsgC;simp[zeroValue,typeInfo,hi,z,zeroM]
def Vh:List Value:=[E J 0,E J 0,E J 0,E J 0,E J 0,E J 0,E J 0,E J 0,F none 0 0,E J 0,F none 0 0,F none 0 0]
theorem Zer:(Builtin.zeroCells zeroM.cells 1).toList=Vh:=by kernel_rfl
theorem E6:∀ v∈Vh,v.oneCell'=true:=by
 intro v z;simp only[Vh,List.mem_cons,List.not_mem_nil,or_false] at z
 rcases z with rfl|rfl|rfl|rfl|rfl|rfl|rfl|rfl|rfl|rfl|rfl|rfl <;> rfl
theorem Zhs(X Z:List Value)(i n:Nat)(hi:i<n)(Q:n*12<=X.length) :
  (laid (laid X (i*12) ((X.take (n*12)).drop ((i+1)*12))) ((n - 1)*12) Z).take ((n - 1)*12)=(X.take (n*12)).take (i*12)++(X.take (n*12)).drop ((i+1)*12):=by
 have z:((X.take (n*12)).drop ((i+1)*12)).length=(n - 1)*12 - i*12:=by simp;omega
 unfold laid;rw[List.append_assoc,cJ (by simp;omega),aV (by simp;omega)];rw[z,show i*12+((n - 1)*12 - i*12)=(n - 1)*12 by omega,cJ (by rw[bW,z];simp;omega),aV (by rw[bW,z];simp;omega),List.take_take,Nat.min_eq_left (by omega)]
theorem Fp(base g n c i j:Nat)(K:List (List Value))(w:World)(hw:Tr.Wid 12 K)(al:∀ u∈K.flatten,u.oneCell'=true)(hi:i<n)(hj:j=i+1)(hz:K.length=n)(h:w.ownsRow base 106 12 (F (some ⟨g,0,none⟩) n c) n K.flatten) :
  Calls aB 273 #[F (some ⟨g,0,none⟩) n c,E J i,E J j] w λe w'=>e = dA (F (some ⟨g,0,none⟩) (n - 1) c)/\w'.ownsRow base 106 12 (F (some ⟨g,0,none⟩) (n - 1) c) (n - 1) (K.take i++K.drop (i+1)).flatten/\w.grownBy w' (some g):=by
 obtain⟨i0,be,ce,bi,cf⟩:=info_parts Tr.Tryz.infoMsgC;obtain⟨bf,h|⟨g',c',z,hv,bd,hh,h1,h2,h3,h4⟩⟩:=h
 ·cases h.1
 simp only[Value.slice.injEq,Option.some.injEq,Addr.mk.injEq,and_true,true_and] at hv;obtain⟨rfl,rfl⟩:=hv;unfold maxLen at h2;have aj:z.toList.length=c*12:=by simpa using h3
 obtain⟨Q,ad⟩:=ZG ((z.toList.take (n*12)).drop ((i+1)*12));have ae:Q.length=(n - j)*12:=by rw[ad];simp;omega
 have ar:∀ u∈Q,u.oneCell'=true:=λu hu=>by
  rw[ad,h4] at hu;exact al u (List.mem_of_mem_drop hu)
 obtain⟨A,hA,bg⟩:∃ A:Addr,(if c=j then some (⟨g,0,none⟩:Addr) else some ⟨g,j*12,none⟩)=some A/\Hid (∀ t u,Q[t]? = some u->w.drew.cell? (A.add t)=some u):=by
  by_cases hc:c=j
  ·refine⟨⟨g,0,none⟩,by simp[hc],λt u hu=>?_⟩;have h0:Q.length=0:=(by rw[ae];omega);rw[List.length_eq_zero_iff.1 h0] at hu;simp at hu
  ·refine⟨⟨g,j*12,none⟩,by simp[hc],λt u hu=>?_⟩;have ht:t<(n - j)*12:=(by rw[<-ae];exact (List.getElem?_eq_some_iff.1 hu).1);rw[ad,List.getElem?_drop,List.getElem?_take_of_lt (by omega)] at hu;rw[Addr.add_lit];show w.cell? _=_;simp only[World.cell?,hh];rw[<-hu,<-hj];simp
 have h5:i*12+Q.length<=z.size:=by rw[ae,h3];omega
 obtain⟨W1,af⟩:=ZG (w.drew.setRow g (laid z.toList (i*12) Q).toArray);have ak:W1.heap[g]? = some (cZ (laid z.toList (i*12) Q).toArray 106 (0,0)):=by rw[af];exact setRow_heap w.drew g z _ 106 (0,0) hh
 have ah:(laid z.toList (i*12) Q).length=c*12:=by rw[W8 _ _ _ (by simpa using h5),aj]
 have an:∀ ty d,(Builtin.clear_ #[88] ty #[F (some ⟨g,(n - 1)*12,none⟩) 1 d]).run aB W1 = .ok (dB #[]) (W1.setRow g (laid (laid z.toList (i*12) Q) ((n - 1)*12) Vh).toArray):=λty d=>by
  have:=J0 (P:=aB) W1 88 106 ty zeroM underlying88 Tryz.zeroMsg g ((n - 1)*12) 1 d 12 (laid z.toList (i*12) Q).toArray 106 Vh (by decide) Zer ak rfl (by simp[ah];omega) E6;simpa using this
 have cc:i+(n - j)=n - 1:=by omega
 have R:Hid (W1.setRow g (laid (laid z.toList (i*12) Q) ((n - 1)*12) Vh).toArray |>.ownsRow base 106 12 (F (some ⟨g,0,none⟩) (n - 1) c) (n - 1) (K.take i++K.drop (i+1)).flatten):=by
  refine⟨by rw[List.flatten_append,bW,<-Hw hw,<-Hx hw,bP,List.length_drop,Zdf hw];omega,.inr ⟨g,c,(laid (laid z.toList (i*12) Q) ((n - 1)*12) Vh).toArray,rfl,bd,setRow_heap _ g _ _ 106 (0,0) ak,by omega,by unfold maxLen;omega,?_,?_⟩⟩
  ·rw[List.size_toArray,W8 _ _ _ (by rw[ah];simp[Vh];omega),ah]
  ·rw[ad];show List.take _ (laid _ _ _)=_;rw[Zhs z.toList Vh i n hi (by rw[aj];omega),h4,List.flatten_append,Hw hw,Hx hw]
 have G:Hid (w.grownBy (W1.setRow g (laid (laid z.toList (i*12) Q) ((n - 1)*12) Vh).toArray) (some g)):=by
  have e:W1.setRow g (laid (laid z.toList (i*12) Q) ((n - 1)*12) Vh).toArray=w.drew.setRow g (laid (laid z.toList (i*12) Q) ((n - 1)*12) Vh).toArray:=by rw[af,setRow_setRow]
  rw[e];refine⟨rfl,rfl,rfl,by simp[World.setRow],λk hk aq=>?_⟩;exact setRow_other w.drew g k _ (λe=>aq (by rw[e]))
 obtain⟨av,HW,ax,ay,az,bb⟩:=kh6 an af ar ae hh h5;have bs:i<=c:=by omega
 have bv:j<=c:=by omega
 have bx:j<=n:=by omega
 have bt:¬(i=j):=by omega
 have aq:¬(c=i+(n - j)):=by omega
 have ca:i+(n - j)<=n:=by omega
 have cb:(i:Int)+((n - j:Nat):Int)<=(n:Int):=by omega
 have bu:((i:Int) == (j:Int))=false:=by simp;omega
 clear an af ar ae hh h5 ak ah ad h3 h4 bf aj hj hz al hw;go_enter func273,ntmps273;go_wp2_with fail
 go_region_law (refine Uu rfl (.tmp 22) (.tmp 25) 88 rfl 106 i0 12 underlying88 be bi g i c (by simp[Act.eval,Act.put]) A (n - j) (c - j) Q (by simp[Act.eval,Act.put]) ay bg ax (by omega) z 106 az bb ?_;rw[<-Za HW])
 have br:∀ ty d,(Builtin.clear_ #[88] ty #[F (some ⟨g,(n - 1)*12,none⟩) (n - (n - 1)) d]).run aB W1 = .ok (dB #[]) (W1.setRow g (laid (laid z.toList (i*12) Q) ((n - 1)*12) Vh).toArray):=λty d=>by
  rw[show n - (n - 1)=1 by omega];exact av ty d
 go_wp2;go_ret;exact⟨rfl,Za R,Za G⟩
def WD.lost(W:WD)(i:Nat):WD:=⟨W.k,W.n,W.m.take i++W.m.drop (i+1)⟩
theorem Zcz{α : Type}{Z:Tr.Rec α}{w}{K:List (List Value)}{L:List α}(h:Tr.AllC Z w K L){i:Nat}(hi:i<L.length):Tr.AllC Z w (K.take i++K.drop (i+1)) (L.take i++L.drop (i+1)):=by
 have z:=h.1;refine⟨by simp[z],λj h1 h2=>?_⟩;by_cases q:j<i
 ·rw[List.getElem_append_left (by simp;omega),List.getElem_append_left (by simp;omega),List.getElem_take,List.getElem_take];exact h.2 j (by omega) (by omega)
 ·simp only[bW,bP,List.length_drop] at h1 h2;rw[List.getElem_append_right (by simp;omega),List.getElem_append_right (by simp;omega),List.getElem_drop,List.getElem_drop];simp only[bP,z];exact h.2 _ (by omega) (by omega)
theorem Zns{Z:Nat->Prop}{s}{W:WD}{w w4 w6:World}{ka}{kn kc g cap i:Nat}{vn}{Kn Km:List (List Value)}(h:ScAt Z s W w ka kn kc vn (F (some ⟨g,0,none⟩) W.m.length cap) Kn Km)
  (h4:ZD w w4) (h6:w4.grownBy w6 (some g)) (hi:i<W.m.length)
  (ho:w6.ownsRow 0 106 12 (F (some ⟨g,0,none⟩) (W.m.length - 1) cap) (W.m.length - 1) (Km.take i++Km.drop (i+1)).flatten) :
  He Z s (W.lost i) w (w6.setCell ⟨s,2,none⟩ (F (some ⟨g,0,none⟩) (W.m.length - 1) cap)):=by
 have z:=h.box;have ak:=aA z;have Q:Gr w w6 (λq=>q=g):=(Gr.of h4).grown h6 (λq e=>.inl (by injection e with e;exact e.symm));have b6:=Q.heap z (λe=>Xx h.on.rm z (by decide) g rfl e.symm);have gx:Gr w6 (w6.setCell ⟨s,2,none⟩ (F (some ⟨g,0,none⟩) (W.m.length - 1) cap)) (λq=>q=s):=(Gr.refl w6 (λq=>q=s)).one s 2 (.inl rfl) _;have bx:=Tr.set_cells b6 2 (F (some ⟨g,0,none⟩) (W.m.length - 1) cap);have e2:(W.lost i).m.length=W.m.length - 1:=by simp[WD.lost];omega
 refine⟨⟨ka,kn,kc,vn,_,Kn,Km.take i++Km.drop (i+1),bx,λq e=>⟨aD (h.zs q e).1 (Nat.le_trans Q.size gx.size),(h.zs q e).2⟩,?_,?_,λV gV=>?_,h.on.sk⟩,?_,?_⟩
 ·exact gx.own (Q.own h.on.rn (λq hq e=>Tr.own_apart h.on.rm h.on.rn (by decide) q (by rw[e];rfl) hq)) (λq hq e=>Xx h.on.rn z (by decide) q hq e)
 ·rw[e2];exact gx.own ho (λq hq e=>Xx ho b6 (by decide) q hq e)
 ·obtain⟨d1,d2,d3⟩:=h.on.dat V (((Q.mono (λq _ e=>.inr (.inr (by have e:q=g:=e;rw[e];rfl)))).trans (gx.mono (λq _ e=>.inl (.inr e)))).trans gV);exact⟨d1,d2,Zcz d3 hi⟩
 ·exact (Q.mono (λq _ e=>.inr ⟨_,Zb z 2 _ rfl,by have e:q=g:=e;rw[e];rfl⟩)).trans (gx.mono (λq _ e=>.inl e))
 ·rintro q ⟨v,h1,h2⟩;rw[Zb bx 2 _ rfl] at h1;injection h1 with h1;subst h1;exact .inl ⟨_,Zb z 2 _ rfl,h2⟩
theorem Hq(Z:Nat->Prop)(s:Nat)(W:WD)(xk xn xt:Int)(xi:Nat)(xw xN th:Int)(ai ao ni ci no co w)(hS:Sc Z s W w)(hl:xi<W.m.length)(hm:W.m.length<=20) :
  Calls aB 239 #[dC (some ⟨s,0,none⟩),.agg #[E J xk,E J xn,E J xt,E J xi,E J xw,E J xN,E J th,F ai ni ci,F ao no co]] w λe w'=>e = dA (E J 0)/\He Z s (W.lost xi) w w':=by
 obtain⟨ka,kn,kc,vn,vm,Kn,Km,hA⟩:=hS;have z:=hA.on;obtain⟨na,nc,ma,mc,rfl,rfl,_,_,_,sm⟩:=z.read;have hb:=hA.box
 obtain⟨g,rfl⟩:∃ g,ma=some ⟨g,0,none⟩:=by
  rcases z.rm.2 with ⟨_,e⟩|⟨g,cap,ay,e,_⟩
  ·omega
  ·injection e with e;exact⟨g,e⟩
 obtain⟨X,hX,Q,aj⟩:=ka00 w [E J xk,E J xn,E J xt,E J xi,E J xw,E J xN,E J th,F ai ni ci,F ao no co] 103;have ad:=ZE Q hb;have am:=z.now.2.2.1;have wK:=z.now.2.2.wid;have ap:=Tr.flat_one z.now.2.2;have C1:=Zd (Fp 0 g W.m.length mc xi (xi+1) Km X.drew wK ap hl rfl am (z.later (Zf Q (Zi X))).rm);have ag:=Zd (λw6=>Zns (w4:=X.drew) (w6:=w6) (i:=xi) hA (Zf Q (Zi X)));obtain⟨HB,HW⟩:=kh2 ad (z.later Q);have aw:IntKind.i64.wrap ((xi:Int)+1)=((xi+1:Nat):Int):=by rw[IntKind.wrap_i64] <;> omega
 obtain⟨-,-,x2,xl⟩:=kc3 ad;obtain⟨-,-,-,m3,ml⟩:=kc4 aj;clear Q aj hb z ad hA am wK ap;go_enter func239,ntmps239
 go_upto_region 1 with fail
 rw[<-hX];clear hX;(try go_wp2_with fail)
 go_region_law (first
  | (refine Yo (by rfl) 273 #[F (some ⟨g,0,none⟩) W.m.length mc,E J xi,E J ((xi+1:Nat):Int)] (by first|kernel_rfl|(simp only[<-aw];kernel_rfl)) C1 ?_;rintro e w4 ⟨rfl,an,ae⟩;refine⟨_,rfl,?_⟩;have b4:=(ae.block s xl (λe=>Xx HW.rm HB (by decide) g rfl (by injection e with e;exact e.symm))).trans HB;have n2:=Zb b4 2 _ rfl;have nf:=Zg b4 2;have nl:=aA b4;have au:=Zd (ag w4 ae hl an);clear an ae b4))
 all_goals
  clear ag HW HB C1;go_wp2;go_ret;exact⟨rfl,Za au⟩
def Zpu(Z:Nat->Prop)(s:Nat)(hv:Value)(x:Int)(W:WD)(z:World)(n:Nat)(Q caps:Array Value):Prop:=
 (∀ args w,(callFunc n args).run aB w = .ok (.enter n args) w) /\
 ∀ V,ZD z V->Calls aB n (Q++#[hv]++caps) V λe V'=>e = dA (E J x)/\(x=0->Sc Z s W V')/\Gr V V' (λq=>¬Z q)
theorem Zik(s n:Nat)(z caps)(w:World):Calls aB 234 #[dC (some ⟨s,0,none⟩),.func (.func n) z caps] w λe w'=>e = dA (.func (.func 265) #[] #[dC (some ⟨w.heap.size,0,none⟩),dC (some ⟨w.heap.size+1,0,none⟩)])/\w'=(w.alloc (cZ #[dC (some ⟨s,0,none⟩)] 204)).alloc (cZ #[.func (.func n) z caps] 292):=by
 go_enter func234,ntmps234;go_wp2;go_ret;exact⟨rfl,rfl⟩
theorem Zki(s n:Nat)(z caps)(w:World):Calls aB 237 #[dC (some ⟨s,0,none⟩),.func (.func n) z caps] w λe w'=>e = dA (.func (.func 270) #[] #[dC (some ⟨w.heap.size,0,none⟩),dC (some ⟨w.heap.size+1,0,none⟩)])/\w'=(w.alloc (cZ #[dC (some ⟨s,0,none⟩)] 204)).alloc (cZ #[.func (.func n) z caps] 292):=by
 go_enter func237,ntmps237;go_wp2;go_ret;exact⟨rfl,rfl⟩
theorem Af(s n:Nat)(z caps)(w:World):Calls aB 240 #[dC (some ⟨s,0,none⟩),.func (.func n) z caps] w λe w'=>e = dA (.func (.func 274) #[] #[dC (some ⟨w.heap.size,0,none⟩),dC (some ⟨w.heap.size+1,0,none⟩)])/\w'=(w.alloc (cZ #[dC (some ⟨s,0,none⟩)] 204)).alloc (cZ #[.func (.func n) z caps] 292):=by
 go_enter func240,ntmps240;go_wp2;go_ret;exact⟨rfl,rfl⟩
theorem Dt(s n:Nat)(z caps)(w:World):Calls aB 242 #[dC (some ⟨s,0,none⟩),.func (.func n) z caps] w λe w'=>e = dA (.func (.func 276) #[] #[dC (some ⟨w.heap.size,0,none⟩),dC (some ⟨w.heap.size+1,0,none⟩)])/\w'=(w.alloc (cZ #[dC (some ⟨s,0,none⟩)] 204)).alloc (cZ #[.func (.func n) z caps] 292):=by
 go_enter func242,ntmps242;go_wp2;go_ret;exact⟨rfl,rfl⟩
theorem Y8(Z:Nat->Prop)(s:Nat)(W:WD)(xk xn xt xi xw xN th:Int)(ai ao ni ci no co)(b1 b2 n:Nat)(bd caps)(x:Int)(W':WD)(o:Bool)(w:World)(h1:w.heap[b1]? = some (cZ [dC (some ⟨s,0,none⟩)].toArray 204 (0,0)))(h2:w.heap[b2]? = some (cZ [.func (.func n) bd caps].toArray 292 (0,0)))(hS:Sc Z s W w)(ho:Xu xn W.n.length=o)(hd:o=true->Zpu Z s (.agg #[E J xk,E J xn,E J xt,E J xi,E J xw,E J xN,E J th,F ai ni ci,F ao no co]) x W' w n bd caps)(y:Int)(hy:(if o=true then x else 5)=y) :
  Calls aB 265 #[.agg #[E J xk,E J xn,E J xt,E J xi,E J xw,E J xN,E J th,F ai ni ci,F ao no co],dC (some ⟨b1,0,none⟩),dC (some ⟨b2,0,none⟩)] w λe w'=>e = dA (E J y)/\(y=0->Sc Z s W' w')/\Gr w w' (λq=>¬Z q):=by
 obtain⟨X,hX,z,ad⟩:=ka00 w [E J xk,E J xn,E J xt,E J xi,E J xw,E J xN,E J th,F ai ni ci,F ao no co] 103;have k1:=ZE z h1;have Q:=ZE z h2;obtain⟨ln,ae⟩:∃ n,W.n.length=n:=⟨_,rfl⟩
 obtain⟨a,c,hc⟩:∃ a c,X.cell? ⟨s,1,none⟩=some (F a ln c):=by
  obtain⟨ka,kn,kc,vn,vm,Kn,Km,hA⟩:=hS.later z;obtain⟨na,nc,ma,mc,rfl,rfl,_⟩:=hA.on.read;exact⟨_,_,by rw[<-ae];exact Zb hA.box 1 _ rfl⟩
 rw[ae] at ho;have br:s<X.heap.size:=aD hS.lt z.size;obtain⟨C1,aa,ak,ay,HD⟩:=kh5 (Uy xn ln o X.drew ho) z ad Q hd;obtain⟨c1,l1⟩:X.cell? ⟨b1,0,none⟩=some (dC (some ⟨s,0,none⟩))/\b1<X.heap.size:=⟨Zb k1 0 _ rfl,aA k1⟩;obtain⟨-,m1,ml⟩:=kc2 ad;clear h1 h2 hS ho hd z ad k1 Q ae;go_enter func265,ntmps265
 go_upto_region 1 with fail
 rw[<-hX];clear hX
 go_region_law (first
  | (refine Yo (by rfl) 175 #[E J xn,E J ln] (by kernel_rfl) C1 ?_;rintro e w4 ⟨rfl,rfl⟩;refine⟨_,rfl,?_⟩))
 all_goals
  cases o
  ·obtain rfl:(5:Int)=y:=hy;clear HD C1;go_wp2;go_ret
   first|exact⟨rfl,λe=>absurd e (by decide),Gr.of (Zf aa (Zi X))⟩|exact⟨rfl,Gr.of (Zf aa (Zi X))⟩
  ·obtain rfl:x=y:=hy;obtain⟨eg,ar⟩:=HD rfl;have C2:=Zd (ar X.drew (Zf aa (Zi X)));have Q:=Za ay;obtain⟨d0,dl⟩:=kc1 Q;obtain⟨g0,g1,g2,g3,g4,g5,g6,g7,g8,-⟩:=kc9 ak;clear HD C1 ar Q m1;have m1:=Zb ak 1 _ rfl;go_wp2_with fail;refine C2.mono ?_;rintro e w5 ⟨rfl,ap,av⟩;have az:=Zd ap;have ax:Hid (Gr w w5 (λq=>¬Z q)):=(Gr.of (Zf aa (Zi X))).trans av;clear ap av C2;go_wp2;go_ret;exact⟨rfl,Za az,Za ax⟩
theorem Wh(Z:Nat->Prop)(s:Nat)(W:WD)(xk xn xt xi xw xN th:Int)(ai ao ni ci no co)(b1 b2 n:Nat)(bd caps)(x:Int)(W':WD)(o:Bool)(w:World)(h1:w.heap[b1]? = some (cZ [dC (some ⟨s,0,none⟩)].toArray 204 (0,0)))(h2:w.heap[b2]? = some (cZ [.func (.func n) bd caps].toArray 292 (0,0)))(hS:Sc Z s W w)(ho:Xu xi W.m.length=o)(hd:o=true->Zpu Z s (.agg #[E J xk,E J xn,E J xt,E J xi,E J xw,E J xN,E J th,F ai ni ci,F ao no co]) x W' w n bd caps)(y:Int)(hy:(if o=true then x else 5)=y) :
  Calls aB 270 #[.agg #[E J xk,E J xn,E J xt,E J xi,E J xw,E J xN,E J th,F ai ni ci,F ao no co],dC (some ⟨b1,0,none⟩),dC (some ⟨b2,0,none⟩)] w λe w'=>e = dA (E J y)/\(y=0->Sc Z s W' w')/\Gr w w' (λq=>¬Z q):=by
 obtain⟨X,hX,z,ad⟩:=ka00 w [E J xk,E J xn,E J xt,E J xi,E J xw,E J xN,E J th,F ai ni ci,F ao no co] 103;have k1:=ZE z h1;have Q:=ZE z h2;obtain⟨ln,ae⟩:∃ n,W.m.length=n:=⟨_,rfl⟩
 obtain⟨a,c,hc⟩:∃ a c,X.cell? ⟨s,2,none⟩=some (F a ln c):=by
  obtain⟨ka,kn,kc,vn,vm,Kn,Km,hA⟩:=hS.later z;obtain⟨na,nc,ma,mc,rfl,rfl,_⟩:=hA.on.read;exact⟨_,_,by rw[<-ae];exact Zb hA.box 2 _ rfl⟩
 rw[ae] at ho;have br:s<X.heap.size:=aD hS.lt z.size;obtain⟨C1,aa,ak,ay,HD⟩:=kh5 (Uy xi ln o X.drew ho) z ad Q hd;obtain⟨c1,l1⟩:X.cell? ⟨b1,0,none⟩=some (dC (some ⟨s,0,none⟩))/\b1<X.heap.size:=⟨Zb k1 0 _ rfl,aA k1⟩;obtain⟨-,-,-,m3,ml⟩:=kc4 ad;clear h1 h2 hS ho hd z ad k1 Q ae;go_enter func270,ntmps270
 go_upto_region 1 with fail
 rw[<-hX];clear hX
 go_region_law (first
  | (refine Yo (by rfl) 175 #[E J xi,E J ln] (by kernel_rfl) C1 ?_;rintro e w4 ⟨rfl,rfl⟩;refine⟨_,rfl,?_⟩))
 all_goals
  cases o
  ·obtain rfl:(5:Int)=y:=hy;clear HD C1;go_wp2;go_ret
   first|exact⟨rfl,λe=>absurd e (by decide),Gr.of (Zf aa (Zi X))⟩|exact⟨rfl,Gr.of (Zf aa (Zi X))⟩
  ·obtain rfl:x=y:=hy;obtain⟨eg,ar⟩:=HD rfl;have C2:=Zd (ar X.drew (Zf aa (Zi X)));have Q:=Za ay;obtain⟨d0,dl⟩:=kc1 Q;obtain⟨g0,g1,g2,g3,g4,g5,g6,g7,g8,-⟩:=kc9 ak;clear HD C1 ar Q m3;have m3:=Zb ak 3 _ rfl;go_wp2_with fail;refine C2.mono ?_;rintro e w5 ⟨rfl,ap,av⟩;have az:=Zd ap;have ax:Hid (Gr w w5 (λq=>¬Z q)):=(Gr.of (Zf aa (Zi X))).trans av;clear ap av C2;go_wp2;go_ret;exact⟨rfl,Za az,Za ax⟩
theorem Qz(Z:Nat->Prop)(s:Nat)(W:WD)(xk xn xt xi xw xN th:Int)(ai ao ni ci no co)(b1 b2 n:Nat)(bd caps)(x:Int)(W':WD)(w:World)(h1:w.heap[b1]? = some (cZ [dC (some ⟨s,0,none⟩)].toArray 204 (0,0)))(h2:w.heap[b2]? = some (cZ [.func (.func n) bd caps].toArray 292 (0,0)))(hS:Sc Z s W w)(hd:W.m.length≠20->Zpu Z s (.agg #[E J xk,E J xn,E J xt,E J xi,E J xw,E J xN,E J th,F ai ni ci,F ao no co]) x W' w n bd caps)(y:Int)(Q:(if W.m.length=20 then 12 else x)=y) :
  Calls aB 274 #[.agg #[E J xk,E J xn,E J xt,E J xi,E J xw,E J xN,E J th,F ai ni ci,F ao no co],dC (some ⟨b1,0,none⟩),dC (some ⟨b2,0,none⟩)] w λe w'=>e = dA (E J y)/\(y=0->Sc Z s W' w')/\Gr w w' (λq=>¬Z q):=by
 obtain⟨X,hX,z,aq⟩:=ka00 w [E J xk,E J xn,E J xt,E J xi,E J xw,E J xN,E J th,F ai ni ci,F ao no co] 103;have k1:=ZE z h1;have k2:=ZE z h2;obtain⟨ln,af⟩:∃ n,W.m.length=n:=⟨_,rfl⟩
 obtain⟨a,c,hc⟩:∃ a c,X.cell? ⟨s,2,none⟩=some (F a ln c):=by
  obtain⟨ka,kn,kc,vn,vm,Kn,Km,hA⟩:=hS.later z;obtain⟨na,nc,ma,mc,rfl,rfl,_⟩:=hA.on.read;exact⟨_,_,by rw[<-af];exact Zb hA.box 2 _ rfl⟩
 rw[af] at hd Q;have bq:s<X.heap.size:=aD hS.lt z.size;obtain⟨aa,HD⟩:=kh2 z hd;obtain⟨c1,l1⟩:X.cell? ⟨b1,0,none⟩=some (dC (some ⟨s,0,none⟩))/\b1<X.heap.size:=⟨Zb k1 0 _ rfl,aA k1⟩;obtain⟨d0,dl⟩:=kc1 k2;obtain⟨g0,g1,g2,g3,g4,g5,g6,g7,g8,ml⟩:=kc9 aq;clear h1 h2 hS hd z aq k1 k2 af;by_cases hl:ln=20
 ·subst hl;obtain rfl:(12:Int)=y:=by rw[if_pos rfl] at Q;exact Q
  go_enter func274,ntmps274
  go_upto_region 1 with fail
  rw[<-hX];clear hX;go_wp2;go_ret
  first|exact⟨rfl,λe=>absurd e (by decide),Gr.of aa⟩|exact⟨rfl,Gr.of aa⟩
 ·rw[if_neg hl] at Q;subst Q;have gl:((ln:Int) == 20)=false:=by simp;omega
  obtain⟨eg,ar⟩:=HD hl;have C2:=Zd (ar X aa);clear HD ar;go_enter func274,ntmps274
  go_upto_region 1 with fail
  rw[<-hX];clear hX;go_wp2_with fail;refine C2.mono ?_;rintro e w5 ⟨rfl,ap,au⟩;have ax:=Zd ap;have aw:Hid (Gr w w5 (λq=>¬Z q)):=(Gr.of aa).trans au;clear ap au C2;go_wp2;go_ret;exact⟨rfl,Za ax,Za aw⟩
theorem KeptOn.on{Z z:Nat->Prop}{w w'}{d bm:Nat}{D:Dsk}(h:KeptOn Z w d bm D)(g:Gr w w' z)(hz:∀ q,z q->Z q)(Q:¬z d):KeptOn Z w' d bm D:=by
 obtain⟨q1,q2,q3,q4,q5,q6,q7,q8,q9,ac,ad,ae,box,dat,s⟩:=h;exact⟨q1,q2,q3,q4,q5,q6,q7,q8,q9,ac,ad,ae,g.heap box Q,λW g2=>dat W ((g.mono (λq _ e=>.inr (.inr (hz q e)))).trans g2),s⟩
theorem Zoc{D:Dsk}{wk no:Int}{lk}(h:(mnR D wk no lk).1≠0):(mnR D wk no lk).2.1=Ym:=by
 unfold mnR at h ⊢;split
 ·rfl
 rename_i h1;rw[if_neg h1] at h;split
 ·rfl
 rename_i h2;rw[if_neg h2] at h;exact absurd rfl h
def Zse(z:Nat)(b:Zl)(B:Nat)(V:World):Prop:=
 ∃ a n c,V.heap[z]? = some (cZ [E J b.1,E J b.2.1,E J b.2.2.1,E J b.2.2.2.1,F a n c].toArray 39 (0,0))/\(∀ W,Gr V W (λq=>q<B)->TxsAt W a n b.2.2.2.2)/\SlOk a n c
theorem Zog(w:World)(b1 b2 b3 z:Nat)(wk no:Int)(la ln lc l K N T P)(tip:Int)(β : Int->List Zj)(x:Int)(b:Zl)(D':Dsk)(hE:Env w)(hl:OpsAt w la ln l)(sl:SlOk la ln lc)(hn:ln<=8796093022208)(ht:(Lit.int .i64 tip).wf=true)(h1:0<=Yh N T tip)(h2:Yh N T tip<=1000)
  (c1:w.cell? ⟨b1,0,none⟩=some (.int .i64 wk)) (c2:w.cell? ⟨b2,0,none⟩=some (.int .i64 no)) (c3:w.cell? ⟨b3,0,none⟩=some (F la ln lc)) (Q:w.heap[z]? = some (cZ [.int .i64 0,.int .i64 0,.int .i64 0,.int .i64 0,F none 0 0].toArray 39 (0,0))) (hx:mnR ⟨K,N,T,P,tip,β⟩ wk no l=(x,b,D')) :
  DoC 112 #[.pointer (some ⟨b1,0,none⟩),.pointer (some ⟨b2,0,none⟩),.pointer (some ⟨b3,0,none⟩),.pointer (some ⟨z,0,none⟩)] w (λq=>q=z) ⟨K,N,T,P,tip,β⟩ x D' (Zse z b) where
 enters:=enters_of (fn:=Tryz.f112) (by kernel_rfl) (by kernel_rfl) rfl
 old q e:=by have e:q=z:=e;exact e ▸ aA Q
 on B V V':=by
  rintro ⟨a,n,c,h1,h2,h3⟩ g;have lb:=aA Q;refine⟨a,n,c,g.heap h1 (λe=>by have:=e.1;omega),λW g2=>h2 W ((g.mono (λq _ e=>e.2)).trans g2),h3⟩
 call B V d bm m hB hV hD hd hbm hm:=by
  obtain⟨k1,bz,bx,n1,cb,ca,t1,ct,cq,p1,ce,cd,f,hq⟩:=hD;have lb:=aA Q;have C1:=Zd (Zlx hq w hV hE (by omega) (by omega) (by omega) ht h1 h2 wk no la ln lc l (hl.later hV) sl hn x b D' hx);have an:=(hV.block _ lb).trans Q;have q1:=Ze hV c1;have q2:=Ze hV c2;have q3:=Ze hV c3;have bh:=aE _ _ q1;have bi:=aE _ _ q2;have bj:=aE _ _ q3;obtain⟨ag,bk,be⟩:=kh3 an hV.size (aA hq.box);clear hq hE hl sl hn ht h1 h2 hx an Q c1 c2 c3;show Calls aB 112 #[.pointer (some ⟨d,0,none⟩),.pointer (some ⟨b1,0,none⟩),.pointer (some ⟨b2,0,none⟩),.pointer (some ⟨b3,0,none⟩),.pointer (some ⟨z,0,none⟩)] V _;go_enter func112,ntmps112;go_wp2_with fail;refine C1.mono ?_;rintro e w1 ⟨a5,n5,c5,rfl,hF,s5,g1,hk⟩;dsimp only[Jn];have ad:=g1.heap ag (by rintro (e|e) <;> omega);obtain⟨r0,r1,r2,r3,r4,f0,f1,f2,f3,f4,rl⟩:=kf5 ad
  have bd:Hid (∀ W,W=(((((w1.setCell ⟨z,0,none⟩ (.int .i64 b.1)).setCell ⟨z,1,none⟩ (.int .i64 b.2.1)).setCell ⟨z,2,none⟩ (.int .i64 b.2.2.1)).setCell ⟨z,3,none⟩ (.int .i64 b.2.2.2.1)).setCell ⟨z,4,none⟩ (F a5 n5 c5))->Gr V W (λq=>q=d\/q=bm\/q=z)/\(x=0->KeptOn (λq=>q<B) W d bm D')/\Zse z b B W):=λW hW=>by
   have g2:Gr w1 W (λq=>q=z):=(by rw[hW];exact (Gr.refl w1 (λq=>q=z)).five z (.inl rfl) _ _ _ _ _);have bu:V.heap.size≥B:=(by have:=Za be;omega);refine⟨(g1.mono (λq _ e=>?_)).trans (g2.mono (λq _ e=>.inr (.inr e))),λe=>(hk e).on g2 (λq e=>?_) (λe=>?_),a5,n5,c5,?_,λW2 g3=>hF W2 ((g2.mono (λq _ e=>?_)).trans (g3.mono (λq _ e=>?_))),s5⟩
   ·rcases e with e|e
    ·exact .inl e
    ·exact .inr (.inl e)
   ·have e:q=z:=e;show q<B;omega
   ·have e:d=z:=e;omega
   ·rw[hW];exact Tr.set_cells (Tr.set_cells (Tr.set_cells (Tr.set_cells (Tr.set_cells ad 0 _) 1 _) 2 _) 3 _) 4 _
   ·have e:q=z:=e;show q<V.heap.size;omega
   ·have e:q<B:=e;show q<V.heap.size;omega
  clear hF s5 g1 hk ad C1 ag q1 q2 q3 bh bi bj;go_wp2;go_ret;exact⟨rfl,bd _ rfl⟩
def nmR(K:List ByteArray)(N:List Int)(T:List Zl)(P:List TxD)(tip wk no:Int)(l:List (Int×Int)):Int×Zl×Dsk:=
 if opE K N T P tip≠0 then (opE K N T P tip,Ym,Dsk.none) else
 if (mnR ⟨K,N,T,P,tip,(Z0 K N T noB).2⟩ wk no l).1≠0 then ((mnR ⟨K,N,T,P,tip,(Z0 K N T noB).2⟩ wk no l).1,Ym,Dsk.none) else
 (0,(mnR ⟨K,N,T,P,tip,(Z0 K N T noB).2⟩ wk no l).2.1,(mnR ⟨K,N,T,P,tip,(Z0 K N T noB).2⟩ wk no l).2.2)
def NmkR(w w':World)(x:Int)(b:Zl)(D:Dsk)(e:Ending):Prop:=
 ∃ ka kn kc na nn nc ba bn bc pa pn pc a n c,e = dA (dB #[.agg #[F ka kn kc],.agg #[F na nn nc,F ba bn bc,F pa pn pc,E J D.tip],Jn b a n c,E J x]) /\
  Fresh w.heap.size w' (λw2=>Ri w2 ka kn D.k na nn D.n ba bn D.t pa pn D.p/\TxsAt w2 a n b.2.2.2.2)/\SlOk ka kn kc/\SlOk na nn nc/\SlOk ba bn bc/\SlOk pa pn pc/\SlOk a n c/\ZD w w'
theorem Sf{fn:Func}{p q r u:Tmp}{ty Q z:TypeId}(h:fn.results=#[.cell p ty,.cell q Q,.cell r z,.tmp u])(tmps:Array Value)(P:Program)(w) :
  (results fn tmps).run P w =
   ((asAddr (tmps.getD p undef)).run P w).andThen λa w₁=>((loadVar ty a).run P w₁).andThen λx w₂=>((asAddr (tmps.getD q undef)).run P w₂).andThen λb w₃=>((loadVar Q b).run P w₃).andThen λy w₄=>((asAddr (tmps.getD r undef)).run P w₄).andThen λc w₅=>((loadVar z c).run P w₅).andThen λah w₆=>.ok (dB #[x,y,ah,tmps.getD u undef]) w₆:=by
 simp only[results,h];simp[Sem.run_bind,Result.andThen]
theorem Le(ka kn kc K na ba pa nn nc bn bc pn pc N T P)(tip:Int)(w)(hE:Env w)(hK:Bk.TextsAt w ka kn K)(hN:Tr.IntsAt w na nn N)(hT:Tr.BlksAt w ba bn T)(hP:TxsAt w pa pn P)(sN:SlOk na nn nc)(sT:SlOk ba bn bc)(sP:SlOk pa pn pc)(hp:pn<=2513169434916)(hq:∀ t∈P,Tr.TxSmall t)
  (wk no:Int) (la ln lc l) (hl:OpsAt w la ln l) (sl:SlOk la ln lc) (hn:ln<=8796093022208) (x:Int) (b:Zl) (D:Dsk) (hx:nmR K N T P tip wk no l=(x,b,D)) :
  Calls aB 43 #[.agg #[F ka kn kc],.agg #[F na nn nc,F ba bn bc,F pa pn pc,E J tip],E J wk,E J no,F la ln lc] w λe w'=>NmkR w w' x b D e:=by
 obtain⟨X,hX⟩:=ZG (Yw w [cZ #[F ka kn kc] 24,cZ #[F na nn nc,F ba bn bc,F pa pn pc,E J tip] 67,cZ #[E J wk] 3,cZ #[E J no] 3,cZ #[F la ln lc] 48,cZ #[F none 0 0] 24,cZ #[F none 0 0,F none 0 0,F none 0 0,E J 0] 67,cZ #[E J 0,E J 0,E J 0,E J 0,F none 0 0] 39]);have cm:X=(((((((w.alloc (cZ #[F ka kn kc] 24)).alloc (cZ #[F na nn nc,F ba bn bc,F pa pn pc,E J tip] 67)).alloc (cZ #[E J wk] 3)).alloc (cZ #[E J no] 3)).alloc (cZ #[F la ln lc] 48)).alloc (cZ #[F none 0 0] 24)).alloc (cZ #[F none 0 0,F none 0 0,F none 0 0,E J 0] 67)).alloc (cZ #[E J 0,E J 0,E J 0,E J 0,F none 0 0] 39):=hX;have au:ZD w X:=by rw[hX];exact Zs _ _
 have cn:X.heap.size=w.heap.size+8:=by rw[hX];exact Z3 _ _
 have bq:=kl0 hX _ _ rfl;have bs:=kl hX 1 _ _ rfl;have dj:=kl hX 2 _ _ rfl;have dk:=kl hX 3 _ _ rfl;have dl:=kl hX 4 _ _ rfl;have dm:=kl hX 5 _ _ rfl;have dn:=kl hX 6 _ _ rfl;have bt:=kl hX 7 _ _ rfl;obtain⟨x0,bo⟩:=ZF (opE K N T P tip);obtain⟨⟨x1,b1,D1⟩,be⟩:=ZF (mnR ⟨K,N,T,P,tip,(Z0 K N T noB).2⟩ wk no l)
 have ct:x1≠0->b1=Ym:=λe=>by
  have:=Zoc (D:=⟨K,N,T,P,tip,(Z0 K N T noB).2⟩) (wk:=wk) (no:=no) (lk:=l) (by rw[be];exact e);rw[be] at this;exact this
 unfold nmR at hx;simp only[bo,be] at hx
 have C1:=Zd (Tv ka kn kc K na ba pa nn nc bn bc pn pc N T P tip x0 X (hE.later au) (hK.later au) (hN.later au) (hT.later au) (hP.later au) sN sT sP hp hq bo 112 #[dC (some ⟨w.heap.size+2,0,none⟩),dC (some ⟨w.heap.size+3,0,none⟩),dC (some ⟨w.heap.size+4,0,none⟩),dC (some ⟨w.heap.size+7,0,none⟩)] (λq=>q=w.heap.size+7) x1 D1 (Zse (w.heap.size+7) b1) (λe=>by
  have o:=Yg (bo.trans e);have bw:=Rw o.2.1;exact Zog X (w.heap.size+2) (w.heap.size+3) (w.heap.size+4) (w.heap.size+7) wk no la ln lc l K N T P tip _ x1 b1 D1 (hE.later au) (hl.later au) sl hn bw.1 bw.2.1 bw.2.2 (Zb dj 0 _ rfl) (Zb dk 0 _ rfl) (Zb dl 0 _ rfl) bt be))
 obtain⟨HX,bv,bx,cg,cd,ce,cf⟩:=kh7 hx ct au cn dm dn bt;have t0:=Zb bq 0 _ rfl;obtain⟨t1,t2,t3,t4,-⟩:=kc4 bs;have tl:=aA bq;have eb:=aA bs;clear hE hK hN hT hP sN sT sP hp hq hx hl sl hn bo be ct au cn bq bs dj dk dl dm dn bt hX;go_enter func43,ntmps43;go_wp2_with fail;rw[<-cm];clear cm;(try go_wp2_with fail);refine C1.mono ?_;intro e w1 hr
 obtain⟨z,Q,aa,n5,ae,aj,b5,ac,ah,p5,ag,ak,a7,n7,c7,rfl,hF,s1,s2,s3,s4,s7,cq,g1⟩:∃ z Q aa n5 ae aj b5 ac ah p5 ag ak a7 n7 c7,e = dA (dB #[.agg #[F z Q aa],.agg #[F n5 ae aj,F b5 ac ah,F p5 ag ak,E J D.tip],E J x]) /\
   Fresh X.heap.size w1 (λw2=>Ri w2 z Q D.k n5 ae D.n b5 ac D.t p5 ag D.p/\TxsAt w2 a7 n7 b.2.2.2.2)/\SlOk z Q aa/\SlOk n5 ae aj/\SlOk b5 ac ah/\SlOk p5 ag ak/\SlOk a7 n7 c7 /\
   w1.heap[w.heap.size+7]? = some (cZ [E J b.1,E J b.2.1,E J b.2.2.1,E J b.2.2.2.1,F a7 n7 c7].toArray 39 (0,0))/\Gr X w1 (λq=>q=w.heap.size+7):=by
  have ar:=Za HX
  rcases hr with ⟨h0,⟨z,Q,aa,n5,ae,aj,b5,ac,ah,p5,ag,ak,he,hF,s1,s2,s3,s4⟩,hb⟩|⟨h0,g,⟨a7,n7,c7,cu,cl,s7⟩,hr⟩
  ·rw[if_pos h0] at ar;simp only[aN] at ar;obtain⟨rfl,rfl,rfl⟩:=ar;exact⟨z,Q,aa,n5,ae,aj,b5,ac,ah,p5,ag,ak,none,0,0,he,λW g=>⟨hF W g,RowsAt.nil _ _⟩,s1,s2,s3,s4,Zq,ZE hb cf,Gr.of hb⟩
  ·rw[if_neg (λq=>q h0)] at ar
   rcases hr with ⟨h1,z,Q,aa,n5,ae,aj,b5,ac,ah,p5,ag,ak,he,hF,s1,s2,s3,s4⟩|⟨h1,z,Q,aa,n5,ae,aj,b5,ac,ah,p5,ag,ak,he,hF,s1,s2,s3,s4⟩
   ·rw[if_pos h1] at ar;simp only[aN] at ar;obtain⟨rfl,rfl,rfl⟩:=ar;have du:=bv h1;subst du;exact⟨z,Q,aa,n5,ae,aj,b5,ac,ah,p5,ag,ak,a7,n7,c7,he,λW g=>⟨hF W g,cl W (g.mono (λq _ e=>by have e:q<X.heap.size:=e;show q<X.heap.size+4;omega))⟩,s1,s2,s3,s4,s7,cu,g⟩
   ·rw[if_neg (λq=>q h1)] at ar;simp only[aN] at ar;obtain⟨rfl,rfl,rfl⟩:=ar;exact⟨z,Q,aa,n5,ae,aj,b5,ac,ah,p5,ag,ak,a7,n7,c7,he,λW g=>⟨hF W g,cl W (g.mono (λq _ e=>by have e:q<X.heap.size:=e;show q<X.heap.size+4;omega))⟩,s1,s2,s3,s4,s7,cu,g⟩
 have h5:=g1.heap cd (λe=>by have e:w.heap.size+5=w.heap.size+7:=e;omega);have h6:=g1.heap ce (λe=>by have e:w.heap.size+6=w.heap.size+7:=e;omega);obtain⟨o0,of,ol⟩:=kf1 h5;obtain⟨p0,p1,p2,p3,de,df,dg,dh,pl⟩:=kf4 h6;obtain⟨V,hV⟩:=ZG (((((w1.setCell ⟨w.heap.size+1+1+1+1+1,0,none⟩ (F z Q aa)).setCell ⟨w.heap.size+1+1+1+1+1+1,0,none⟩ (F n5 ae aj)).setCell ⟨w.heap.size+1+1+1+1+1+1,1,none⟩ (F b5 ac ah)).setCell ⟨w.heap.size+1+1+1+1+1+1,2,none⟩ (F p5 ag ak)).setCell ⟨w.heap.size+1+1+1+1+1+1,3,none⟩ (E J D.tip))
 have gV:Gr w1 V (λq=>q=w.heap.size+5\/q=w.heap.size+6\/q=w.heap.size+7):=by
  rw[hV];exact ((Gr.refl w1 (λq=>q=w.heap.size+5\/q=w.heap.size+6\/q=w.heap.size+7)).one (w.heap.size+5) 0 (.inl (.inl rfl)) _).four (w.heap.size+6) (.inl (.inr (.inl rfl))) _ _ _ _
 have v7:V.heap[w.heap.size+7]? = some (cZ [E J b.1,E J b.2.1,E J b.2.2.1,E J b.2.2.2.1,F a7 n7 c7].toArray 39 (0,0)):=by
  rw[hV]
  have g:Gr w1 (((((w1.setCell ⟨w.heap.size+1+1+1+1+1,0,none⟩ (F z Q aa)).setCell ⟨w.heap.size+1+1+1+1+1+1,0,none⟩ (F n5 ae aj)).setCell ⟨w.heap.size+1+1+1+1+1+1,1,none⟩ (F b5 ac ah)).setCell ⟨w.heap.size+1+1+1+1+1+1,2,none⟩ (F p5 ag ak)).setCell ⟨w.heap.size+1+1+1+1+1+1,3,none⟩ (E J D.tip)) (λq=>q=w.heap.size+5\/q=w.heap.size+6):=
   ((Gr.refl w1 (λq=>q=w.heap.size+5\/q=w.heap.size+6)).one (w.heap.size+5) 0 (.inl (.inl rfl)) _).four (w.heap.size+6) (.inl (.inr rfl)) _ _ _ _
  exact g.heap cq (λe=>by omega)
 have v6:V.heap[w.heap.size+6]? = some (cZ [F n5 ae aj,F b5 ac ah,F p5 ag ak,E J D.tip].toArray 67 (0,0)):=by
  rw[hV];have g:Gr w1 (w1.setCell ⟨w.heap.size+1+1+1+1+1,0,none⟩ (F z Q aa)) (λq=>q=w.heap.size+5):=(Gr.refl w1 (λq=>q=w.heap.size+5)).one (w.heap.size+5) 0 (.inl rfl) _;exact Tr.set_cells (Tr.set_cells (Tr.set_cells (Tr.set_cells (g.heap h6 (λe=>by have e:w.heap.size+6=w.heap.size+5:=e;omega)) 0 _) 1 _) 2 _) 3 _
 have v5:V.heap[w.heap.size+5]? = some (cZ [F z Q aa].toArray 24 (0,0)):=by
  rw[hV];have g:Gr (w1.setCell ⟨w.heap.size+1+1+1+1+1,0,none⟩ (F z Q aa)) (((((w1.setCell ⟨w.heap.size+1+1+1+1+1,0,none⟩ (F z Q aa)).setCell ⟨w.heap.size+1+1+1+1+1+1,0,none⟩ (F n5 ae aj)).setCell ⟨w.heap.size+1+1+1+1+1+1,1,none⟩ (F b5 ac ah)).setCell ⟨w.heap.size+1+1+1+1+1+1,2,none⟩ (F p5 ag ak)).setCell ⟨w.heap.size+1+1+1+1+1+1,3,none⟩ (E J D.tip)) (λq=>q=w.heap.size+6):=(Gr.refl (w1.setCell ⟨w.heap.size+1+1+1+1+1,0,none⟩ (F z Q aa)) (λq=>q=w.heap.size+6)).four (w.heap.size+6) (.inl rfl) _ _ _ _;exact g.heap (Tr.set_cells h5 0 _) (λe=>by have e:w.heap.size+5=w.heap.size+6:=e;omega)
 obtain⟨bz,ca,cb,GV⟩:=kh4 v5 v6 v7 gV
 have dp:Hid (∀ W,Gr w1 W (λq=>q=w.heap.size+5\/q=w.heap.size+6\/q=w.heap.size+7)->NmkR w W x b D (dA (dB #[.agg #[F z Q aa],.agg #[F n5 ae aj,F b5 ac ah,F p5 ag ak,E J D.tip],.agg #[E J b.1,E J b.2.1,E J b.2.2.1,E J b.2.2.2.1,F a7 n7 c7],E J x]))):=λW g=>by
  have ed:=Za cg;refine⟨z,Q,aa,n5,ae,aj,b5,ac,ah,p5,ag,ak,a7,n7,c7,rfl,λW2 g2=>hF W2 ((g.mono (λq _ e=>?_)).trans (g2.mono (λq _ e=>?_))),s1,s2,s3,s4,s7,?_⟩
  ·show q<X.heap.size;omega
  ·have e:q<w.heap.size:=e;show q<X.heap.size;omega
  ·have gX:Gr w X (λq=>False):=Gr.of bx;have gW:Gr w W (λ_=>False):=(gX.far g1 (λq e=>.inl (by have e:q=w.heap.size+7:=e;omega))).far g (λq e=>.inl (by omega));exact gW.below (Below.refl _ _) (Nat.le_refl _) (λ_ q=>q.elim)
 clear hr hF s1 s2 s3 s4 s7 cq g1 h5 h6 v5 v6 v7 gV HX bv cd ce cf C1 t0 t1 t2 t3 t4 tl eb cg bx
 go_upto_region 2 with fail
 rw[<-hV];clear hV o0 of ol p0 p1 p2 p3 de df dg dh pl;have v5:=Za bz;have v6:=Za ca;have v7:=Za cb;obtain⟨o0,of,ol⟩:=kf1 v5;obtain⟨p0,p1,p2,p3,de,df,dg,dh,pl⟩:=kf4 v6;obtain⟨q0,q1,q2,q3,q4,ej,ek,el,en,eo,ql⟩:=kf5 v7;clear v5 v6 v7 bz ca cb
 go_region
 all_goals
  go_wp2;(try simp only[Exit.inBlock,Exit.then]);refine bodyPost_ret (v:=dB #[.agg #[F z Q aa],.agg #[F n5 ae aj,F b5 ac ah,F p5 ag ak,E J D.tip],.agg #[E J b.1,E J b.2.1,E J b.2.2.1,E J b.2.2.2.1,F a7 n7 c7],E J x]) ?_ rfl ?_
  ·rw[Sf rfl];go_simp
  ·exact dp _ (((((GV.one (w.heap.size+5) 0 (.inl (.inl rfl)) _).four (w.heap.size+6) (.inl (.inr (.inl rfl))) _ _ _ _).five (w.heap.size+7) (.inl (.inr (.inr rfl))) _ _ _ _ _).trans (Gr.of (Zi _))))
