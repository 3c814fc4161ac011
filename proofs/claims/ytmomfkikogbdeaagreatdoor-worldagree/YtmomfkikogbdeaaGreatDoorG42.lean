import Derived.Test.YtmomfkikogbdeaaGreatDoorH
import Derived.Test.YtmomfkikogbdeaaGreatDoorG41
open Go.Proofs.Tryz
open Go.Ending renaming returned->dF
open Go.IntKind renaming i64->J
open Go.Obj renaming cells->dE
open Go.Proofs.Tryz renaming prog->aB
open Go.Value renaming int->bM,int->E,slice->F,tuple->dG
open List renaming getElem?_eq_getElem->aZ,length_eq_zero_iff->aL,replicate->aR,getElem_mem->bE,map_cons->bY,mem_cons_of_mem->cH,mem_cons->aO,drop_of_length_le->bU,length_take->bI,append_assoc->cS,take_of_length_le->aS,getElem?_eq_some_iff->aX,length_append->cJ,mem_append->bL,mem_singleton->cP
open Nat renaming lt_of_lt_of_le->aD,le_refl->aF,zero_le->aI,le_trans->aN
set_option maxHeartbeats 6400000
set_option maxRecDepth 10000
namespace Go.Proofs.YtmomfkikogbdeaaGreatDoor
open Go.RowKit
def Uq(N:List Int):List Int:=N.mergeSort (λx y=>decide (x<=y))
theorem Az(N:List Int):(Uq N).length=N.length:=List.length_mergeSort _
theorem Zio{N M}(h:Uq N=Uq M)(s:Int):s∈N↔s∈M:=by
 have h1:=(List.mergeSort_perm N (λx y=>decide (x<=y))).mem_iff (a:=s);have h2:=(List.mergeSort_perm M (λx y=>decide (x<=y))).mem_iff (a:=s);unfold Uq at h;rw[h] at h1;exact h1.symm.trans h2
theorem N7{w:World}{base g cap n:Nat}{N:List Int}(h:w.ownsRow base 3 1 (F (some ⟨g,0,none⟩) n cap) n (N.map (bM .i64)))(hn:N.length=n):Sort.Holds (bM .i64) w g 0 N.toArray:=by
 subst hn;intro j hj;rw[List.size_toArray] at hj
 have hf:w.frozen? ⟨g,0+j,none⟩=false:=by
  rcases h.2 with ⟨e,_⟩|⟨g',ae,af,e,_,hh,_⟩
  ·cases e
  ·cases e;exact Zg hh _
 refine⟨?_,hf⟩;rw[Nat.zero_add,World.ownsRow.cellAt h j (by omega),List.getElem?_map,aZ hj,getElem!_pos N.toArray j (by simpa using hj)];simp
theorem Cq{w:World}{base g cap n m:Nat}{N:List Int}{os:Array Obj}(h:w.ownsRow base 3 1 (F (some ⟨g,0,none⟩) n cap) n (N.map (bM .i64)))(hn:N.length=n) :
  Tr.IntsAt (Sort.grow (Sort.putRow (bM .i64) (Sort.ahead w m) g 0 (Uq N).toArray) os) (some ⟨g,0,none⟩) n (Uq N)/\Gr w (Sort.grow (Sort.putRow (bM .i64) (Sort.ahead w m) g 0 (Uq N).toArray) os) (λq=>q=g):=by
 have ab:g<w.heap.size:=(h.lt g rfl).2
 have hs:(Sort.putRow (bM .i64) (Sort.ahead w m) g 0 (Uq N).toArray).heap.size=w.heap.size:=by
  unfold Sort.putRow Sort.mapBlock;show (Array.modify _ _ _).size=_;rw[Array.size_modify];rfl
 have h0:=N7 h hn;have h1:Sort.Holds (bM .i64) (Sort.grow (Sort.putRow (bM .i64) (Sort.ahead w m) g 0 (Uq N).toArray) os) g 0 (Uq N).toArray:=Sort.holds_grow _ _ _ _ _ _ (by rw[hs];exact ab) (Sort.holds_putRow _ (Sort.ahead w m) g 0 N.toArray _ h0 (by simp[Az]));have ad:w.heap.size<=(Sort.grow (Sort.putRow (bM .i64) (Sort.ahead w m) g 0 (Uq N).toArray) os).heap.size:=by rw[Sort.size_grow,hs];omega
 refine⟨⟨(Az N).trans hn,λ_=>⟨g,0,rfl,aD ab ad,λi hi=>?_⟩⟩,⟨rfl,rfl,rfl,ad,λb af ae=>?_⟩⟩
 ·have:=(h1 i (by simpa using hi)).1;rw[getElem!_pos _ i (by simpa using hi)] at this;simpa using this
 ·unfold Sort.grow;show ((Sort.putRow (bM .i64) (Sort.ahead w m) g 0 (Uq N).toArray).heap++os)[b]? = _;rw[Array.getElem?_append_left (by rw[hs];exact af)];unfold Sort.putRow Sort.mapBlock;simp only[Array.getElem?_modify];rw[if_neg (λe=>ae e.symm)];rfl
theorem A8(base n:Nat)(v:Value)(N:List Int)(w:World)(hn:N.length=n)(hm:n<=4096)(h:w.ownsRow base 3 1 v n (N.map (bM .i64))) :
  Calls aB 48 #[v] w λe w'=>e = dF (dG #[])/\∃ a c,v = F a n c/\Tr.IntsAt w' a n (Uq N)/\SlOk a n c/\Gr w w' (λq=>v.ownBlock=some q):=by
 obtain⟨a',c',e',s',_⟩:=Tr.ints_of_own h
 rcases h.2 with ⟨rfl,rfl⟩|⟨g,cap,_,rfl,_⟩
 ·have e:N=[]:=aL.1 hn;subst e;refine (Tryz.slices_Sort_int_none none 0 w).mono ?_;rintro e w' ⟨rfl,rfl⟩;exact⟨rfl,none,0,rfl,by rw[show Uq []=[] from List.mergeSort_nil];exact Tr.IntsAt.nil _ _,⟨aF _,aI _,λ_=>⟨rfl,rfl⟩⟩,Gr.refl _ _⟩
 ·have e2:c'=cap:=by injection e' with e1 e2 e3;exact e3.symm
  rw[e2] at s';have e3:a'=some ⟨g,0,none⟩:=by injection e' with e1;exact e1.symm
  rw[e3] at s';have ag:=Tryz.slices_Sort_int g 0 cap N w (N7 h hn) (h.lt g rfl).2 (by omega);rw[hn] at ag;refine ag.mono ?_;rintro e w' ⟨rfl,m,os,rfl⟩;obtain⟨i1,i2⟩:=Cq (m:=m) (os:=os) h hn;exact⟨rfl,_,_,rfl,i1,s',i2.mono (λq _ e=>by rw[show q=g from e];rfl)⟩
theorem Zdl(na ba pa nn nc bn bc pn pc N)(t:Int)(w:World)(hN:Tr.IntsAt w na nn N)(sN:SlOk na nn nc)(hm:nn<=4096) :
  Calls aB 46 #[.agg #[F na nn nc,F ba bn bc,F pa pn pc,E J t]] w λe w'=>∃ a c,e = dF (F a nn c)/\Tr.IntsAt w' a nn (Uq N)/\SlOk a nn c/\ZD w w':=by
 obtain⟨X,hX,ad,ak⟩:=ka00 w [F na nn nc,F ba bn bc,F pa pn pc,E J t] 67;have an:N.length=nn:=hN.1;have C1:=Zd (Tr.cloneInt_any na nn nc N X hm (hN.later ad) sN);obtain⟨x0,xl⟩:=kc1 ak;obtain⟨HB,HL⟩:=kh2 ad an;clear hN sN ad ak an;go_enter func46,ntmps46
 go_upto_region 1 with fail
 rw[<-hX];clear hX;go_wp2_with fail;refine C1.mono ?_;rintro e w1 ⟨v,rfl,ho,am⟩;obtain⟨C2,ab⟩:=kh2 (A8 _ nn v N w1 HL hm ho) (Zf HB am);have ag:Hid (∀ q,v.ownBlock=some q->w.heap.size<=q):=λq hq=>aN HB.size (ho.lt q hq).1;clear ho am C1 HB;go_wp2_with fail;refine C2.mono ?_;rintro e w2 ⟨rfl,a,c,rfl,i1,s1,g1⟩;have au:Hid (∃ a' c',Ending.returned (F a nn c) = dF (F a' nn c')/\Tr.IntsAt w2 a' nn (Uq N)/\SlOk a' nn c'/\ZD w w2):=⟨a,c,rfl,i1,s1,g1.below ab ab.size ag⟩;clear i1 s1 g1 C2 ab ag;go_wp2;go_ret;exact Za au
theorem Zmy{W:WD}(h:Ur W.k W.n W.m=0):∃ x K' y',(∀ Q,Stl W.n Q->Wo W.k ([],[],[],0) Q=(x,K',y'))/\(x=12\/x=0/\K'=W.k/\opN W.k y'=0/\y'.2.2.1=[]/\(∀ y∈W.n,∀ s∈y.1,s∈y'.1) /\
  Ur W.k (aR W.n.length y') []=0/\∀ Q,Stl (aR W.n.length y') Q->Wo W.k ([],[],[],0) Q=(0,W.k,y')):=by
 obtain⟨h1,_,_,_,_,h6,_⟩:=Xi h;by_cases hQ:∃ Q,Stl W.n Q
 ·obtain⟨Q,hq⟩:=hQ;have one:∀ Q',Stl W.n Q'->Q'=Q:=λQ' ab=>Dz _ _ ab.srt hq.srt (λx=>(ab.mem x).trans (hq.mem x).symm)
  rcases Zar h hq with e|⟨t,e,o⟩
  ·exact⟨12,[],([],[],[],0),λQ' ab=>by rw[one Q' ab];exact e,.inl rfl⟩
  ·have o:opN W.k (Q.map (λz:Wd=>z.1),Q.map (λz:Wd=>z.2),[],t)=0:=o;refine⟨0,W.k,(Q.map (λz:Wd=>z.1),Q.map (λz:Wd=>z.2),[],t),λQ' ab=>by rw[one Q' ab];exact e,.inr ⟨rfl,rfl,o,rfl,λy hy=>Zmv hq h6 hy,Eu h o,λQ' ab=>?_⟩⟩;rw[Zez h1 hq ab];exact e
 ·exact⟨12,[],([],[],[],0),λQ hq=>absurd ⟨Q,hq⟩ hQ,.inl rfl⟩
theorem works{W:WD}(h:Ur W.k W.n W.m=0){y':Ye}(ho:opN W.k y'=0)(hm:∀ y∈W.n,∀ s∈y.1,s∈y'.1):∃ v,Tr.workE y'.1 y'.2.1 y'.2.2.2=(v,0)/\∀ y∈W.n,∃ m,Tr.workE y.1 y.2.1 y.2.2.2=(m,0)/\m<=v:=by
 obtain⟨h1,_,_,_,_,h6,_⟩:=Xi h;have each:=λy (hy:y∈W.n)=>Zgf (h6 y hy) ho (hm y hy);obtain⟨_,v,_,e,_⟩:=each W.n[0] (bE _);refine⟨v,e,λy hy=>?_⟩;obtain⟨m,v',e1,e2,e3⟩:=each y hy;rw[e] at e2;exact⟨m,e1,by rw[(Prod.mk.inj e2).1];exact e3⟩
theorem alike{K}{y z:Ye}(h1:opN K y=0)(h2:opN K z=0)(e:Uq y.1=Uq z.1):y.2.2.2=z.2.2.2/\(Z1 K y.1 y.2.1 noB).2 y.2.2.2=(Z1 K z.1 z.2.1 noB).2 z.2.2.2:=Zff h1 h2 (Zio e)
theorem B9{K}{y:Ye}(h:opN K y=0):y.1.length<=4096:=aN (Wf (Xq (Wa h).2.1).1).2.1 (by decide)
def Qh(p:Int):List Yn->List Yn
 | []=>[]
 | x :: l=>if x.1.1=p then Qh x.1.1 l else x :: Qh x.1.1 l
def Vg:List Yn->List Yn
 | []=>[]
 | x :: l=>x :: Qh x.1.1 l
theorem Ls:∀ (l:List Yn) (p:Int),(Qh p l).map (·.1)=Ry p (l.map (·.1))
 | [],_=>rfl
 | x :: l,p=>by
  rw[Qh,bY,Ry];split
  ·exact Ls l _
  ·rw[bY,Ls l]
theorem Lr:∀ (l:List Yn) (p:Int) (x:Yn),x∈Qh p l->x∈l
 | [],_,_,h=>h
 | y :: l,p,x,h=>by
  rw[Qh] at h;split at h
  ·exact cH _ (Lr l _ x h)
  ·rcases aO.1 h with h|h
   ·rw[h];simp
   ·exact cH _ (Lr l _ x h)
theorem Zlh{l}{x:Yn}(h:x∈Vg l):x∈l:=by
 cases l with
 | nil=>exact h
 | cons y l=>
  rcases aO.1 h with h|h
  ·rw[h];simp
  ·exact cH _ (Lr l _ x h)
theorem Hb{D:List Yn}{k:Nat}(h:k<D.length)(p:Int):Qh p (D.drop k)=if D[k].1.1=p then Qh D[k].1.1 (D.drop (k+1)) else D[k] :: Qh D[k].1.1 (D.drop (k+1)):=by
 rw[List.drop_eq_getElem_cons h,Qh]
theorem Zch{D:List Yn}(h:0<D.length):D.take 1++Qh D[0].1.1 (D.drop 1)=Vg D:=by
 cases D with
 | nil=>simp at h
 | cons x l=>rfl
structure Cpt(D E:List Yn)(kk a:Nat):Prop where
 len:E.length=D.length
 lo:1<=kk
 hi:kk<=a
 al:a<D.length
 same:∀ i,a<=i->E[i]? = D[i]?
 eq:E.take kk++Qh (D[a]'al).1.1 (D.drop (a+1))=Vg D
theorem Cpt.skip{D aa:List Yn}{kk a:Nat}(h:Cpt D aa kk a)(hl:a+1<D.length)(e:D[a+1].1.1=(D[a]'h.al).1.1):Cpt D aa kk (a+1):=
 ⟨h.len,h.lo,Nat.le_succ_of_le h.hi,hl,λi hi=>h.same i (by omega),by rw[<-h.eq,Hb hl,if_pos e]⟩
theorem Cpt.put{D aa:List Yn}{kk a:Nat}(h:Cpt D aa kk a)(hl:a+1<D.length)(e:¬D[a+1].1.1=(D[a]'h.al).1.1):Cpt D (aa.set kk D[a+1]) (kk+1) (a+1):=by
 have h1:=h.len;have h2:=h.hi;refine⟨by rw[List.length_set,h1],by omega,by omega,hl,λi hi=>?_,?_⟩
 ·rw[List.getElem?_set_ne (by omega)];exact h.same i (by omega)
 ·rw[<-h.eq,Hb hl,if_neg e,List.take_add_one,List.getElem?_set_self (by omega),List.take_set_of_le (aF _)];simp
theorem Cpt.done{D aa:List Yn}{kk a:Nat}(h:Cpt D aa kk a)(hl:D.length<=a+1):aa.take kk=Vg D:=by
 rw[<-h.eq,bU hl,Qh,List.append_nil]
theorem Tryz.infoNam:(Tryz.prog.info? 322).map (λi=>(i.zero,i.size,i.bytes))=some (some (.agg #[E J 0,E J 0,E J 0,E J 0,E J 0,F none 0 0]),6,64):=by kernel_rfl
def zeroN:Value:=.agg #[E J 0,E J 0,E J 0,E J 0,E J 0,F none 0 0]
theorem Tryz.zeroNam(w):(zeroValue 322).run aB w = .ok zeroN w:=by
 obtain⟨i0,hi,aa,_,_⟩:=info_parts Tryz.infoNam;simp[zeroValue,typeInfo,hi,aa,zeroN]
def Sv(n:Nat):List Value:=(Builtin.zeroCells zeroN.cells n).toList
theorem Hg(n:Nat):(Sv n).length=n*6:=by
 unfold Sv Builtin.zeroCells;rw[Array.length_toList,Array.size_map,Array.size_range];rfl
theorem Zae(n:Nat):∀ v∈Sv n,v.oneCell'=true:=by
 intro v hv;unfold Sv Builtin.zeroCells at hv;rw[Array.mem_toList_iff,Array.mem_map] at hv;obtain⟨i,_,rfl⟩:=hv;have hr:i % 6<6:=Nat.mod_lt _ (by decide);show (zeroN.cells[i % 6]!).oneCell'=true;generalize i % 6=r at *
 match r,hr with
 | 0,_=>rfl
 | 1,_=>rfl
 | 2,_=>rfl
 | 3,_=>rfl
 | 4,_=>rfl
 | 5,_=>rfl
theorem Znj{w:World}{base g n cap kk:Nat}{ab:List Yn}(h:w.ownsRow base 322 6 (F (some ⟨g,0,none⟩) n cap) n (Z9 ab))(hk:kk<n) :
  ∃ aa,(∀ ty d,(Builtin.clear_ #[289] ty #[F (some ⟨g,kk*6,none⟩) (n - kk) d]).run aB w = .ok (dG #[]) (w.setRow g aa))/\(w.setRow g aa).ownsRow base 322 6 (F (some ⟨g,0,none⟩) kk cap) kk (Z9 (ab.take kk))/\Gr w (w.setRow g aa) (λq=>q=g):=by
 obtain⟨ad,h|⟨g',c',aa,hv,ae,hh,h1,h2,h3,h4⟩⟩:=h
 ·cases h.1
 cases hv;have af:aa.toList.length=cap*6:=by simpa using h3
 have an:n*6<=cap*6:=Nat.mul_le_mul_right _ h1;refine⟨(laid aa.toList (kk*6) (Sv (n - kk))).toArray,λty d=>?_,⟨?_,.inr ⟨g,cap,_,rfl,ae,setRow_heap w g aa _ 322 (0,0) hh,by omega,h2,?_,?_⟩⟩,⟨rfl,rfl,rfl,by simp[World.setRow],λk _ ag=>setRow_other w g k _ ag⟩⟩
 ·exact Ug (P:=aB) w 289 322 ty zeroN underlying289 Tryz.zeroNam g (kk*6) (n - kk) d 6 aa 322 (Sv (n - kk)) (by omega) rfl hh (Hg _) (by rw[h3];omega) (Zae _)
 ·unfold Z9;rw[Tu (Wn _),List.length_map,bI];unfold Z9 at ad;rw[Tu (Wn _),List.length_map] at ad;omega
 ·rw[List.size_toArray,Wb _ _ _ (by rw[Hg];omega),af]
 ·show List.take _ (laid _ _ _)=_;unfold laid;rw[cS,List.take_append_of_le_length (by rw[bI];omega),aS (by rw[bI];omega)];have e:aa.toList.take (kk*6)=(aa.toList.take (n*6)).take (kk*6):=by rw[List.take_take,Nat.min_eq_left (by omega)]
  rw[e,h4];unfold Z9;rw[Tt (Wn ab),List.map_take]
theorem Pa{w:World}{base g n cap k:Nat}{aa:List Yn}(h:w.ownsRow base 322 6 (F (some ⟨g,0,none⟩) n cap) n (Z9 aa))(hl:aa.length=n){x:Yn}(hx:aa[k]? = some x) :
  w.cell? ⟨g,k*6,none⟩=some (E J x.1.1)/\w.cell? ⟨g,k*6+1,none⟩=some (E J x.1.2.1)/\w.cell? ⟨g,k*6+2,none⟩=some (E J x.1.2.2.1)/\w.cell? ⟨g,k*6+3,none⟩=some (E J x.1.2.2.2.1)/\w.cell? ⟨g,k*6+4,none⟩=some (E J x.1.2.2.2.2.1)/\w.cell? ⟨g,k*6+5,none⟩=some (.slice x.2.1 x.2.2.1 x.2.2.2):=by
 obtain⟨hk,rfl⟩:=aX.1 hx;have rc:=λj (hj:j<6)=>(World.ownsRow.cellAt h (k*6+j) (by omega)).trans (Tr.wid_at (Wn aa) k (by simpa using hk) j hj);simp only[List.getElem_map] at rc;exact⟨rc 0 (by decide),rc 1 (by decide),rc 2 (by decide),rc 3 (by decide),rc 4 (by decide),rc 5 (by decide)⟩
theorem Zcg{D:List Yn}(h:D.length<2):Vg D=D:=by
 match D,h with
 | [],_=>rfl
 | [_],_=>rfl
 | _ :: _ :: _,h=>simp at h;omega
def namR:Tr.Rec Yn where
 sz:=6
 C _ cs x:=cs=W8 x
 R w b o x:=Tr.CellsAt w b o (W8 x)
 wide _ _ _ h:=by rw[h];rfl
 one _ _ x h:=by rw[h];exact C9 x
 kept _ _ _ _ _ h:=h
 rc _ _ _ x h:=⟨_,h,rfl⟩
 cr _ _ _ _ _ h e:=by rw[<-e];exact h
theorem Mo(base g n cap:Nat)(D:List Yn)(w:World)(hn:D.length=n)(hm:n<=4096)(h:w.ownsRow base 322 6 (F (some ⟨g,0,none⟩) n cap) n (Z9 D)) :
  Calls aB 232 #[F (some ⟨g,0,none⟩) n cap,.func (.func 233) #[] #[]] w λe w'=>∃ m,e = dF (F (some ⟨g,0,none⟩) m cap)/\(Vg D).length=m/\w'.ownsRow base 322 6 (F (some ⟨g,0,none⟩) m cap) m (Z9 (Vg D))/\Gr w w' (λq=>q=g):=by
 have fy:∀ args w,(callFunc 233 args).run aB w = .ok (.enter 233 args) w:=enters_of func233 (by kernel_rfl) rfl;by_cases h2:n<2
 ·have e:=Zcg (D:=D) (by omega);have bv:Hid (∃ m,Ending.returned (F (some ⟨g,0,none⟩) n cap) = dF (F (some ⟨g,0,none⟩) m cap)/\(Vg D).length=m/\w.ownsRow base 322 6 (F (some ⟨g,0,none⟩) m cap) m (Z9 (Vg D))/\Gr w w (λq=>q=g)):=⟨n,rfl,by rw[e];exact hn,by rw[e];exact h,Gr.refl _ _⟩;have hI:(n:Int)<2:=by omega
  clear h e hn;go_enter func232,ntmps232;go_wp2;go_ret;exact Za bv
 have hI:¬(n:Int)<2:=by omega
 have fd:n<=cap:=by
  rcases h.2 with ⟨e,_⟩|⟨g',c',cc,e,_,_,h1,_⟩
  ·cases e
  ·cases e;exact h1
 obtain⟨HO,HN⟩:=kh2 h hn;have F0:Hid (∃ hk:0<D.length,D.take 1++Qh (D[0]'hk).1.1 (D.drop 1)=Vg D):=⟨by omega,Zch (by omega)⟩;clear h hn;go_enter func232,ntmps232;go_wp2_with fail
 go_loopw [5] (λi wr=>∃ k:Nat,k<n/\i = E J ((k:Int)+1)/\Hid (ZD w wr)/\Hid (∃ hk:k<D.length,D.take (k+1)++Qh (D[k]'hk).1.1 (D.drop (k+1))=Vg D)) (λi _=>n - (intOf i).toNat)
 case atStart=>exact⟨0,by omega,rfl,Below.refl _ _,F0⟩
 case round=>
  obtain⟨k,hk,rfl,HB,HF⟩:=hrel;by_cases aw:k+1<n
  ·have ds:(k:Int)+1<(n:Int):=(by omega);have ei:(0:Int)<=(k:Int)+1:=(by omega);have ej:(k:Int)<(n:Int):=(by omega);have el:IntKind.i64.wrap (k:Int)=(k:Int):=(by simp[IntKind.wrap,IntKind.bits,IntKind.signed];omega);have hD:=Za HN;have hO:=(Gr.of (S:=λ_=>False) HB).own HO (λ_ _ q=>q);obtain⟨⟨⟨xs,xp,xh,xk,xo,xT⟩,xa,xn,xc⟩,hx⟩:∃ x,D[k+1]? = some x:=⟨_,aZ (by omega)⟩;obtain⟨⟨⟨ys,yp,yh,yk,yo,yT⟩,ya,yn,yc⟩,hy⟩:∃ y,D[k]? = some y:=⟨_,aZ (by omega)⟩;obtain⟨x0,x1,x2,x3,x4,x5⟩:=Pa hO hD hx;obtain⟨y0,y1,y2,y3,y4,y5⟩:=Pa hO hD hy;obtain⟨o,ho⟩:=ZF (decide (xs=ys));have C:=Zd (λV=>Zke ((xs,xp,xh,xk,xo,xT),xa,xn,xc) ((ys,yp,yh,yk,yo,yT),ya,yn,yc) o V ho);have gl:g<wr.heap.size:=(hO.lt g rfl).2;have KS:Hid (∀ U:World,ZD wr U->(U.cell? ⟨g,(k+1)*6,none⟩=some (E J xs)/\U.cell? ⟨g,(k+1)*6+1,none⟩=some (E J xp)/\U.cell? ⟨g,(k+1)*6+2,none⟩=some (E J xh)/\U.cell? ⟨g,(k+1)*6+3,none⟩=some (E J xk)/\U.cell? ⟨g,(k+1)*6+4,none⟩=some (E J xo)/\U.cell? ⟨g,(k+1)*6+5,none⟩=some (F xa xn xc)/\U.cell? ⟨g,k*6,none⟩=some (E J ys)/\U.cell? ⟨g,k*6+1,none⟩=some (E J yp)/\U.cell? ⟨g,k*6+2,none⟩=some (E J yh)/\U.cell? ⟨g,k*6+3,none⟩=some (E J yk)/\U.cell? ⟨g,k*6+4,none⟩=some (E J yo)/\U.cell? ⟨g,k*6+5,none⟩=some (F ya yn yc)/\g<U.heap.size)):=λU hu=>⟨Ze hu x0,Ze hu x1,Ze hu x2,Ze hu x3,Ze hu x4,Ze hu x5,Ze hu y0,Ze hu y1,Ze hu y2,Ze hu y3,Ze hu y4,Ze hu y5,aD gl hu.size⟩
   clear hO hD x0 x1 x2 x3 x4 x5 y0 y1 y2 y3 y4 y5;go_wp2_with fail;refine wp_region_held_drew (S:=λU=>U.cell? ⟨g,(k+1)*6,none⟩=some (E J xs)/\U.cell? ⟨g,(k+1)*6+1,none⟩=some (E J xp)/\U.cell? ⟨g,(k+1)*6+2,none⟩=some (E J xh)/\U.cell? ⟨g,(k+1)*6+3,none⟩=some (E J xk)/\U.cell? ⟨g,(k+1)*6+4,none⟩=some (E J xo)/\U.cell? ⟨g,(k+1)*6+5,none⟩=some (F xa xn xc)/\U.cell? ⟨g,k*6,none⟩=some (E J ys)/\U.cell? ⟨g,k*6+1,none⟩=some (E J yp)/\U.cell? ⟨g,k*6+2,none⟩=some (E J yh)/\U.cell? ⟨g,k*6+3,none⟩=some (E J yk)/\U.cell? ⟨g,k*6+4,none⟩=some (E J yo)/\U.cell? ⟨g,k*6+5,none⟩=some (F ya yn yc)/\g<U.heap.size) (by kernel_rfl) (KS _ (Zi wr)) (λaa=>?_);refine tkL 0 rfl aa ?_;refine tkL 1 rfl aa ?_;refine tkL 2 rfl aa ?_;refine tkL 3 rfl aa ?_;refine tkL 4 rfl aa ?_;refine tkL 5 rfl aa ?_;refine tkL 6 rfl aa ?_;refine tkL 7 rfl aa ?_;refine tkL 8 rfl aa ?_;refine tkL 9 rfl aa ?_;refine rdS 10 rfl (C wr.drew) ?_;rintro e w5 ⟨rfl,dq⟩;clear aa;have bh:=Zf (Zi wr) dq;refine⟨_,rfl,KS _ bh,λaa=>?_⟩;refine wpAnyH_done (by kernel_rfl) ?_ _;clear aa KS C dq;have ca:=Zd (Zf HB bh);clear bh HB;cases o
   ·have ho:=of_decide_eq_false ho
    have eb:Hid (∃ hk:k+1<D.length,D.take (k+1+1)++Qh (D[k+1]'hk).1.1 (D.drop (k+1+1))=Vg D):=by
     obtain⟨h1,h2⟩:=Za HF;have h3:k+1<D.length:=(by rw[Za HN];exact aw);refine⟨h3,?_⟩;rw[<-h2,Hb h3,if_neg (by rw[(aX.1 hx).2,(aX.1 hy).2];exact ho)];have t:D.take (k+1+1)=D.take (k+1)++[D[k+1]]:=(by rw[List.take_add_one,aZ h3];rfl);rw[t,cS];rfl
    clear HF hx hy ho;go_wp2;go_roundw
    case rel=>exact⟨k+1,aw,by go_num,ca,eb⟩
    case measure=>simp[intOf];omega
   ·have ho:=of_decide_eq_true ho
    have CP:Hid (Cpt D D (k+1) (k+1)):=by
     obtain⟨h1,h2⟩:=Za HF;have h3:k+1<D.length:=(by rw[Za HN];exact aw);refine⟨rfl,by omega,aF _,h3,λ_ _=>rfl,?_⟩;rw[<-h2,Hb h3,if_pos (by rw[(aX.1 hx).2,(aX.1 hy).2];exact ho)]
    clear HF hx hy ho;have eg:¬cap=k+1:=(by omega);go_wp2_with fail;obtain⟨m,dt⟩:=ZF (n - (k+1));obtain⟨c2,dr⟩:=ZF (cap - (k+1));rw[dt,dr];have HM:Hid (n=k+1+m):=(by show n=k+1+m;omega);have m0:0<m:=(by omega);have mI:m<=4096:=(by omega);have ST:Hid (w5.ownsRow base 322 6 (F (some ⟨g,0,none⟩) n cap) n (Z9 D)):=(Gr.of (S:=λ_=>False) ca).own HO (λ_ _ q=>q);have G5:Hid (Gr w w5 (λq=>q=g)):=Gr.of ca;clear dt dr ca eg ei ds ej el aw hk F0
    go_loopw [5,7] (λkv jv V=>∃ (kk t:Nat) (af:List Yn),kv = E J kk/\jv = E J ((t:Int)+1)/\t<m/\Hid (Cpt D af kk (k+1+t))/\Hid (V.ownsRow base 322 6 (F (some ⟨g,0,none⟩) n cap) n (Z9 af))/\Hid (Gr w V (λq=>q=g))) (λ_ j _=>m - (intOf j).toNat)
    case atStart=>exact⟨k+1,0,D,by simp,rfl,m0,CP,ST,G5⟩
    case round=>
     obtain⟨kk,t,af,rfl,rfl,ht,HC,HW,HG⟩:=hrel;clear CP ST G5;have hC:=Za HC;have fg:=hC.lo;have ff:=hC.hi;have ef:=hC.al;have bj:af.length=n:=hC.len.trans HN;have du:=Za HM;rw[Za HN] at ef;have fm:(kk:Int)<(n:Int):=(by omega);have gl:g<wr.heap.size:=(HW.lt g rfl).2;by_cases aw:t+1<m
     ·have ek:(t:Int)+1<(m:Int):=(by omega);have fj:(0:Int)<=(t:Int)+1:=(by omega);have fk:(t:Int)<(m:Int):=(by omega);have fl:IntKind.i64.wrap (t:Int)=(t:Int):=(by simp[IntKind.wrap,IntKind.bits,IntKind.signed];omega);obtain⟨⟨⟨us,up,uh,uk,uo,uT⟩,ua,un,uc⟩,hx⟩:∃ x,D[k+1+(t+1)]? = some x:=⟨_,aZ (by rw[Za HN];omega)⟩;obtain⟨⟨⟨vs,vp,vh,vk,vo,vT⟩,va,vn,vc⟩,hy⟩:∃ y,D[k+1+t]? = some y:=⟨_,aZ (by rw[Za HN];omega)⟩;obtain⟨x0,x1,x2,x3,x4,x5⟩:=Pa HW bj ((hC.same _ (by omega)).trans hx);obtain⟨y0,y1,y2,y3,y4,y5⟩:=Pa HW bj ((hC.same _ (aF _)).trans hy);rw[Nat.add_mul (k+1) (t+1) 6] at x0 x1 x2 x3 x4 x5;rw[Nat.add_mul (k+1) t 6] at y0 y1 y2 y3 y4 y5;obtain⟨o,ho⟩:=ZF (decide (us=vs));have C:=Zd (λV=>Zke ((us,up,uh,uk,uo,uT),ua,un,uc) ((vs,vp,vh,vk,vo,vT),va,vn,vc) o V ho)
      have KS:Hid (∀ U:World,ZD wr U->(U.cell? ⟨g,(k+1)*6+(t+1)*6,none⟩=some (E J us)/\U.cell? ⟨g,(k+1)*6+(t+1)*6+1,none⟩=some (E J up)/\U.cell? ⟨g,(k+1)*6+(t+1)*6+2,none⟩=some (E J uh)/\U.cell? ⟨g,(k+1)*6+(t+1)*6+3,none⟩=some (E J uk)/\U.cell? ⟨g,(k+1)*6+(t+1)*6+4,none⟩=some (E J uo)/\U.cell? ⟨g,(k+1)*6+(t+1)*6+5,none⟩=some (F ua un uc)/\U.cell? ⟨g,(k+1)*6+t*6,none⟩=some (E J vs)/\U.cell? ⟨g,(k+1)*6+t*6+1,none⟩=some (E J vp)/\U.cell? ⟨g,(k+1)*6+t*6+2,none⟩=some (E J vh)/\U.cell? ⟨g,(k+1)*6+t*6+3,none⟩=some (E J vk)/\U.cell? ⟨g,(k+1)*6+t*6+4,none⟩=some (E J vo)/\U.cell? ⟨g,(k+1)*6+t*6+5,none⟩=some (F va vn vc)/\g<U.heap.size)):=λU hu=>⟨Ze hu x0,Ze hu x1,Ze hu x2,Ze hu x3,Ze hu x4,Ze hu x5,Ze hu y0,Ze hu y1,Ze hu y2,Ze hu y3,Ze hu y4,Ze hu y5,aD gl hu.size⟩;clear x0 x1 x2 x3 x4 x5 y0 y1 y2 y3 y4 y5 du;go_wp2_with fail
      refine wp_region_held_drew (S:=λU=>U.cell? ⟨g,(k+1)*6+(t+1)*6,none⟩=some (E J us)/\U.cell? ⟨g,(k+1)*6+(t+1)*6+1,none⟩=some (E J up)/\U.cell? ⟨g,(k+1)*6+(t+1)*6+2,none⟩=some (E J uh)/\U.cell? ⟨g,(k+1)*6+(t+1)*6+3,none⟩=some (E J uk)/\U.cell? ⟨g,(k+1)*6+(t+1)*6+4,none⟩=some (E J uo)/\U.cell? ⟨g,(k+1)*6+(t+1)*6+5,none⟩=some (F ua un uc)/\U.cell? ⟨g,(k+1)*6+t*6,none⟩=some (E J vs)/\U.cell? ⟨g,(k+1)*6+t*6+1,none⟩=some (E J vp)/\U.cell? ⟨g,(k+1)*6+t*6+2,none⟩=some (E J vh)/\U.cell? ⟨g,(k+1)*6+t*6+3,none⟩=some (E J vk)/\U.cell? ⟨g,(k+1)*6+t*6+4,none⟩=some (E J vo)/\U.cell? ⟨g,(k+1)*6+t*6+5,none⟩=some (F va vn vc)/\g<U.heap.size) (by kernel_rfl) (KS _ (Zi wr)) (λaa=>?_);refine tkL 0 rfl aa ?_;refine tkL 1 rfl aa ?_;refine tkL 2 rfl aa ?_;refine tkL 3 rfl aa ?_;refine tkL 4 rfl aa ?_;refine tkL 5 rfl aa ?_;refine tkL 6 rfl aa ?_;refine tkL 7 rfl aa ?_;refine tkL 8 rfl aa ?_;refine tkL 9 rfl aa ?_;refine rdS 10 rfl (C wr.drew) ?_;rintro e w6 ⟨rfl,bh⟩;clear aa;have bi:=Zf (Zi wr) bh;refine⟨_,rfl,KS _ bi,λaa=>?_⟩;refine tkL 11 rfl aa ?_;refine wpAnyH_done (by kernel_rfl) ?_ _;clear aa C bh;have bk:=(Gr.of (S:=λ_=>False) bi).own HW (λ_ _ q=>q);have cl:Hid (Gr w w6 (λq=>q=g)):=HG.on bi;cases o
      ·have ho:=of_decide_eq_false ho
       have CP:Hid (Cpt D (af.set kk ((us,up,uh,uk,uo,uT),ua,un,uc)) (kk+1) (k+1+(t+1))):=by
        have h3:k+1+t+1<D.length:=(by have:=Za HM;rw[Za HN];omega);have:=hC.put h3 (by rw[(aX.1 hy).2];show ¬(D[k+1+(t+1)]'h3).1.1=_;rw[(aX.1 hx).2];exact ho);rw[show D[k+1+t+1]=((us,up,uh,uk,uo,uT),ua,un,uc) from (aX.1 hx).2] at this;exact this
       obtain⟨x0,x1,x2,x3,x4,x5,_,_,_,_,_,_,fc⟩:=KS _ bi;obtain⟨z,hz⟩:∃ z,af[kk]? = some z:=⟨_,aZ (by omega)⟩;obtain⟨z0,z1,z2,z3,z4,z5⟩:=Pa bk bj hz
       have fz:∀ j,w6.frozen? ⟨g,j,none⟩=false:=λj=>by
        rcases bk.2 with ⟨e,_⟩|⟨g',c',cc,e,_,hh,_⟩
        ·cases e
        ·cases e;exact Zg hh j
       have f0:=fz (kk*6);have f1:=fz (kk*6+1);have f2:=fz (kk*6+2);have f3:=fz (kk*6+3);have f4:=fz (kk*6+4);have f5:=fz (kk*6+5)
       have ea:Hid ((Tr.setsW w6 g (kk*6) (W8 ((us,up,uh,uk,uo,uT),ua,un,uc))).ownsRow base 322 6 (F (some ⟨g,0,none⟩) n cap) n (Z9 (af.set kk ((us,up,uh,uk,uo,uT),ua,un,uc)))):=by
        have:=Tr.own_put (Z:=namR) bk (Wn af) (k:=kk) (by simpa using (by omega:kk<af.length)) (cs:=W8 ((us,up,uh,uk,uo,uT),ua,un,uc)) rfl;unfold Z9;rw[List.map_set];exact this
       have GG:Hid (Gr w (Tr.setsW w6 g (kk*6) (W8 ((us,up,uh,uk,uo,uT),ua,un,uc))) (λq=>q=g)):=Tr.setsW_gr _ _ _ cl (.inl rfl);clear fz bk hz HW HG cl hx hy HC hC KS bi bj;go_wp2;go_roundw
       case rel=>exact⟨kk+1,t+1,_,by go_num,by go_num,aw,CP,ea,GG⟩
       case measure=>simp[intOf];omega
      ·have ho:=of_decide_eq_true ho
       have CP:Hid (Cpt D af kk (k+1+(t+1))):=by
        have h3:k+1+t+1<D.length:=(by have:=Za HM;rw[Za HN];omega);exact hC.skip h3 (by rw[(aX.1 hy).2];show (D[k+1+(t+1)]'h3).1.1=_;rw[(aX.1 hx).2];exact ho)
       have dz:=Zd bk;clear hx hy ho HC hC KS bk HW HG bj bi;go_wp2;go_roundw
       case rel=>exact⟨kk,t+1,af,rfl,by go_num,aw,CP,dz,cl⟩
       case measure=>simp[intOf];omega
     ·have hE:=hC.done (by rw[Za HN];omega);obtain⟨cc,k1,k2,k3⟩:=Znj HW (kk:=kk) (by omega);have ek:¬(t:Int)+1<(m:Int):=(by omega);have fe:¬cap=kk:=(by omega);have fo:kk<=cap:=(by omega);have fp:kk<=n:=(by omega);have bv:Hid (∃ q,Ending.returned (F (some ⟨g,0,none⟩) kk cap) = dF (F (some ⟨g,0,none⟩) q cap)/\(Vg D).length=q/\(wr.setRow g cc).ownsRow base 322 6 (F (some ⟨g,0,none⟩) q cap) q (Z9 (Vg D))/\Gr w (wr.setRow g cc) (λq=>q=g)):=⟨kk,rfl,by rw[<-hE,bI];omega,by rw[<-hE];exact k2,HG.trans k3⟩;clear hE k2 k3 HC hC HW HG bj du;go_wp2;go_ret;exact Za bv
  ·have e:k+1=n:=(by omega);have ds:¬(k:Int)+1<(n:Int):=by omega
   have bv:Hid (∃ m,Ending.returned (F (some ⟨g,0,none⟩) n cap) = dF (F (some ⟨g,0,none⟩) m cap)/\(Vg D).length=m/\wr.ownsRow base 322 6 (F (some ⟨g,0,none⟩) m cap) m (Z9 (Vg D))/\Gr w wr (λq=>q=g)):=by
    obtain⟨h1,h2⟩:=Za HF
    have h3:Vg D=D:=by
     rw[<-h2,bU (by rw[Za HN];omega),aS (by rw[Za HN];omega),Qh,List.append_nil]
    exact⟨n,rfl,by rw[h3];exact Za HN,by rw[h3];exact (Gr.of (S:=λ_=>False) HB).own HO (λ_ _ q=>q),Gr.of HB⟩
   clear HF e;go_wp2;go_ret;exact Za bv
theorem Zhw{L:List Ye}{k:Nat}(h:k<L.length):Jg (L.take (k+1))=Jg (L.take k)++Rk L[k]:=by
 unfold Jg;rw[List.take_add_one,aZ h];simp only[Option.toList,List.map_append,List.flatten_append,bY,List.map_nil,List.flatten_cons,List.flatten_nil,List.append_nil]
theorem Zjg{N:List Int}{T:List Zk}{P}{t:Int}{j:Nat}(h1:j<N.length)(h2:j<T.length):(Rk (N,T,P,t)).take (j+1)=(Rk (N,T,P,t)).take j++[(N[j],T[j])]:=by
 unfold Rk;show (N.zip T).take (j+1)=(N.zip T).take j++[(N[j],T[j])];rw[List.take_add_one,aZ (by rw[List.length_zip];omega),List.getElem_zip];rfl
def BlO(w:World)(v:Value)(n:Nat)(R:List Wd)(wr:World):Prop:=∃ D:List Yn,D.map (·.1)=R/\D.length=n/\wr.ownsRow w.heap.size 322 6 v n (Z9 D)/\(∀ x∈D,NamAt w x)/\ZD w wr
theorem BlO.later{w wr w':World}{v}{n:Nat}{R}(h:BlO w v n R wr)(hb:ZD wr w'):BlO w v n R w':=by
 obtain⟨D,h1,h2,h3,h4,h5⟩:=h;exact⟨D,h1,h2,(Gr.of (S:=λ_=>False) hb).own h3 (λ_ _ q=>q),h4,Zf h5 hb⟩
theorem BlO.push{w wr w':World}{v v':Value}{n:Nat}{R}{s p h k o:Int}{a m c T}(q:BlO w v n R wr)(hb:ZD wr w')(hT:TxsAt w a m T)(sT:SlOk a m c){w7:World}
  (ho:∀ D,w'.ownsRow w.heap.size 322 6 v n (Z9 D)->w7.ownsRow w.heap.size 322 6 v' (n+1) (Z9 D++W8 ((s,p,h,k,o,T),a,m,c))) (hg:w'.grownBy w7 v.ownBlock):BlO w v' (n+1) (R++[(s,p,h,k,o,T)]) w7:=by
 obtain⟨D,h1,h2,h3,h4,h5⟩:=q.later hb;refine⟨D++[((s,p,h,k,o,T),a,m,c)],by rw[List.map_append,h1];rfl,by rw[cJ,h2];rfl,?_,λx hx=>?_,?_⟩
 ·have:=ho D h3;unfold Z9 at this ⊢;rw[List.map_append,List.flatten_append];simpa using this
 ·rcases bL.1 hx with hx|hx
  ·exact h4 x hx
  ·rw[cP.1 hx];exact⟨hT,sT⟩
 ·exact ((Gr.refl w' (λq=>w.heap.size<=q)).grown hg (λq e=>.inl (h3.lt q e).1)).below h5 h5.size (λq e=>e)
theorem A7(base n:Nat)(v:Value)(D:List Yn)(w:World)(hn:D.length=n)(hm:n<=4096)(h:w.ownsRow base 322 6 v n (Z9 D)) :
  Calls aB 228 #[v,.func (.func 229) #[] #[]] w λe w'=>e = dF (dG #[])/\∃ D':List Yn,D'.Perm D/\(D'.map (·.1)).Pairwise (λa b=>¬lt2 b a)/\w'.ownsRow base 322 6 v n (Z9 D')/\Gr w w' (λq=>v.ownBlock=some q):=by
 rcases h.2 with ⟨rfl,rfl⟩|⟨g,cap,_,rfl,_⟩
 ·have e:D=[]:=aL.1 hn;subst e;have aa:=AnyF.slices_SortFunc_none { Tryz.sortNam with } none 0 (.func (.func 229) #[] #[]) w
  change Calls aB 228 _ _ _ at aa
  refine aa.mono ?_;rintro e w' ⟨rfl,rfl⟩;exact⟨rfl,[],List.Perm.refl _,List.Pairwise.nil,h,Gr.refl _ _⟩
 ·refine (Zaq base g n cap D w hn hm h).mono ?_;rintro e w' ⟨rfl,D',h1,h2,h3,h4⟩;exact⟨rfl,D',h1,h2,h3,h4.mono (λq _ e=>by rw[e];rfl)⟩
theorem Lu(base n:Nat)(v:Value)(D:List Yn)(w:World)(hn:D.length=n)(hm:n<=4096)(h:w.ownsRow base 322 6 v n (Z9 D)) :
  Calls aB 232 #[v,.func (.func 233) #[] #[]] w λe w'=>∃ v' m,e = dF v'/\(Vg D).length=m/\w'.ownsRow base 322 6 v' m (Z9 (Vg D))/\Gr w w' (λq=>v.ownBlock=some q):=by
 rcases h.2 with ⟨rfl,rfl⟩|⟨g,cap,_,rfl,_⟩
 ·have e:D=[]:=aL.1 hn;subst e;have ac:Hid (∃ v' m,Ending.returned (F none 0 0) = dF v'/\(Vg []).length=m/\w.ownsRow base 322 6 v' m (Z9 (Vg []))/\Gr w w (λq=>(Value.slice none 0 0).ownBlock=some q)):=⟨_,0,rfl,rfl,h,Gr.refl _ _⟩;clear h hn hm;go_enter func232,ntmps232;go_wp2;go_ret;exact Za ac
 ·refine (Mo base g n cap D w hn hm h).mono ?_;rintro e w' ⟨m,rfl,h1,h2,h3⟩;exact⟨_,m,rfl,h1,h2,h3.mono (λq _ e=>by rw[e];rfl)⟩
theorem Zqc{K L}(hr:∀ y∈L,opN K y=0){D D':List Yn}(h1:D.map (·.1)=Jg L)(h2:D'.Perm D)(h3:(D'.map (·.1)).Pairwise (λa b=>¬lt2 b a)):Stl L ((Vg D').map (·.1)):=by
 have hm:∀ x,x∈D'.map (·.1)↔x∈Jg L:=λx=>by rw[<-h1];exact (h2.map (·.1)).mem_iff
 cases D' with
 | nil=>exact⟨λx=>by rw[<-hm x];rfl,List.Pairwise.nil⟩
 | cons y l=>
  have e:(Vg (y :: l)).map (·.1)=y.1 :: Ry y.1.1 (l.map (·.1)):=by rw[Vg,bY,Ls]
  rw[e];rw[bY] at h3 hm;obtain⟨a,b⟩:=Zee _ _ h3 (λa ha b hb=>Bs hr a ((hm a).1 ha) b ((hm b).1 hb));exact⟨λx=>(b x).trans (hm x),a⟩
theorem E6(K na nn nc L)(w:World)(hN:NodsAt w na nn L)(hn:nn<=4)(hr:∀ y∈L,opN K y=0) :
  Calls aB 190 #[F na nn nc] w λe w'=>∃ v n,∃ D:List Yn,e = dF v/\D.length=n/\n<=4096/\w'.ownsRow w.heap.size 322 6 v n (Z9 D)/\Stl L (D.map (·.1))/\(∀ x∈D,NamAt w x)/\ZD w w':=by
 obtain⟨i0,en,ev,ew,ey⟩:=info_parts Tryz.infoNam;have de:L.length=nn:=hN.1;obtain⟨HN,HR,HL⟩:=kh3 hN hr de;have F0:Hid (BlO w (F none 0 0) 0 (Jg (L.take 0)) w):=⟨[],rfl,rfl,⟨rfl,.inl ⟨rfl,rfl⟩⟩,λ_ h=>absurd h (by simp),Below.refl _ _⟩;clear hN hr de;go_enter func190,ntmps190;go_wp2_with fail
 go_loopw [3,10] (λvv iv wr=>∃ k n:Nat,k<=nn/\iv = E J k/\n<=24*k/\Hid (BlO w vv n (Jg (L.take k)) wr)) (λ_ i _=>nn - (intOf i).toNat)
 case atStart=>exact⟨0,0,aI _,rfl,aI _,F0⟩
 case round=>
  obtain⟨k,n,hk,rfl,df,HB⟩:=hrel;clear F0;by_cases es:k<nn
  ·have ep:(k:Int)<(nn:Int):=(by omega);have bj:k<L.length:=(by rw[Za HL];exact es);obtain⟨⟨N,T,P,tip⟩,hy⟩:=ZF (L[k]);have dh:=HR (N,T,P,tip) (hy ▸ bE bj);obtain⟨ct,_⟩:=Px (show opE K N T P tip=0 from dh);have tf:=Wf ct.1;have SN:=Zd (Zhw bj);rw[hy] at SN;obtain⟨b,off,rfl,ek,dl⟩:=HN.2 (by omega);have dd:=dl k bj;rw[hy] at dd;obtain⟨a1,n1,c1,a2,n2,c2,a3,n3,c3,q0,q1,q2,q3,hI,hT,hP,s1,s2,s3⟩:=dd;obtain⟨_,_,_,_,_,an⟩:=Za HB;have r0:=Ze an q0;have r1:=Ze an q1;have r2:=Ze an q2;have r3:=Ze an q3;have rl:b<wr.heap.size:=aD ek an.size;obtain⟨X,hX,cz,bh⟩:=ka00 wr [F a1 n1 c1,F a2 n2 c2,F a3 n3 c3,E J tip] 67;obtain⟨x0,xl⟩:=kc1 bh;obtain⟨az,HI,HT⟩:=kh3 bh hI hT;have cq:N.length=n1:=hI.1;have fq:T.length=n2:=hT.1;have eh:N.length=T.length:=tf.1;have eg:=tf.2.1;have cb:Hid (N.length=n1/\T.length=n1):=⟨cq,by omega⟩;have fx:n1<=24:=(by omega);obtain⟨pb,dj⟩:=ZG (wr.heap.size);have bz:Hid (BlO w u3 n (Jg (L.take k)++(Rk (N,T,P,tip)).take 0) X):=(by rw[List.take_zero,List.append_nil];exact HB.later cz);clear dh ct tf hy dl q0 q1 q2 q3 hI hT hP s1 s2 s3 an cz bh cq eh eg HB
   go_upto_region 5 with fail
   rw[<-hX];clear hX;rw[<-dj] at az x0 xl ⊢;clear dj;go_wp2_with fail
   go_loopw [3,18] (λvv iv V=>∃ j m:Nat,j<=n1/\iv = E J j/\m<=24*k+j/\Hid (BlO w vv m (Jg (L.take k)++(Rk (N,T,P,tip)).take j) V)/\Hid (V.heap[pb]? = some (dE [F a1 n1 c1,F a2 n2 c2,F a3 n3 c3,E J tip].toArray 67 (0,0)))) (λ_ i _=>n1 - (intOf i).toNat)
   case atStart=>exact⟨0,n,aI _,rfl,df,bz,az⟩
   case round=>
    obtain⟨j,m,hj,rfl,hm,HB,HX⟩:=hrel;clear bz az x0 xl r0 r1 r2 r3 rl df;have l0:=cb.1;have l1:=cb.2;by_cases ft:j<n1
    ·have eo:(j:Int)<(n1:Int):=(by omega);obtain⟨b1,o1,rfl,cx,db⟩:=HI.2 (by omega);obtain⟨b2,o2,rfl,cy,dc⟩:=HT.2 (by omega);have v0:=db j (by omega);have v1:=dc j (by omega);have PS:=Zd (Zjg (N:=N) (T:=T) (P:=P) (t:=tip) (j:=j) (by omega) (by omega));obtain⟨sn,dm⟩:∃ x,N[j]'(by omega)=x:=⟨_,rfl⟩;obtain⟨⟨bp,gc,bk,bo,bT⟩,da⟩:=ZF (T[j]'(by omega));rw[dm] at v0 PS;rw[da] at v1 PS;obtain⟨p0,p1,p2,p3,ta,tn,tc,p4,cu,dx⟩:=v1;obtain⟨D,e1,e2,e3,e4,e5⟩:=Za HB;have w0:=Ze e5 v0;have w1:=Ze e5 p0;have w2:=Ze e5 p1;have w3:=Ze e5 p2;have w4:=Ze e5 p3;have w5:=Ze e5 p4;have fz:b1<wr.heap.size:=aD cx e5.size;have ga:b2<wr.heap.size:=aD cy e5.size;obtain⟨-,y1,yl⟩:=kc2 HX;have et:n2=n1:=(by omega);subst et;obtain⟨Y,hY⟩:=ZG (wr.alloc (dE #[E J sn,E J bp,E J gc,E J bk,E J bo,F ta tn tc] 322));have ej:ZD wr Y:=(by rw[hY];exact Zh _ _);have cg:Hid (World.ownsRow (wr.alloc (dE #[E J sn,E J bp,E J gc,E J bk,E J bo,F ta tn tc] 322)) w.heap.size 322 6 u3 m (Z9 D)):=(Gr.of (S:=λ_=>False) (Zh _ _)).own e3 (λ_ _ q=>q);have cf:Hid (∀ t u,([E J sn,E J bp,E J gc,E J bk,E J bo,F ta tn tc]:List Value)[t]? = some u->World.cell? (wr.alloc (dE #[E J sn,E J bp,E J gc,E J bk,E J bo,F ta tn tc] 322)) ((⟨wr.heap.size,0,none⟩:Addr).add t)=some u):=World.news_of_block (heap_alloc_new wr _)
     have SZ:w.heap.size<=(wr.alloc (dE #[E J sn,E J bp,E J gc,E J bk,E J bo,F ta tn tc] 322)).heap.size:=aN e5.size (Zh _ _).size;have BX:Hid ((wr.alloc (dE #[E J sn,E J bp,E J gc,E J bk,E J bo,F ta tn tc] 322)).heap[pb]? = some (dE [F (some ⟨b1,o1,none⟩) n2 c1,F (some ⟨b2,o2,none⟩) n2 c2,F a3 n3 c3,E J tip].toArray 67 (0,0))):=((Zh wr _).block pb yl).trans HX;have NB:Hid (∀ q,u3.ownBlock=some q->q≠pb):=λq hq=>Y1 e3 HX (by decide) q hq
     have cj:Hid (∀ w7 v',World.ownsRow w7 w.heap.size 322 6 v' (m+1) (Z9 D++[E J sn,E J bp,E J gc,E J bk,E J bo,F ta tn tc])->(wr.alloc (dE #[E J sn,E J bp,E J gc,E J bk,E J bo,F ta tn tc] 322)).grownBy w7 u3.ownBlock->BlO w v' (m+1) (Jg (L.take k)++(Rk (N,T,P,tip)).take (j+1)) w7):=λw7 v' ho hg=>by
      rw[Za PS,<-cS];refine⟨D++[((sn,bp,gc,bk,bo,bT),ta,tn,tc)],by rw[List.map_append,e1];rfl,by rw[cJ,e2];rfl,?_,λx hx=>?_,?_⟩
      ·unfold Z9 at ho ⊢;rw[List.map_append,List.flatten_append];exact ho
      ·rcases bL.1 hx with hx|hx
       ·exact e4 x hx
       ·rw[cP.1 hx];exact⟨cu,dx⟩
      ·exact ((Gr.refl (wr.alloc (dE #[E J sn,E J bp,E J gc,E J bk,E J bo,F ta tn tc] 322)) (λq=>w.heap.size<=q)).grown hg (λq e=>.inl (e3.lt q e).1)).below (Zf e5 (Zh _ _)) SZ (λq e=>e)
     clear e1 e2 e3 e4 e5 cu dx v0 p0 p1 p2 p3 p4 db dc cx cy dm da PS HB ej l0 l1
     go_wp2_with (at_builtin;refine wpList_append_lies _ rfl _ _ 289 rfl w.heap.size 322 i0 _ 6 64 underlying289 en ev ew ey rfl (by decide) _ _ _ rfl cg ⟨wr.heap.size,0,none⟩ 1 1 [E J sn,E J bp,E J gc,E J bk,E J bo,F ta tn tc] rfl rfl cf (λu hu=>by simp at hu;rcases hu with rfl|rfl|rfl|rfl|rfl|rfl <;> rfl) (by decide) (by unfold maxLen;omega) (by omega) SZ _ rfl ?_;intro g7 fo w7 di bi eu _;have R1:=Zd (cj w7 _ di bi);have R2:=Zd ((bi.block pb (lt_of_block BX) (λe=>NB pb e.symm rfl)).trans BX);clear di bi eu)
     clear cj cg cf BX NB HX;go_wp2;go_roundw
     case rel=>exact⟨j+1,m+1,by omega,by go_num,by omega,R1,R2⟩
     case measure=>simp[intOf];omega
    ·have e:j=n1:=(by omega);have eo:¬(j:Int)<(n1:Int):=by omega
     have R1:Hid (BlO w u3 m (Jg (L.take (k+1))) wr):=by
      have:=Za HB;have e2:(Rk (N,T,P,tip)).take j=Rk (N,T,P,tip):=aS (by unfold Rk;rw[List.length_zip];show min N.length T.length<=j;omega);rw[e2,<-Za SN] at this;exact this
     clear HB HX;go_wp2;go_roundw
     case rel=>exact⟨k+1,m,by omega,by go_num,by omega,R1⟩
     case measure=>simp[intOf];omega
  ·have e:k=nn:=(by omega);subst e;obtain⟨D,e1,e2,e3,e4,e5⟩:=Za HB;have ep:¬(k:Int)<(k:Int):=(by omega);rw[aS (by rw[Za HL];exact aF _)] at e1;have CS:=Zd (A7 w.heap.size n u3 D wr e2 (by omega) e3)
   have bx:Hid (∀ (D':List Yn) v' q w2 w3,D'.Perm D->(D'.map (·.1)).Pairwise (λa b=>¬lt2 b a)->Gr wr w2 (λq=>u3.ownBlock=some q)->(Vg D').length=q->World.ownsRow w3 w.heap.size 322 6 v' q (Z9 (Vg D'))->Gr w2 w3 (λq=>u3.ownBlock=some q)->∃ v n,∃ D:List Yn,Ending.returned v' = dF v/\D.length=n/\n<=4096/\w3.ownsRow w.heap.size 322 6 v n (Z9 D)/\Stl L (D.map (·.1))/\(∀ x∈D,NamAt w x)/\ZD w w3):=λD' v' q w2 w3 h1 h2 h3 h4 h5 h6=>by
    have er:∀ (l:List Yn) (p:Int),(Qh p l).length<=l.length:=by
     intro l
     induction l with
     | nil=>intro p;exact aF _
     | cons x l ih=>
      intro p;rw[Qh];split
      ·exact Nat.le_succ_of_le (ih _)
      ·exact Nat.succ_le_succ (ih _)
    have hq:q<=n:=by
     rw[<-h4,<-e2,<-h1.length_eq];cases D' with
     | nil=>exact aF _
     | cons x l=>exact Nat.succ_le_succ (er l _)
    refine⟨v',q,Vg D',rfl,h4,by omega,h5,Zqc HR e1 h1 h2,λx hx=>e4 x (h1.mem_iff.1 (Zlh hx)),?_⟩;exact (h3.trans h6).below e5 e5.size (λq hq=>(e3.lt q hq).1)
   have cd:Hid (D.length=n):=e2;clear e1 e3 e4 e5 e2 HB;go_wp2_with fail;refine CS.mono ?_;rintro e w2 ⟨rfl,D',h1,h2,h3,h4⟩;have CC:=Zd (Lu w.heap.size n u3 D' w2 (h1.length_eq.trans cd) (by omega) h3);have F2:=Zd (λv' q w3=>bx D' v' q w2 w3 h1 h2 h4);clear h1 h2 h3 h4 CS bx cd;go_wp2_with fail;refine CC.mono ?_;rintro e w3 ⟨v',q,rfl,h5,h6,h7⟩;have F3:=Zd (F2 v' q w3 h5 h6 h7);clear h5 h6 h7 F2 CC;go_wp2;go_ret;exact Za F3
theorem Wh{K N T}{P:List TxD}{tip:Int}(h:opE K N T P tip=0):P.length<=8/\∀ t∈P,Tr.TxSmall t:=by
 have po:=(Wa h).2.2.2;unfold poE at po;split at po
 ·rename_i q;have e:P=[]:=List.eq_nil_of_length_eq_zero q;subst e;exact⟨by simp,λt ht=>by cases ht⟩
 split at po
 ·cases po
 rename_i q1;split at po
 ·rename_i q;exact absurd po q
 rename_i q2;refine⟨(Ht (Decidable.not_not.1 q2)).2,λt ht=>?_⟩;have hk:P.all (knT K)=true:=by simpa using q1
 have:=List.all_eq_true.1 hk t ht;unfold knT at this;simp only[Bool.and_eq_true,decide_eq_true_eq] at this;exact Tr.tx_small this.1
