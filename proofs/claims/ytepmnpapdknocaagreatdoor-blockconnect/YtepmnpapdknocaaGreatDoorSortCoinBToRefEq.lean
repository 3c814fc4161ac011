/- sort.Slice at coins, and the reference's sorted. -/
import Derived.Test.YtepmnpapdknocaaGreatDoorSortPdqToSortCoin
import Derived.Test.YtepmnpapdknocaaGreatDoorCoinCheckBToCoinInsert
import Derived.Test.YtepmnpapdknocaaGreatDoorRefPlaceToSortPivot
import Derived.Test.YtepmnpapdknocaaGreatDoorCoinPutToLockDo
import Derived.Test.YtepmnpapdknocaaGreatDoorTxCheckBToTxParts
set_option maxHeartbeats 3200000
set_option maxRecDepth 10000
namespace Go.Proofs.YtepmnpapdknocaaGreatDoor
open Go.RowKit Go.Lib
theorem Tryz.infoCoins:(Tryz.prog.info? 25).map (fun i=>i.desc)=some (.slice 88):=by kernel_rfl
theorem Tryz.infoCoinS:(Tryz.prog.info? 88).map (fun i=>(i.size,i.bytes,i.hasPointers))=some (6,64,true):=by kernel_rfl
theorem Ho:∃ i ie,Tryz.prog.info? 25=some i∧i.desc = .slice 88∧Tryz.prog.info? 88=some ie∧ie.size=6∧ie.bytes=64∧ie.hasPointers=true:=by
 have h1:=Tryz.infoCoins
 have h2:=Tryz.infoCoinS
 cases q1:Tryz.prog.info? 25 with
 | none=>rw[q1] at h1;cases h1
 | some i=>
  cases q2:Tryz.prog.info? 88 with
  | none=>rw[q2] at h2;cases h2
  | some ie=>
   rw[q1] at h1
   rw[q2] at h2
   simp only[Option.map_some,Option.some.injEq,Prod.mk.injEq] at h1 h2
   exact⟨i,ie,rfl,h1,rfl,h2.1,h2.2.1,h2.2.2⟩
theorem swap9(n:Nat)(ie:TypeInfo)(hb:ie.bytes=64)(hp:ie.hasPointers=true)(h2:2≤n):swapperK n ie 25=9:=by
 have e0:(n == 0)=false:=by simp;omega
 have e1:(n == 1)=false:=by simp;omega
 simp[swapperK,e0,e1,hb,hp]
theorem Zea(x:CV)(v:Value)(h:v∈Vs x):v.oneCell'=true:=Yz [x] v h
theorem Al(w0:World)(blk off n:Nat)(g:Nat)(lb:Array Value)(sf:Nat)(sb:Array Value)(hn:n≤4096)(hb:blk<w0.heap.size)(hs:SwapSwapsK Tryz.prog sf sb Vs 6 blk off n) :
  Tf Tryz.prog 201 g lb sf sb n w0.heap.size (CSt w0 blk off n):=by
 intro a b d w h hab hbn
 have hl:=h.len
 refine (Any.breakPatterns_func_cells_w Tryz.laysGg28 Vs 6 (fun _=>rfl) (.func g) #[] lb sf sb blk off a b d w (by rw[hl];exact hs) h.holds (Nat.lt_of_lt_of_le hb h.gr.size) hab (by omega) (by omega)).mono ?_
 rintro e w' ⟨rfl,m,os,rfl⟩
 have hp:=Sort.breakPatterns_holds d a b hab (by omega)
 have r:=h.put hb (d':=Sort.breakPatterns d a b) hp.1 m os
 exact⟨rfl,_,hp,r.1,r.2⟩
theorem Zcg(w0:World)(blk off n:Nat)(g:Nat)(lb:Array Value)(sf:Nat)(sb:Array Value)(hn:n≤4096)(hb:blk<w0.heap.size)(hs:SwapSwapsK Tryz.prog sf sb Vs 6 blk off n) :
  Tf Tryz.prog 203 g lb sf sb n w0.heap.size (CSt w0 blk off n):=by
 intro a b d w h hab hbn
 have hl:=h.len
 refine (Any.reverseRange_func_cells_w Tryz.laysGg30 Vs 6 (fun _=>rfl) (.func g) #[] lb sf sb blk off a b d w (by rw[hl];exact hs) h.holds (Nat.lt_of_lt_of_le hb h.gr.size) hab (by omega) (by omega)).mono ?_
 rintro e w' ⟨rfl,m,os,rfl⟩
 have hp:=Sort.reverseRange_holds d a b hab (by omega)
 have r:=h.put hb (d':=Sort.reverseRange d a b) hp.1 m os
 exact⟨rfl,_,hp,r.1,r.2⟩
theorem P8(w:World)(p:Option Addr)(n c:Nat)(h1:n≤1)(lf:Fn)(la lb:Array Value) :
  Calls Tryz.prog 124 #[.iface 25 (.slice p n c),.func lf la lb] w fun e w'=>e = .returned (.tuple #[])∧Below w.heap.size w w':=by
 obtain⟨i,ie,hi,hd,hie,hs,hby,hp⟩:=Ho
 have key:∀ f,Tryz.prog.funcs.findIdx? (·.name == "internal/reflectlite" ++ ".Swapper$" ++ toString (swapperK n ie 25))=some f→Calls Tryz.prog 124 #[.iface 25 (.slice p n c),.func lf la lb] w fun e w'=>e = .returned (.tuple #[])∧Below w.heap.size w w':=fun f hf=>by
  refine (Any.sort_Slice_tiny Tryz.laysGg6 25 88 i ie hi hd (by kernel_rfl) hie 25 (fun _=>by kernel_rfl) p n c h1 f hf lf la lb w).mono ?_
  rintro e w' ⟨rfl,os,rfl⟩
  exact⟨rfl,rfl,rfl,rfl,by simp[Sort.grow],fun k hk=>Sort.heap_grow_old w os hk⟩
 by_cases h0:n=0
 ·subst h0
  exact key 188 (by rw[show swapperK 0 ie 25=1 from rfl];kernel_rfl)
 ·obtain rfl:n=1:=by omega
  exact key 189 (by rw[show swapperK 1 ie 25=2 from rfl];kernel_rfl)
theorem P7(w:World)(blk off n c bx:Nat)(d:Array CV)(hn:n≤4096)(h2:2≤n)(h:CSt w blk off n w d)(hb:blk<w.heap.size)(hc:w.cell? ⟨bx,0,none⟩=some (.slice (some ⟨blk,off,none⟩) n c))(hne:bx≠blk) :
  Calls Tryz.prog 124 #[.iface 25 (.slice (some ⟨blk,off,none⟩) n c),.func (.func 125) #[] #[.pointer (some ⟨bx,0,none⟩)]] w fun e w'=>e = .returned (.tuple #[])∧∃ d',(Sort.PermIn 0 n d d'∧Sort.SortedIn ltC 0 n d')∧CSt w blk off n w' d':=by
 obtain⟨i,ie,hi,hd,hie,hs,hby,hp⟩:=Ho
 have hk:=swap9 n ie hby hp h2
 have hx:∀ args W,(callFunc 196 args).run Tryz.prog W=((Extern.ReflectliteSwapper.swap false args).run Tryz.prog W).andThen fun v w'=>.ok (.value v) w':=
  fun args W=>run_callFunc_extern Tryz.func196 (by kernel_rfl) (by kernel_rfl) (by kernel_rfl) (e:=Extern.ReflectliteSwapper.swap false) (by kernel_rfl) args W
 have hsw:=swapSwapsK_of_literal (P:=Tryz.prog) false 196 hx 88 ie hie Vs 6 (fun _=>rfl) hs (fun _=>by kernel_rfl) Zea blk off n c
 have H:=Zcb w blk off n c bx 196 _ hn hb hc hne hsw
 refine Any.sort_Slice_of_pdq Tryz.laysGg6 25 88 i ie hi hd (by kernel_rfl) hie 25 (fun _=>by kernel_rfl) (some ⟨blk,off,none⟩) n c (by omega) 196 (by rw[hk];kernel_rfl) (.func 125) #[] #[.pointer (some ⟨bx,0,none⟩)] w (fun w'=>∃ d',(Sort.PermIn 0 n d d'∧Sort.SortedIn ltC 0 n d')∧CSt w blk off n w' d') ?_
 have hB:sliceBound Tryz.prog 88 ie 25 (some ⟨blk,off,none⟩) n c=#[.slice (some ⟨blk,off,none⟩) n c,typeHandle Tryz.prog 88]:=by
  unfold sliceBound
  rw[if_neg (by rw[hk];decide)]
 rw[hB]
 have hst:CSt w blk off n (sliceWorld Tryz.prog Tryz.laysGg6_ren 25 (some ⟨blk,off,none⟩) n c w) d:=by
  unfold sliceWorld
  exact (h.later (bel_new _ _)).later (bel_new _ _)
 have hlim:Lib.bitLen n≤62:=Lib.bitLen_le n 62 (by omega) (by omega)
 refine (Zgz H (Al w blk off n _ _ _ _ hn hb hsw) (Zcg w blk off n _ _ _ _ hn hb hsw) n 0 n (Lib.bitLen n) d _ hst (Nat.zero_le _) (Nat.le_refl _) (by omega) (by omega) (Or.inl rfl)).mono ?_
 rintro e w' ⟨rfl,d',hq,hS,_⟩
 exact⟨rfl,d',hq,hS⟩
open Go.RowKit Go.Lib
def Wk(L:List Zb):Prop:=L.Pairwise fun x y=>lt (pt y) (pt x)=false
theorem Nk:∀ (L:List Zb),L.length≤1→Wk L
 | [],_=>List.Pairwise.nil
 | [_],_=>List.pairwise_singleton _ _
 | _ :: _ :: _,h=>absurd h (by simp)
theorem Zhv(K:List CV)(i:Nat)(h:i<K.length):K.toArray[i]! = K[i]:=by
 rw[getElem!_pos K.toArray i (by simpa using h)]
 simp
theorem R5{w:World}{base g cap:Nat}{K:List CV}(h:w.ownsRow base 88 6 (.slice (some ⟨g,0,none⟩) K.length cap) K.length (Ze K)):Sort.HoldsK Vs 6 w g 0 K.toArray:=by
 intro j hj
 rw[Sort.size_flatK,List.size_toArray] at hj
 have hf:w.frozen? ⟨g,0+j,none⟩=false:=by
  rcases h.2 with ⟨e,_⟩|⟨g',cap',cur,e,_,hh,_⟩
  ·cases e
  ·cases e
   exact Zd hh _
 refine⟨?_,hf⟩
 have hi:j / 6<K.length:=by omega
 rw[Nat.zero_add,World.ownsRow.cellAt h j hj,id,Sort.get_flatK Vs 6 K.toArray j (by simpa using hj),Zhv K (j / 6) hi]
 obtain⟨f0,f1,f2,f3,f4,f5⟩:=Ul K (j / 6) hi
 have hr:j % 6<6:=Nat.mod_lt _ (by decide)
 have e:j=j / 6*6+j % 6:=by omega
 generalize j / 6=i at *
 generalize j % 6=r at *
 subst e
 match r,hr with
 | 0,_=>exact f0
 | 1,_=>exact f1
 | 2,_=>exact f2
 | 3,_=>exact f3
 | 4,_=>exact f4
 | 5,_=>exact f5
theorem coins_of_holds{w:World}{g:Nat}{d:Array CV}(h:Sort.HoldsK Vs 6 w g 0 d)(hg:g<w.heap.size)(hl:∀ x∈d.toList,LkAt w x):CoinsAt w (some ⟨g,0,none⟩) d.size (d.toList.map (·.1)):=by
 refine⟨by simp,fun _=>⟨g,0,rfl,hg,fun i hi=>?_⟩⟩
 rw[List.length_map,Array.length_toList] at hi
 have e:d[i]! = d.toList[i]'(by simpa using hi):=by
  rw[getElem!_pos d i hi]
  simp
 have cell:=fun u hu=>(Sort.HoldsK.cell (i:=i) (c:=u) h hi hu).1
 rw[e] at cell
 rw[List.getElem_map]
 generalize hx:d.toList[i]'(by simpa using hi)=x at *
 have hm:x∈d.toList:=hx ▸ List.getElem_mem _
 exact⟨cell 0 (by decide),cell 1 (by decide),cell 2 (by decide),⟨_,_,_,cell 3 (by decide),(hl x hm).1,(hl x hm).2⟩,cell 4 (by decide),cell 5 (by decide)⟩
theorem Cl{n:Nat}{d d':Array CV}(h:Sort.PermIn 0 n d d')(hn:d.size=n):d'.toList.Perm d.toList:=by
 have h1:=h.2.2
 have hn':d'.size=n:=h.1.trans hn
 rw[show d.extract 0 n=d by rw[←hn];simp,show d'.extract 0 n=d' by rw[←hn'];simp] at h1
 exact h1
theorem Zgp{n:Nat}{d:Array CV}(h:Sort.SortedIn ltC 0 n d)(hn:d.size=n):Wk (d.toList.map (·.1)):=by
 unfold Wk
 rw[List.pairwise_map,List.pairwise_iff_getElem]
 intro i j hi hj hij
 rw[Array.length_toList] at hi hj
 have q:=h i j (Nat.zero_le _) hij (by omega)
 rw[getElem!_pos d i hi,getElem!_pos d j hj] at q
 simpa[ltC] using q
theorem En(w w3:World)(bx B:Nat)(p:Option Addr)(n cap:Nat)(K:List CV)(hn:n≤4096)(hk:K.length=n)(ho:w3.ownsRow B 88 6 (.slice p n cap) n (Ze K))(hl:∀ x∈K,LkAt w x)(hb:Below w.heap.size w w3)(hB:w.heap.size≤B)
  (hc:w3.cell? ⟨bx,0,none⟩=some (.slice p n cap)) (hbx:bx<B) :
  Calls Tryz.prog 124 #[.iface 25 (.slice p n cap),.func (.func 125) #[] #[.pointer (some ⟨bx,0,none⟩)]] w3 fun e w'=>e = .returned (.tuple #[])∧∃ L',CoinsAt w' p n L'∧SlOk p n cap∧L'.Perm (K.map (·.1))∧Wk L'∧w'.cell? ⟨bx,0,none⟩=some (.slice p n cap)∧Below w.heap.size w w':=by
 subst hk
 have hl3:∀ x∈K,LkAt w3 x:=fun x hx=>(hl x hx).later hb
 obtain⟨a',c',e,hco,hso⟩:=Zm ho hl3
 obtain⟨rfl,rfl⟩:p=a'∧cap=c':=by injection e with e1 e2 e3;exact⟨e1,e3⟩
 by_cases h2:K.length≤1
 ·refine (P8 w3 p K.length cap h2 _ _ _).mono ?_
  rintro e w' ⟨rfl,hb'⟩
  exact⟨rfl,K.map (·.1),hco.later hb',hso,List.Perm.refl _,Nk _ (by rw[List.length_map];exact h2),cell_later hb' hc,bel_on hb hb'⟩
 ·obtain⟨g,rfl,hg⟩:∃ g,p=some ⟨g,0,none⟩∧B≤g:=by
   rcases ho.2 with ⟨e,q⟩|⟨g,cap',cur,e,q,_⟩
   ·omega
   ·exact⟨g,by injection e,q⟩
  have hgl:g<w3.heap.size:=(ho.lt g rfl).2
  have hst:CSt w3 g 0 K.length w3 K.toArray:=⟨R5 ho,by simp,Gr.refl _ _⟩
  refine (P7 w3 g 0 K.length cap bx K.toArray hn (by omega) hst hgl hc (by omega)).mono ?_
  rintro e w' ⟨rfl,d',⟨hp,hs⟩,hS⟩
  have hbw:Below w.heap.size w w':=hS.gr.below hb hb.size (fun k e=>by omega)
  have hpl:=Cl hp (by simp)
  have hd:d'.size=K.length:=hS.len
  refine⟨rfl,d'.toList.map (·.1),?_,hso,(hpl.map (·.1)),Zgp hs hd,?_,hbw⟩
  ·rw[←hd]
   exact coins_of_holds hS.holds (Nat.lt_of_lt_of_le hgl hS.gr.size) (fun x hx=>(hl x (by simpa using (hpl.mem_iff.1 hx))).later hbw)
  ·have e:=hS.gr.block bx (World.block_lt_of_cell? _ _ hc) (by omega)
   simp only[World.cell?] at hc ⊢
   rw[e]
   exact hc
theorem Vz(a:Option Addr)(n c:Nat)(L:List Zb)(w X:World)(hb:Below w.heap.size w X)(hn:n≤4096)(h:CoinsAt w a n L)(hs:SlOk a n c) :
  Calls Tryz.prog 84 #[.slice a n c] X fun e w'=>∃ v,∃ K:List CV,e = .returned v∧K.map (·.1)=L∧(∀ x∈K,LkAt w x)∧w'.ownsRow X.heap.size 88 6 v K.length (Ze K)∧Below X.heap.size X w':=by
 obtain⟨hl,hc⟩:=h
 cases a with
 | none=>
  obtain⟨rfl,rfl⟩:=hs.2.2 rfl
  have e:L=[]:=List.length_eq_zero_iff.1 hl
  subst e
  exact (Uz X).mono fun e w' ⟨x,y⟩=>⟨_,[],x,rfl,fun _ hx=>(by cases hx),y ▸ ⟨rfl,.inl ⟨rfl,rfl⟩⟩,y ▸ Below.refl _ _⟩
 | some ad=>
  by_cases h0:n=0
  ·subst h0
   have e:L=[]:=List.length_eq_zero_iff.1 hl
   subst e
   exact (Xt ad 0 c [] X hn rfl (fun j u hj=>by simp[Ze] at hj)).mono fun e w' ⟨v,x,y,z⟩=>⟨v,[],x,rfl,fun _ hx=>(by cases hx),y,z⟩
  ·obtain⟨b,off,e,_,hcell⟩:=hc (by omega)
   obtain⟨rfl⟩:=e
   obtain⟨K,h1,h2,h3⟩:=Fj hcell
   have hk:K.length=n:=by rw[←hl,←h1,List.length_map]
   exact (Xt ⟨b,off,none⟩ n c K X hn hk (fun j u hj=>by rw[Addr.add_lit];exact cell_later hb (h3 j u hj))).mono fun e w' ⟨v,x,y,z⟩=>⟨v,K,x,h1,h2,by rw[hk];exact y,z⟩
theorem Aj(a:Option Addr)(n c:Nat)(L:List Zb)(w:World)(hn:n≤4096)(h:CoinsAt w a n L)(hs:SlOk a n c) :
  Calls Tryz.prog 88 #[.slice a n c] w fun e w'=>∃ a' c' L',e = .returned (.slice a' n c')∧CoinsAt w' a' n L'∧SlOk a' n c'∧L'.Perm L∧Wk L'∧Below w.heap.size w w':=by
 have hbX:=bel_new w (.cells #[.slice a n c] 25)
 have hX:=heap_alloc_new w (.cells #[.slice a n c] 25)
 have C:=hide (Vz a n c L w _ hbX hn h hs)
 have hLn:L.length=n:=h.1
 have HBX:=hide hbX
 have HX:=hide hX
 have HL:=hide hLn
 clear h hs hbX hX hLn
 go_enter Tryz.func88,Tryz.ntmps88
 go_wp2_with fail
 refine (unhide C).mono ?_
 rintro e w2 ⟨v,K,rfl,hKL,hlk,ho,hb2⟩
 obtain⟨p,cap,rfl,hpc⟩:∃ p cap,v = .slice p K.length cap∧True:=by
  rcases ho.2 with ⟨rfl,q⟩|⟨g,cap,cur,rfl,_⟩
  ·exact⟨none,0,by rw[q],trivial⟩
  ·exact⟨_,cap,rfl,trivial⟩
 have hkn:K.length=n:=by rw[←unhide HL,←hKL,List.length_map]
 rw[hkn] at ho ⊢
 have hx2:=(hb2.block _ (lt_of_block (unhide HX))).trans (unhide HX)
 have xl:=lt_of_block hx2
 have xf:=Zd hx2 0
 have xc:=Za hx2 0 _ rfl
 obtain⟨w3,hw3⟩:∃ w3,w3=w2.setCell ⟨w.heap.size,0,none⟩ (.slice p n cap):=⟨_,rfl⟩
 have hc3:w3.cell? ⟨w.heap.size,0,none⟩=some (.slice p n cap):=by rw[hw3];exact World.cell?_setCell_same _ _ _ xc
 have hg3:Gr w2 w3 (fun k=>k=w.heap.size):=by rw[hw3];exact (Gr.refl w2 (fun k=>k=w.heap.size)).set (p:=⟨w.heap.size,0,none⟩) (.inl rfl) _
 have hs1:(w.alloc (.cells #[.slice a n c] 25)).heap.size=w.heap.size+1:=by simp
 have ho3:=hg3.own ho (fun k hk=>by have:=Yp ho k hk;omega)
 have hb3:Below w.heap.size w w3:=hg3.below (bel_on (unhide HBX) hb2) (bel_on (unhide HBX) hb2).size (fun k e=>by omega)
 have CS:=hide (En w w3 w.heap.size (w.heap.size+1) p n cap K hn hkn (by rw[←hs1];exact ho3) hlk hb3 (by omega) hc3 (by omega))
 have hKL2:=hide hKL
 have l3:w.heap.size<w3.heap.size:=World.block_lt_of_cell? _ _ hc3
 clear ho hlk hb2 hx2 hg3 ho3 hb3 hKL
 go_wp2_with fail
 rw[←hw3]
 go_wp2_with fail
 refine (unhide CS).mono ?_
 rintro e w4 ⟨rfl,L',hco,hso,hpm,hwk,hc4,hb4⟩
 have R1:=hide hco
 have R2:=hide hpm
 have R3:=hide hwk
 have R4:=hide hb4
 clear hco hpm hwk hb4
 go_wp2
 go_ret
 exact⟨p,cap,L',rfl,unhide R1,hso,by rw[←unhide hKL2];exact unhide R2,unhide R3,unhide R4⟩
theorem Th:∀ {L:List Zb} {p:PtD} (_:Srt L) (i:Nat) (hi:i<L.length),pt L[i]=p→Xr p L=some (L[i],L.take i++L.drop (i+1))
 | c :: L,p,h,0,_,e=>by
  have e':pt c=p:=e
  have hf:L.filter (fun d=>decide (pt d≠p))=L:=by
   rw[List.filter_eq_self]
   intro x hx
   rw[decide_eq_true_eq,←e']
   exact fun q=>Qw (h.head x hx) q.symm
  unfold Xr
  rw[List.find?_cons_of_pos (by simpa using e')]
  simp only[List.filter_cons,e',ne_eq,not_true,decide_false,Bool.false_eq_true,if_false]
  simp only[ne_eq] at hf
  rw[hf]
  rfl
 | c :: L,p,h,i+1,hi,e=>by
  have hi':i<L.length:=by simpa using hi
  have e':pt L[i]=p:=by simpa using e
  have hne:pt c≠p:=fun q=>by
   have:=Qw (h.head L[i] (List.getElem_mem hi'))
   rw[e',q] at this
   exact this rfl
  have ih:=Th h.tail i hi' e'
  unfold Xr at ih ⊢
  rw[List.find?_cons_of_neg (by simpa using hne)]
  cases hq:L.find? (fun c=>decide (pt c=p)) with
  | none=>rw[hq] at ih;cases ih
  | some d=>
   rw[hq] at ih
   simp only[Option.some.injEq,Prod.mk.injEq] at ih ⊢
   rw[List.filter_cons_of_pos (by simpa using hne),ih.2]
   exact⟨by rw[ih.1];simp,by simp⟩
theorem Nu{L:List Zb}{p:PtD}(h:Yv p L=false):Xr p L=none:=by
 unfold Xr
 have:L.find? (fun c=>decide (pt c=p))=none:=by
  rw[List.find?_eq_none]
  intro x hx q
  rw[←Bool.not_eq_true,Wv] at h
  exact h ⟨x,hx,by simpa using q⟩
 rw[this]
theorem U9(p:PtD):∀ (L:List Zb) (k:Nat),(plc p L k = -1∧Yv p L=false)∨∃ i,∃ h:i<L.length,plc p L k=((k+i:Nat):Int)∧pt L[i]=p∧Yv p L=true
 | [],_=>.inl ⟨rfl,rfl⟩
 | c :: L,k=>by
  by_cases h:pt c=p
  ·exact .inr ⟨0,by simp,by unfold plc;rw[if_pos h];rfl,h,by simp[Yv,h]⟩
  ·rcases U9 p L (k+1) with ⟨h1,h2⟩|⟨i,hi,h1,h2,h3⟩
   ·refine .inl ⟨by unfold plc;rw[if_neg h];exact h1,?_⟩
    unfold Yv at h2 ⊢
    rw[List.any_cons,h2]
    simp[h]
   ·refine .inr ⟨i+1,by simp;omega,?_,by simpa using h2,?_⟩
    ·unfold plc
     rw[if_neg h,h1]
     congr 1
     omega
    ·unfold Yv at h3 ⊢
     rw[List.any_cons,h3]
     simp
theorem Srt.nodup{L:List Zb}(h:Srt L):L.Nodup:=by
 unfold List.Nodup
 refine List.Pairwise.imp (fun {x y} q=>?_) h
 intro e
 exact Qw q (by rw[e])
theorem Tg{L G:List Zb}(hw:Wk L)(hp:L.Perm G)(hs:Srt G):L=G:=by
 have hn:L.Nodup:=hp.nodup_iff.2 hs.nodup
 have hm:∀ x,x∈L↔x∈G:=fun x=>hp.mem_iff
 refine Srt.ext ?_ hs hm
 unfold Srt
 have hb:L.Pairwise fun x y=>lt (pt y) (pt x)=false∧x≠y:=List.pairwise_and_iff.2 ⟨hw,hn⟩
 refine List.Pairwise.imp_of_mem (fun {x y} hx hy q=>?_) hb
 rcases Mt (pt x) (pt y) with r|r|r
 ·exact r
 ·exact absurd (hs.inj ((hm x).1 hx) ((hm y).1 hy) r) q.2
 ·rw[q.1] at r
  exact Bool.noConfusion r
theorem Ua{L M:List Zb}(h:L.Perm M)(p:PtD):Yv p L=Yv p M:=by
 rw[Bool.eq_iff_iff,Wv,Wv]
 exact⟨fun ⟨c,hc,e⟩=>⟨c,h.mem_iff.1 hc,e⟩,fun ⟨c,hc,e⟩=>⟨c,h.mem_iff.2 hc,e⟩⟩
theorem U8{R L:List Zb}{c:Zb}(h:R.Perm L)(hn:Yv (pt c) L=false):(R++[c]).Perm (Xy c L):=by
 have hf:L.filter (fun x=>lt (pt c) (pt x))=L.filter (fun x=>!lt (pt x) (pt c)):=by
  apply List.filter_congr
  intro x hx
  rcases Mt (pt x) (pt c) with q|q|q
  ·rw[q,Ja q];rfl
  ·exact absurd ((Wv _ _).2 ⟨x,hx,q⟩) (by rw[hn];decide)
  ·rw[q,Ja q];rfl
 unfold Xy
 rw[hf]
 refine ((List.perm_append_comm).trans ?_).trans (List.perm_middle.symm)
 exact (h.trans (List.filter_append_perm _ L).symm).cons c
open Go.RowKit Go.Lib
theorem X3{base:Nat}(v:Value)(K:List CV)(X:World)(hn:K.length≤4096)(ho:X.ownsRow base 88 6 v K.length (Ze K)) :
  Calls Tryz.prog 84 #[v] X fun e w'=>∃ v',e = .returned v'∧w'.ownsRow X.heap.size 88 6 v' K.length (Ze K)∧Below X.heap.size X w':=by
 have ho':=ho
 rcases ho.2 with ⟨rfl,hk⟩|⟨g,cap,cur,rfl,hg,hh,r⟩
 ·have e:K=[]:=List.length_eq_zero_iff.1 hk
  subst e
  exact (Uz X).mono fun e w' ⟨x,y⟩=>⟨_,x,y ▸ ⟨rfl,.inl ⟨rfl,rfl⟩⟩,y ▸ Below.refl _ _⟩
 ·refine (Xt ⟨g,0,none⟩ K.length cap K X hn rfl (fun j u hj=>?_)).mono fun e w' ⟨v,x,y,z⟩=>⟨v,x,y,z⟩
  have hi:j<K.length*6:=by
   have:=(List.getElem?_eq_some_iff.1 hj).1
   rwa [Zq] at this
  rw[Addr.add_lit,Nat.zero_add,World.ownsRow.cellAt ho' j (by omega)]
  exact hj
theorem Zdr{w w2:World}{g:Nat}{d:Array CV}(h:Sort.HoldsK Vs 6 w g 0 d)(e:w2.heap[g]? = w.heap[g]?):Sort.HoldsK Vs 6 w2 g 0 d:=by
 intro j hj
 obtain⟨h1,h2⟩:=h j hj
 refine⟨?_,?_⟩
 ·simp only[World.cell?] at h1 ⊢
  rw[e]
  exact h1
 ·simp only[World.frozen?] at h2 ⊢
  rw[e]
  exact h2
def Zhw(w0:World)(B:Nat)(w':World)(p:Option Addr)(n:Nat)(L:List Zb):Prop:=∀ w2,Gr w' w2 (fun k=>w0.heap.size≤k∧k<B)→CoinsAt w2 p n L
theorem Eo(w0 w3:World)(bx B:Nat)(p:Option Addr)(n cap:Nat)(K:List CV)(hn:n≤4096)(hk:K.length=n)(ho:w3.ownsRow B 88 6 (.slice p n cap) n (Ze K))(hl:∀ x∈K,LkAt w0 x)(hb:Below w0.heap.size w0 w3)(hB:w0.heap.size≤B)
  (hc:w3.cell? ⟨bx,0,none⟩=some (.slice p n cap)) (hbx:bx<B) :
  Calls Tryz.prog 124 #[.iface 25 (.slice p n cap),.func (.func 125) #[] #[.pointer (some ⟨bx,0,none⟩)]] w3 fun e w'=>e = .returned (.tuple #[])∧∃ L',Zhw w0 B w' p n L'∧SlOk p n cap∧L'.Perm (K.map (·.1))∧Wk L'∧w'.cell? ⟨bx,0,none⟩=some (.slice p n cap)∧Gr w3 w' (fun k=>B≤k):=by
 subst hk
 have hl3:∀ x∈K,LkAt w3 x:=fun x hx=>(hl x hx).later hb
 obtain⟨a',c',e,hco,hso⟩:=Zm ho hl3
 obtain⟨rfl,rfl⟩:p=a'∧cap=c':=by injection e with e1 e2 e3;exact⟨e1,e3⟩
 by_cases h2:K.length≤1
 ·refine (P8 w3 p K.length cap h2 _ _ _).mono ?_
  rintro e w' ⟨rfl,hb'⟩
  refine⟨rfl,K.map (·.1),fun w2 hg=>?_,hso,List.Perm.refl _,Nk _ (by rw[List.length_map];exact h2),cell_later hb' hc,Gr.of hb'⟩
  have hb2:Below w0.heap.size w0 w2:=hg.below (bel_on hb hb') (bel_on hb hb').size (fun k e=>e.1)
  have ho':=hg.own ((Gr.of (S:=fun _=>False) hb').own ho (fun _ _ q=>q)) (fun k e q=>by have:=Yp ho k e;omega)
  obtain⟨a2,c2,e,hco2,_⟩:=Zm ho' (fun x hx=>(hl x hx).later hb2)
  obtain⟨rfl,rfl⟩:p=a2∧cap=c2:=by injection e with e1 e2 e3;exact⟨e1,e3⟩
  exact hco2
 ·obtain⟨g,rfl,hg⟩:∃ g,p=some ⟨g,0,none⟩∧B≤g:=by
   rcases ho.2 with ⟨e,q⟩|⟨g,cap',cur,e,q,_⟩
   ·omega
   ·exact⟨g,by injection e,q⟩
  have hgl:g<w3.heap.size:=(ho.lt g rfl).2
  have hst:CSt w3 g 0 K.length w3 K.toArray:=⟨R5 ho,by simp,Gr.refl _ _⟩
  refine (P7 w3 g 0 K.length cap bx K.toArray hn (by omega) hst hgl hc (by omega)).mono ?_
  rintro e w' ⟨rfl,d',⟨hp,hs⟩,hS⟩
  have hbw:Below w0.heap.size w0 w':=hS.gr.below hb hb.size (fun k e=>by omega)
  have hpl:=Cl hp (by simp)
  have hd:d'.size=K.length:=hS.len
  refine⟨rfl,d'.toList.map (·.1),fun w2 hg2=>?_,hso,(hpl.map (·.1)),Zgp hs hd,?_,hS.gr.mono (fun k _ e=>by omega)⟩
  ·have hb2:Below w0.heap.size w0 w2:=hg2.below hbw hbw.size (fun k e=>e.1)
   have hgw:g<w'.heap.size:=Nat.lt_of_lt_of_le hgl hS.gr.size
   rw[←hd]
   exact coins_of_holds (Zdr hS.holds (hg2.block g hgw (fun q=>by omega))) (Nat.lt_of_lt_of_le hgw hg2.size) (fun x hx=>(hl x (by simpa using (hpl.mem_iff.1 hx))).later hb2)
  ·have e:=hS.gr.block bx (World.block_lt_of_cell? _ _ hc) (by omega)
   simp only[World.cell?] at hc ⊢
   rw[e]
   exact hc
theorem P6{base:Nat}(a:Option Addr)(n c:Nat)(K:List CV)(w0 w:World)(hn:n≤4096)(hk:K.length=n)(ho:w.ownsRow base 88 6 (.slice a n c) n (Ze K))(hl:∀ x∈K,LkAt w0 x)(hb:Below w0.heap.size w0 w) :
  Calls Tryz.prog 88 #[.slice a n c] w fun e w'=>∃ a' c' L',e = .returned (.slice a' n c')∧Zhw w0 w.heap.size w' a' n L'∧SlOk a' n c'∧L'.Perm (K.map (·.1))∧Wk L'∧Below w.heap.size w w':=by
 subst hk
 have hbX:=bel_new w (.cells #[.slice a K.length c] 25)
 have hX:=heap_alloc_new w (.cells #[.slice a K.length c] 25)
 have C:=hide (X3 (.slice a K.length c) K (w.alloc (.cells #[.slice a K.length c] 25)) hn ((Gr.of (S:=fun _=>False) hbX).own ho (fun _ _ q=>q)))
 obtain⟨n,hkn⟩:∃ n,K.length=n:=⟨_,rfl⟩
 rw[hkn] at C hX hbX hn ⊢
 have HBX:=hide hbX
 have HX:=hide hX
 have HK:=hide hkn
 have HL:=hide hl
 have HB:=hide hb
 clear ho hbX hX hkn hl hb
 go_enter Tryz.func88,Tryz.ntmps88
 go_wp2_with fail
 refine (unhide C).mono ?_
 rintro e w2 ⟨v,rfl,ho,hb2⟩
 obtain⟨p,cap,rfl,hpc⟩:∃ p cap,v = .slice p n cap∧True:=by
  rcases ho.2 with ⟨rfl,q⟩|⟨g,cap,cur,rfl,_⟩
  ·exact⟨none,0,by rw[q],trivial⟩
  ·exact⟨_,cap,rfl,trivial⟩
 have hx2:=(hb2.block _ (lt_of_block (unhide HX))).trans (unhide HX)
 have xl:=lt_of_block hx2
 have xf:=Zd hx2 0
 have xc:=Za hx2 0 _ rfl
 obtain⟨w3,hw3⟩:∃ w3,w3=w2.setCell ⟨w.heap.size,0,none⟩ (.slice p n cap):=⟨_,rfl⟩
 have hc3:w3.cell? ⟨w.heap.size,0,none⟩=some (.slice p n cap):=by rw[hw3];exact World.cell?_setCell_same _ _ _ xc
 have hg3:Gr w2 w3 (fun k=>k=w.heap.size):=by rw[hw3];exact (Gr.refl w2 (fun k=>k=w.heap.size)).set (p:=⟨w.heap.size,0,none⟩) (.inl rfl) _
 have hs1:(w.alloc (.cells #[.slice a n c] 25)).heap.size=w.heap.size+1:=by simp
 have ho3:=hg3.own ho (fun k hk=>by have:=Yp ho k hk;omega)
 have hbw3:Below w.heap.size w w3:=hg3.below (bel_on (unhide HBX) hb2) (bel_on (unhide HBX) hb2).size (fun k e=>by omega)
 have hb3:Below w0.heap.size w0 w3:=bel_on (unhide HB) hbw3
 have CS:=hide (Eo w0 w3 w.heap.size (w.heap.size+1) p n cap K hn (unhide HK) (by rw[←hs1];exact ho3) (unhide HL) hb3 (Nat.le_succ_of_le (unhide HB).size) hc3 (by omega))
 have HBW3:=hide hbw3
 have l3:w.heap.size<w3.heap.size:=World.block_lt_of_cell? _ _ hc3
 clear ho hb2 hx2 hg3 ho3 hb3 hbw3
 go_wp2_with fail
 rw[←hw3]
 go_wp2_with fail
 refine (unhide CS).mono ?_
 rintro e w4 ⟨rfl,L',hco,hso,hpm,hwk,hc4,hg4⟩
 have R1:Hid (Zhw w0 w.heap.size w4 p n L'):=fun w5 h5=>hco w5 (h5.mono (fun k _ q=>⟨q.1,by omega⟩))
 have R2:=hide hpm
 have R3:=hide hwk
 have R4:Hid (Below w.heap.size w w4):=hg4.below (unhide HBW3) (unhide HBW3).size (fun k q=>by omega)
 clear hco hpm hwk hg4
 go_wp2
 go_ret
 exact⟨p,cap,L',rfl,unhide R1,hso,unhide R2,unhide R3,unhide R4⟩
def Vm:List Zb→List Zb→Bool
 | [],[]=>true
 | x :: r,y :: q=>decide (x=y) && Vm r q
 | _,_=>false
theorem Tj:∀ (l k:List Zb),Vm l k=true↔l=k
 | [],[]=>by simp[Vm]
 | [],y :: q=>by simp[Vm]
 | x :: r,[]=>by simp[Vm]
 | x :: r,y :: q=>by rw[Vm,Bool.and_eq_true,decide_eq_true_eq,Tj r q,List.cons.injEq]
theorem Da{l k:List Zb}(h:l≠k):Vm l k=false:=by
 rw[←Bool.not_eq_true,Tj];exact h
theorem U7{l k:List Zb}(h:l=k):Vm l k=true:=(Tj l k).2 h
theorem Fr(a b:Option Addr)(n m c d:Nat)(v:Value)(w:World)(h:n≠m) :
  Calls Tryz.prog 45 #[.slice a n c,.slice b m d,v] w fun e w'=>e = .returned (.bool false)∧w=w':=by
 have g:((n:Int) != (m:Int))=true:=by simp;omega
 clear h
 go_enter Tryz.func45,Tryz.ntmps45
 go_wp2
 go_ret
 exact⟨rfl,rfl⟩
theorem Fq(a b:Option Addr)(c d:Nat)(v:Value)(w:World) :
  Calls Tryz.prog 45 #[.slice a 0 c,.slice b 0 d,v] w fun e w'=>e = .returned (.bool true)∧w=w':=by
 go_enter Tryz.func45,Tryz.ntmps45
 go_wp2
 refine wp_loop_rounds 1 ?_
 rw[rounds_succ]
 go_wp2
 go_ret
 exact⟨rfl,rfl⟩
theorem Mk(x y:Zb)(a b:Option Addr)(n c m d:Nat)(o:Bool)(w:World)(hn:n≤maxLen)(hA:OpsAt w a n (ck x))(hB:OpsAt w b m (ck y))(ho:decide (x=y)=o) :
  Calls Tryz.prog 46 #[cnV x a n c,cnV y b m d] w fun e w'=>e = .returned (.bool o)∧Below w.heap.size w w':=by
 obtain⟨x1,x2,x3,k,x4,x5⟩:=x
 obtain⟨y1,y2,y3,l,y4,y5⟩:=y
 unfold cnV
 simp only[cv,ck,ch,cr] at hA hB ⊢
 obtain⟨X,hX⟩:∃ X,X=(w.alloc (.cells #[.int .i64 x1,.int .i64 x2,.int .i64 x3,.slice a n c,.int .i64 x4,.bool x5] 88)).alloc (.cells #[.int .i64 y1,.int .i64 y2,.int .i64 y3,.slice b m d,.int .i64 y4,.bool y5] 88):=⟨_,rfl⟩
 have hb:Below w.heap.size w X:=by rw[hX];exact bel_on (bel_new _ _) (bel_new _ _)
 obtain⟨n0,n1,n2,n3,n4,n5⟩:=Jk w (.int .i64 x1) (.int .i64 x2) (.int .i64 x3) (.slice a n c) (.int .i64 x4) (.bool x5) 88
 obtain⟨m0,m1,m2,m3,m4,m5⟩:=Jk (w.alloc (.cells #[.int .i64 x1,.int .i64 x2,.int .i64 x3,.slice a n c,.int .i64 x4,.bool x5] 88)) (.int .i64 y1) (.int .i64 y2) (.int .i64 y3) (.slice b m d) (.int .i64 y4) (.bool y5) 88
 rw[show (w.alloc (.cells #[.int .i64 x1,.int .i64 x2,.int .i64 x3,.slice a n c,.int .i64 x4,.bool x5] 88)).heap.size=w.heap.size+1 by simp,←hX] at m0 m1 m2 m3 m4 m5
 have p4:X.cell? ⟨w.heap.size,4,none⟩=some (.int .i64 x4):=by rw[hX];exact cell_later (bel_new _ _) n4
 have p5:X.cell? ⟨w.heap.size,5,none⟩=some (.bool x5):=by rw[hX];exact cell_later (bel_new _ _) n5
 have HB:=hide hb
 obtain⟨q,hq⟩:∃ q,decide ((x3,k)=(y3,l))=q:=⟨_,rfl⟩
 have C:=hide (Sf (x3,k) (y3,l) a b n c m d q X hn (hA.later hb) (hB.later hb) hq)
 simp only at C
 have HO:Hid (o=(decide (x1=y1∧x2=y2) && (q && (decide (x4=y4) && decide (x5=y5))))):=by
  show _=_
  rw[←ho,←hq,Bool.eq_iff_iff]
  simp only[Prod.mk.injEq,Bool.and_eq_true,decide_eq_true_eq]
  constructor
  ·rintro ⟨h1,h2,h3,h4,h5,h6⟩;exact⟨⟨h1,h2⟩,⟨h3,h4⟩,h5,h6⟩
  ·rintro ⟨⟨h1,h2⟩,⟨h3,h4⟩,h5,h6⟩;exact⟨h1,h2,h3,h4,h5,h6⟩
 clear hA hB hb ho hq m0 m1 m2 m3 n0 n1 n2 n3 n4 n5
 by_cases e1:x1=y1∧x2=y2
 ·obtain⟨rfl,rfl⟩:=e1
  cases q with
  | false=>
   have R:Hid (o=false):=by show _=_;rw[unhide HO];simp
   clear HO
   go_enter Tryz.func46,Tryz.ntmps46
   go_wp2_with fail
   rw[←hX]
   clear hX
   refine (unhide C).mono ?_
   rintro e w2 ⟨rfl,hb2⟩
   have HB2:=hide (bel_on (unhide HB) hb2)
   clear hb2
   go_wp2
   go_ret
   exact⟨by rw[unhide R];rfl,unhide HB2⟩
  | true=>
   by_cases e4:x4=y4
   ·subst e4
    by_cases e5:x5=y5
    ·subst e5
     have R:Hid (o=true):=by show _=_;rw[unhide HO];simp
     clear HO
     go_enter Tryz.func46,Tryz.ntmps46
     go_wp2_with fail
     rw[←hX]
     clear hX
     refine (unhide C).mono ?_
     rintro e w2 ⟨rfl,hb2⟩
     have r4:=cell_later hb2 p4
     have r5:=cell_later hb2 p5
     have s4:=cell_later hb2 m4
     have s5:=cell_later hb2 m5
     have HB2:=hide (bel_on (unhide HB) hb2)
     clear hb2
     go_wp2
     go_ret
     exact⟨by rw[unhide R];first|rfl|(cases x5 <;> rfl)|(simp;rfl),unhide HB2⟩
    ·have R:Hid (o=false):=by show _=_;rw[unhide HO];simp[e5]
     have g5:(x5 == y5)=false:=by simp[e5]
     clear HO
     go_enter Tryz.func46,Tryz.ntmps46
     go_wp2_with fail
     rw[←hX]
     clear hX
     refine (unhide C).mono ?_
     rintro e w2 ⟨rfl,hb2⟩
     have r4:=cell_later hb2 p4
     have r5:=cell_later hb2 p5
     have s4:=cell_later hb2 m4
     have s5:=cell_later hb2 m5
     have HB2:=hide (bel_on (unhide HB) hb2)
     clear hb2
     go_wp2
     go_ret
     exact⟨by rw[unhide R];rfl,unhide HB2⟩
   ·have R:Hid (o=false):=by show _=_;rw[unhide HO];simp[e4]
    have g4:(x4 == y4)=false:=by simp[e4]
    clear HO
    go_enter Tryz.func46,Tryz.ntmps46
    go_wp2_with fail
    rw[←hX]
    clear hX
    refine (unhide C).mono ?_
    rintro e w2 ⟨rfl,hb2⟩
    have r4:=cell_later hb2 p4
    have s4:=cell_later hb2 m4
    have HB2:=hide (bel_on (unhide HB) hb2)
    clear hb2
    go_wp2
    go_ret
    exact⟨by rw[unhide R];rfl,unhide HB2⟩
 ·have R:Hid (o=false):=by show _=_;rw[unhide HO,decide_eq_false e1,Bool.false_and]
  have HBX:Hid (Below w.heap.size w X):=HB
  rw[hX] at HBX
  clear HO C
  by_cases e2:x1=y1
  ·have e3:¬x2=y2:=fun q=>e1 ⟨e2,q⟩
   subst e2
   clear e1
   go_enter Tryz.func46,Tryz.ntmps46
   go_wp2
   go_ret
   exact⟨by rw[unhide R];rfl,unhide HBX⟩
  ·clear e1
   go_enter Tryz.func46,Tryz.ntmps46
   go_wp2
   go_ret
   exact⟨by rw[unhide R];rfl,unhide HBX⟩
theorem R8(b1 o1 b2 o2 n c d:Nat)(l k:List Zb)(o:Bool)(w:World)(hn:n≤maxLen)(z1:l.length=n)(z2:k.length=n)
  (h1:∀ i (h:i<l.length),CoinAt w b1 (o1+i*6) l[i]) (h2:∀ i (h:i<k.length),CoinAt w b2 (o2+i*6) k[i]) (ho:Vm l k=o) :
  Calls Tryz.prog 45 #[.slice (some ⟨b1,o1,none⟩) n c,.slice (some ⟨b2,o2,none⟩) n d,.func (.func 46) #[] #[]] w fun e w'=>e = .returned (.bool o)∧Below w.heap.size w w':=by
 subst ho
 unfold maxLen at hn
 have H1:=hide h1
 have H2:=hide h2
 have Z1:=hide z1
 have Z2:=hide z2
 clear h1 h2 z1 z2
 go_enter Tryz.func45,Tryz.ntmps45
 go_wp2
 go_loopw [17] (fun i wr=>∃ j:Nat,j≤n∧i = .int .i64 j∧Below w.heap.size w wr∧Hid (l.take j=k.take j)) (fun i _=>n - (intOf i).toNat)
 case atStart=>exact⟨0,Nat.zero_le _,rfl,Below.refl _ _,rfl⟩
 case round=>
  obtain⟨j,hk,rfl,hb,A⟩:=hrel
  have HB:=hide hb
  by_cases hlt:j<n
  ·have hl1:j<l.length:=by rw[unhide Z1];exact hlt
   have hl2:j<k.length:=by rw[unhide Z2];exact hlt
   have g:=CoinAt.kept _ _ _ _ _ hb ((unhide H1) j hl1)
   have f:=CoinAt.kept _ _ _ _ _ hb ((unhide H2) j hl2)
   have TS:=hide (Ku hl1 hl2 (unhide A))
   have TU:=hide (Sb hl1 hl2)
   obtain⟨q,hq⟩:∃ q,l[j]=q:=⟨_,rfl⟩
   obtain⟨r,hr⟩:∃ r,k[j]=r:=⟨_,rfl⟩
   rw[hq] at g
   rw[hr] at f
   rw[hq,hr] at TS TU
   obtain⟨qa,qn,qc,g0,g1,g2,g3,g4,g5,gO,gS⟩:=g.val
   obtain⟨ra,rn,rc,f0,f1,f2,f3,f4,f5,fO,fS⟩:=f.val
   have hb2:=bel_on (bel_new wr (.cells #[.int .i64 q.1,.int .i64 q.2.1,.int .i64 (cv q),.slice qa qn qc,.int .i64 (ch q),.bool (cr q)] 88)) (bel_new _ (.cells #[.int .i64 r.1,.int .i64 r.2.1,.int .i64 (cv r),.slice ra rn rc,.int .i64 (ch r),.bool (cr r)] 88))
   obtain⟨o',ho'⟩:∃ o',decide (q=r)=o':=⟨_,rfl⟩
   have C:=Mk q r qa ra qn qc rn rc o' _ gS.len (gO.later hb2) (fO.later hb2) ho'
   unfold cnV at C
   have HC:=hide C
   have HB2:=hide (bel_on (unhide HB) hb2)
   have hrl:b2<wr.heap.size:=World.block_lt_of_cell? _ _ f0
   have hkI:(j:Int)<(n:Int):=by omega
   clear hb g f hb2 C gO fO gS fS hq hr A
   cases o' with
   | true=>
    have T:=hide ((unhide TS) (of_decide_eq_true ho'))
    clear TS TU ho'
    go_wp2_with fail
    refine (unhide HC).mono ?_
    rintro e w2 ⟨rfl,hb3⟩
    have HB3:=hide (bel_on (unhide HB2) hb3)
    clear hb3
    go_wp2
    go_roundw
    case rel=>exact⟨j+1,by omega,by go_num,unhide HB3,T⟩
    case measure=>simp[intOf];omega
   | false=>
    have U:Hid (Vm l k=false):=Da ((unhide TU) (of_decide_eq_false ho'))
    clear TS TU ho'
    go_wp2_with fail
    refine (unhide HC).mono ?_
    rintro e w2 ⟨rfl,hb3⟩
    have HB3:=hide (bel_on (unhide HB2) hb3)
    clear hb3
    go_wp2
    go_ret
    exact⟨by rw[unhide U];rfl,unhide HB3⟩
  ·have U:Hid (Vm l k=true):=by
    have h:=unhide A
    rw[List.take_of_length_le (by rw[unhide Z1];omega),List.take_of_length_le (by rw[unhide Z2];omega)] at h
    exact U7 h
   clear A hb
   go_wp2
   go_ret
   exact⟨by rw[unhide U];rfl,unhide HB⟩
theorem Tx(a b:Option Addr)(n m c d:Nat)(l k:List Zb)(o:Bool)(w:World)(hn:n≤maxLen)(hA:CoinsAt w a n l)(hB:CoinsAt w b m k)(ho:Vm l k=o) :
  Calls Tryz.prog 45 #[.slice a n c,.slice b m d,.func (.func 46) #[] #[]] w fun e w'=>e = .returned (.bool o)∧Below w.heap.size w w':=by
 by_cases h:n=m
 ·subst h
  by_cases h0:n=0
  ·subst h0
   have e1:l=[]:=List.length_eq_zero_iff.1 hA.1
   have e2:k=[]:=List.length_eq_zero_iff.1 hB.1
   subst e1 e2
   rw[U7 rfl] at ho
   subst ho
   exact (Fq a b c d _ w).mono fun e w' ⟨h1,h2⟩=>⟨h1,h2 ▸ Below.refl _ _⟩
  ·obtain⟨b1,o1,rfl,_,h1⟩:=hA.2 (by omega)
   obtain⟨b2,o2,rfl,_,h2⟩:=hB.2 (by omega)
   exact R8 b1 o1 b2 o2 n c d l k o w hn hA.1 hB.1 h1 h2 ho
 ·have e:l≠k:=fun e=>h (by rw[←hA.1,←hB.1,e])
  rw[Da e] at ho
  subst ho
  exact (Fr a b n m c d _ w h).mono fun e w' ⟨h1,h2⟩=>⟨h1,h2 ▸ Below.refl _ _⟩
theorem Uv(a b:Option Addr)(n m c d:Nat)(l k:List Zb)(o:Bool)(w:World)(hn:n≤maxLen)(hA:CoinsAt w a n l)(hB:CoinsAt w b m k)(ho:Vm l k=o) :
  Calls Tryz.prog 17 #[.slice a n c,.slice b m d] w fun e w'=>e = .returned (.bool o)∧Below w.heap.size w w':=by
 have C:=hide (Tx a b n m c d l k o w hn hA hB ho)
 clear hA hB ho
 go_enter Tryz.func17,Tryz.ntmps17
 go_wp2_with fail
 refine (unhide C).mono ?_
 rintro e w2 ⟨rfl,hb2⟩
 have HB2:=hide hb2
 clear hb2
 go_wp2
 go_ret
 exact⟨rfl,unhide HB2⟩
end Go.Proofs.YtepmnpapdknocaaGreatDoor
