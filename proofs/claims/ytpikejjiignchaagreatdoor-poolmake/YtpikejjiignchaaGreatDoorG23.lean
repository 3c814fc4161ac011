import Derived.Test.YtpikejjiignchaaGreatDoorG22
set_option maxHeartbeats 3200000
namespace Go.Proofs.YtpikejjiignchaaGreatDoor
open Go.RowKit Go.Lib
theorem Tryz.infoCoins:(Tryz.prog.info? 29).map (fun i=>i.desc)=some (.slice 103):=by kernel_rfl
theorem Tryz.infoCoinS:(Tryz.prog.info? 103).map (fun i=>(i.size,i.bytes,i.hasPointers))=some (6,64,true):=by kernel_rfl
theorem Ho:∃ i ie,Tryz.prog.info? 29=some i∧i.desc = .slice 103∧Tryz.prog.info? 103=some ie∧ie.size=6∧ie.bytes=64∧ie.hasPointers=true:=by
 have h1:=Tryz.infoCoins
 have h2:=Tryz.infoCoinS
 cases q1:Tryz.prog.info? 29 with
 | none=>rw[q1] at h1;cases h1
 | some i=>
  cases q2:Tryz.prog.info? 103 with
  | none=>rw[q2] at h2;cases h2
  | some ie=>
   rw[q1] at h1
   rw[q2] at h2
   simp only[Option.map_some,Option.some.injEq,Prod.mk.injEq] at h1 h2
   exact⟨i,ie,rfl,h1,rfl,h2.1,h2.2.1,h2.2.2⟩
theorem swap9(n:Nat)(ie:TypeInfo)(hb:ie.bytes=64)(hp:ie.hasPointers=true)(h2:2≤n):swapperK n ie 25=9:=by
 have e0:(n == 0)=false:=by simp;omega
 have e1:(n == 1)=false:=by simp;omega
 simp[swapperK,e0,e1,hb,hp]
theorem Zdt(x:CV)(v:Value)(h:v∈Vu x):v.oneCell'=true:=Y6 [x] v h
theorem F3(w0:World)(blk off n:Nat)(g:Nat)(lb:Array Value)(sf:Nat)(sb:Array Value)(hn:n≤4096)(hb:blk<w0.heap.size)(hs:SwapSwapsK Tryz.prog sf sb Vu 6 blk off n) :
  Tw Tryz.prog 216 g lb sf sb n w0.heap.size (CSt w0 blk off n):=by
 intro a b d w h hab hbn
 have hl:=h.len
 refine (Any.breakPatterns_func_cells_w Tryz.laysGg28 Vu 6 (fun _=>rfl) (.func g) #[] lb sf sb blk off a b d w (by rw[hl];exact hs) h.holds (Nat.lt_of_lt_of_le hb h.gr.size) hab (by omega) (by omega)).mono ?_
 rintro e w' ⟨rfl,m,os,rfl⟩
 have hp:=Sort.breakPatterns_holds d a b hab (by omega)
 have r:=h.put hb (d':=Sort.breakPatterns d a b) hp.1 m os
 exact⟨rfl,_,hp,r.1,r.2⟩
theorem Zbx(w0:World)(blk off n:Nat)(g:Nat)(lb:Array Value)(sf:Nat)(sb:Array Value)(hn:n≤4096)(hb:blk<w0.heap.size)(hs:SwapSwapsK Tryz.prog sf sb Vu 6 blk off n) :
  Tw Tryz.prog 218 g lb sf sb n w0.heap.size (CSt w0 blk off n):=by
 intro a b d w h hab hbn
 have hl:=h.len
 refine (Any.reverseRange_func_cells_w Tryz.laysGg30 Vu 6 (fun _=>rfl) (.func g) #[] lb sf sb blk off a b d w (by rw[hl];exact hs) h.holds (Nat.lt_of_lt_of_le hb h.gr.size) hab (by omega) (by omega)).mono ?_
 rintro e w' ⟨rfl,m,os,rfl⟩
 have hp:=Sort.reverseRange_holds d a b hab (by omega)
 have r:=h.put hb (d':=Sort.reverseRange d a b) hp.1 m os
 exact⟨rfl,_,hp,r.1,r.2⟩
theorem Fz(w:World)(p:Option Addr)(n c:Nat)(h1:n≤1)(lf:Fn)(la lb:Array Value) :
  Calls Tryz.prog 153 #[.iface 29 (.slice p n c),.func lf la lb] w fun e w'=>e = .returned (.tuple #[])∧Below w.heap.size w w':=by
 obtain⟨i,ie,hi,hd,hie,hs,hby,hp⟩:=Ho
 have key:∀ f,Tryz.prog.funcs.findIdx? (·.name == "internal/reflectlite" ++ ".Swapper$" ++ toString (swapperK n ie 25))=some f→Calls Tryz.prog 153 #[.iface 29 (.slice p n c),.func lf la lb] w fun e w'=>e = .returned (.tuple #[])∧Below w.heap.size w w':=fun f hf=>by
  refine (Any.sort_Slice_tiny Tryz.laysGg6 29 103 i ie hi hd (by kernel_rfl) hie 25 (fun _=>by kernel_rfl) p n c h1 f hf lf la lb w).mono ?_
  rintro e w' ⟨rfl,os,rfl⟩
  exact⟨rfl,rfl,rfl,rfl,by simp[Sort.grow],fun k hk=>Sort.heap_grow_old w os hk⟩
 by_cases h0:n=0
 ·subst h0
  exact key 203 (by rw[show swapperK 0 ie 25=1 from rfl];kernel_rfl)
 ·obtain rfl:n=1:=by omega
  exact key 204 (by rw[show swapperK 1 ie 25=2 from rfl];kernel_rfl)
set_option maxRecDepth 10000 in
theorem Fy(w:World)(blk off n c bx:Nat)(d:Array CV)(hn:n≤4096)(h2:2≤n)(h:CSt w blk off n w d)(hb:blk<w.heap.size)(hc:w.cell? ⟨bx,0,none⟩=some (.slice (some ⟨blk,off,none⟩) n c))(hne:bx≠blk) :
  Calls Tryz.prog 153 #[.iface 29 (.slice (some ⟨blk,off,none⟩) n c),.func (.func 154) #[] #[.pointer (some ⟨bx,0,none⟩)]] w fun e w'=>e = .returned (.tuple #[])∧∃ d',(Sort.PermIn 0 n d d'∧Sort.SortedIn ltC 0 n d')∧CSt w blk off n w' d':=by
 obtain⟨i,ie,hi,hd,hie,hs,hby,hp⟩:=Ho
 have hk:=swap9 n ie hby hp h2
 have hx:∀ args W,(callFunc 211 args).run Tryz.prog W=((Extern.ReflectliteSwapper.swap false args).run Tryz.prog W).andThen fun v w'=>.ok (.value v) w':=
  fun args W=>run_callFunc_extern Tryz.func211 (by kernel_rfl) (by kernel_rfl) (by kernel_rfl) (e:=Extern.ReflectliteSwapper.swap false) (by kernel_rfl) args W
 have hsw:=swapSwapsK_of_literal (P:=Tryz.prog) false 211 hx 103 ie hie Vu 6 (fun _=>rfl) hs (fun _=>by kernel_rfl) Zdt blk off n c
 have H:=Zbs w blk off n c bx 211 _ hn hb hc hne hsw
 refine Any.sort_Slice_of_pdq Tryz.laysGg6 29 103 i ie hi hd (by kernel_rfl) hie 25 (fun _=>by kernel_rfl) (some ⟨blk,off,none⟩) n c (by omega) 211 (by rw[hk];kernel_rfl) (.func 154) #[] #[.pointer (some ⟨bx,0,none⟩)] w (fun w'=>∃ d',(Sort.PermIn 0 n d d'∧Sort.SortedIn ltC 0 n d')∧CSt w blk off n w' d') ?_
 have hB:sliceBound Tryz.prog 103 ie 25 (some ⟨blk,off,none⟩) n c=#[.slice (some ⟨blk,off,none⟩) n c,typeHandle Tryz.prog 103]:=by
  unfold sliceBound
  rw[if_neg (by rw[hk];decide)]
 rw[hB]
 have hst:CSt w blk off n (sliceWorld Tryz.prog Tryz.laysGg6_ren 29 (some ⟨blk,off,none⟩) n c w) d:=by
  unfold sliceWorld
  exact (h.later (Zf _ _)).later (Zf _ _)
 have hlim:Lib.bitLen n≤62:=Lib.bitLen_le n 62 (by omega) (by omega)
 refine (Zhb H (F3 w blk off n _ _ _ _ hn hb hsw) (Zbx w blk off n _ _ _ _ hn hb hsw) n 0 n (Lib.bitLen n) d _ hst (Nat.zero_le _) (Nat.le_refl _) (by omega) (by omega) (Or.inl rfl)).mono ?_
 rintro e w' ⟨rfl,d',hq,hS,_⟩
 exact⟨rfl,d',hq,hS⟩
open Go.RowKit Go.Lib
def Wk(L:List Zg):Prop:=L.Pairwise fun x y=>lt (pt y) (pt x)=false
theorem Zax:∀ (L:List Zg),L.length≤1→Wk L
 | [],_=>List.Pairwise.nil
 | [_],_=>List.pairwise_singleton _ _
 | _ :: _ :: _,h=>absurd h (by simp)
theorem Zhw(K:List CV)(i:Nat)(h:i<K.length):K.toArray[i]! = K[i]:=by
 rw[getElem!_pos K.toArray i (by simpa using h)]
 simp
theorem Mo{w:World}{base g cap:Nat}{K:List CV}(h:w.ownsRow base 103 6 (.slice (some ⟨g,0,none⟩) K.length cap) K.length (Zj K)):Sort.HoldsK Vu 6 w g 0 K.toArray:=by
 intro j hj
 rw[Sort.size_flatK,List.size_toArray] at hj
 have hf:w.frozen? ⟨g,0+j,none⟩=false:=by
  rcases h.2 with ⟨e,_⟩|⟨g',cap',cur,e,_,hh,_⟩
  ·cases e
  ·cases e
   exact Zh hh _
 refine⟨?_,hf⟩
 have hi:j / 6<K.length:=by omega
 rw[Nat.zero_add,World.ownsRow.cellAt h j hj,id,Sort.get_flatK Vu 6 K.toArray j (by simpa using hj),Zhw K (j / 6) hi]
 obtain⟨f0,f1,f2,f3,f4,f5⟩:=U3 K (j / 6) hi
 have hr:j % 6<6:=Nat.mod_lt _ (by decide)
 have e:j=j / 6*6+j % 6:=by omega
 generalize j / 6=i at *
 generalize j % 6=r at *
 subst e
 match r,hr with
 | 0,_=>exact f0
 | 1,_=>exact f1
 | 2,_=>exact f2
 | 3,_=>exact f3
 | 4,_=>exact f4
 | 5,_=>exact f5
theorem coins_of_holds{w:World}{g:Nat}{d:Array CV}(h:Sort.HoldsK Vu 6 w g 0 d)(hg:g<w.heap.size)(hl:∀ x∈d.toList,LkAt w x):CoinsAt w (some ⟨g,0,none⟩) d.size (d.toList.map (·.1)):=by
 refine⟨by simp,fun _=>⟨g,0,rfl,hg,fun i hi=>?_⟩⟩
 rw[List.length_map,Array.length_toList] at hi
 have e:d[i]! = d.toList[i]'(by simpa using hi):=by
  rw[getElem!_pos d i hi]
  simp
 have cell:=fun u hu=>(Sort.HoldsK.cell (i:=i) (c:=u) h hi hu).1
 rw[e] at cell
 rw[List.getElem_map]
 generalize hx:d.toList[i]'(by simpa using hi)=x at *
 have hm:x∈d.toList:=hx ▸ List.getElem_mem _
 exact⟨cell 0 (by decide),cell 1 (by decide),cell 2 (by decide),⟨_,_,_,cell 3 (by decide),(hl x hm).1,(hl x hm).2⟩,cell 4 (by decide),cell 5 (by decide)⟩
theorem Zfd{n:Nat}{d d':Array CV}(h:Sort.PermIn 0 n d d')(hn:d.size=n):d'.toList.Perm d.toList:=by
 have h1:=h.2.2
 have hn':d'.size=n:=h.1.trans hn
 rw[show d.extract 0 n=d by rw[←hn];simp,show d'.extract 0 n=d' by rw[←hn'];simp] at h1
 exact h1
theorem wk_of{n:Nat}{d:Array CV}(h:Sort.SortedIn ltC 0 n d)(hn:d.size=n):Wk (d.toList.map (·.1)):=by
 unfold Wk
 rw[List.pairwise_map,List.pairwise_iff_getElem]
 intro i j hi hj hij
 rw[Array.length_toList] at hi hj
 have q:=h i j (Nat.zero_le _) hij (by omega)
 rw[getElem!_pos d i hi,getElem!_pos d j hj] at q
 simpa[ltC] using q
theorem Ts(a:Option Addr)(n c:Nat)(L:List Zg)(w X:World)(hb:Below w.heap.size w X)(hn:n≤4096)(h:CoinsAt w a n L)(hs:SlOk a n c) :
  Calls Tryz.prog 88 #[.slice a n c] X fun e w'=>∃ v,∃ K:List CV,e = .returned v∧K.map (·.1)=L∧(∀ x∈K,LkAt w x)∧w'.ownsRow X.heap.size 103 6 v K.length (Zj K)∧Below X.heap.size X w':=by
 obtain⟨hl,hc⟩:=h
 cases a with
 | none=>
  obtain⟨rfl,rfl⟩:=hs.2.2 rfl
  have e:L=[]:=List.length_eq_zero_iff.1 hl
  subst e
  exact (Ux X).mono fun e w' ⟨x,y⟩=>⟨_,[],x,rfl,fun _ hx=>(by cases hx),y ▸ ⟨rfl,.inl ⟨rfl,rfl⟩⟩,y ▸ Below.refl _ _⟩
 | some ad=>
  by_cases h0:n=0
  ·subst h0
   have e:L=[]:=List.length_eq_zero_iff.1 hl
   subst e
   exact (Xy ad 0 c [] X hn rfl (fun j u hj=>by simp[Zj] at hj)).mono fun e w' ⟨v,x,y,z⟩=>⟨v,[],x,rfl,fun _ hx=>(by cases hx),y,z⟩
  ·obtain⟨b,off,e,_,hcell⟩:=hc (by omega)
   obtain⟨rfl⟩:=e
   obtain⟨K,h1,h2,h3⟩:=Ug hcell
   have hk:K.length=n:=by rw[←hl,←h1,List.length_map]
   exact (Xy ⟨b,off,none⟩ n c K X hn hk (fun j u hj=>by rw[Addr.add_lit];exact Zc hb (h3 j u hj))).mono fun e w' ⟨v,x,y,z⟩=>⟨v,K,x,h1,h2,by rw[hk];exact y,z⟩
theorem K8:∀ {L:List Zg} {p:PtD} (_:Srt L) (i:Nat) (hi:i<L.length),pt L[i]=p→Wu p L=some (L[i],L.take i++L.drop (i+1))
 | c :: L,p,h,0,_,e=>by
  have e':pt c=p:=e
  have hf:L.filter (fun d=>decide (pt d≠p))=L:=by
   rw[List.filter_eq_self]
   intro x hx
   rw[decide_eq_true_eq,←e']
   exact fun q=>Qz (h.head x hx) q.symm
  unfold Wu
  rw[List.find?_cons_of_pos (by simpa using e')]
  simp only[List.filter_cons,e',ne_eq,not_true,decide_false,Bool.false_eq_true,if_false]
  simp only[ne_eq] at hf
  rw[hf]
  rfl
 | c :: L,p,h,i+1,hi,e=>by
  have hi':i<L.length:=by simpa using hi
  have e':pt L[i]=p:=by simpa using e
  have hne:pt c≠p:=fun q=>by
   have:=Qz (h.head L[i] (List.getElem_mem hi'))
   rw[e',q] at this
   exact this rfl
  have ih:=K8 h.tail i hi' e'
  unfold Wu at ih ⊢
  rw[List.find?_cons_of_neg (by simpa using hne)]
  cases hq:L.find? (fun c=>decide (pt c=p)) with
  | none=>rw[hq] at ih;cases ih
  | some d=>
   rw[hq] at ih
   simp only[Option.some.injEq,Prod.mk.injEq] at ih ⊢
   rw[List.filter_cons_of_pos (by simpa using hne),ih.2]
   exact⟨by rw[ih.1];simp,by simp⟩
theorem Zbh{L:List Zg}{p:PtD}(h:We p L=false):Wu p L=none:=by
 unfold Wu
 have:L.find? (fun c=>decide (pt c=p))=none:=by
  rw[List.find?_eq_none]
  intro x hx q
  rw[←Bool.not_eq_true,Vs] at h
  exact h ⟨x,hx,by simpa using q⟩
 rw[this]
theorem Tb(p:PtD):∀ (L:List Zg) (k:Nat),(plc p L k = -1∧We p L=false)∨∃ i,∃ h:i<L.length,plc p L k=((k+i:Nat):Int)∧pt L[i]=p∧We p L=true
 | [],_=>.inl ⟨rfl,rfl⟩
 | c :: L,k=>by
  by_cases h:pt c=p
  ·exact .inr ⟨0,by simp,by unfold plc;rw[if_pos h];rfl,h,by simp[We,h]⟩
  ·rcases Tb p L (k+1) with ⟨h1,h2⟩|⟨i,hi,h1,h2,h3⟩
   ·refine .inl ⟨by unfold plc;rw[if_neg h];exact h1,?_⟩
    unfold We at h2 ⊢
    rw[List.any_cons,h2]
    simp[h]
   ·refine .inr ⟨i+1,by simp;omega,?_,by simpa using h2,?_⟩
    ·unfold plc
     rw[if_neg h,h1]
     congr 1
     omega
    ·unfold We at h3 ⊢
     rw[List.any_cons,h3]
     simp
theorem Srt.nodup{L:List Zg}(h:Srt L):L.Nodup:=by
 unfold List.Nodup
 refine List.Pairwise.imp (fun {x y} q=>?_) h
 intro e
 exact Qz q (by rw[e])
theorem Kz{L G:List Zg}(hw:Wk L)(hp:L.Perm G)(hs:Srt G):L=G:=by
 have hn:L.Nodup:=hp.nodup_iff.2 hs.nodup
 have hm:∀ x,x∈L↔x∈G:=fun x=>hp.mem_iff
 refine Srt.ext ?_ hs hm
 unfold Srt
 have hb:L.Pairwise fun x y=>lt (pt y) (pt x)=false∧x≠y:=List.pairwise_and_iff.2 ⟨hw,hn⟩
 refine List.Pairwise.imp_of_mem (fun {x y} hx hy q=>?_) hb
 rcases An (pt x) (pt y) with r|r|r
 ·exact r
 ·exact absurd (hs.inj ((hm x).1 hx) ((hm y).1 hy) r) q.2
 ·rw[q.1] at r
  exact Bool.noConfusion r
theorem Jv{L M:List Zg}(h:L.Perm M)(p:PtD):We p L=We p M:=by
 rw[Bool.eq_iff_iff,Vs,Vs]
 exact⟨fun ⟨c,hc,e⟩=>⟨c,h.mem_iff.1 hc,e⟩,fun ⟨c,hc,e⟩=>⟨c,h.mem_iff.2 hc,e⟩⟩
theorem Jq{R L:List Zg}{c:Zg}(h:R.Perm L)(hn:We (pt c) L=false):(R++[c]).Perm (Vz c L):=by
 have hf:L.filter (fun x=>lt (pt c) (pt x))=L.filter (fun x=>!lt (pt x) (pt c)):=by
  apply List.filter_congr
  intro x hx
  rcases An (pt x) (pt c) with q|q|q
  ·rw[q,Je q];rfl
  ·exact absurd ((Vs _ _).2 ⟨x,hx,q⟩) (by rw[hn];decide)
  ·rw[q,Je q];rfl
 unfold Vz
 rw[hf]
 refine ((List.perm_append_comm).trans ?_).trans (List.perm_middle.symm)
 exact (h.trans (List.filter_append_perm _ L).symm).cons c
theorem Fr(z:Array Value)(n:Nat):(Builtin.zeroCells z n).size=n*z.size:=by simp[Builtin.zeroCells]
theorem Zae(n:Nat)(w:World)(hn:n≤4096) :
  Calls Tryz.prog 152 #[.slice none 0 0,.int .i64 n] w fun e w'=>∃ v,e = .returned v∧w'.ownsRow w.heap.size 103 6 v 0 []∧Below w.heap.size w w':=by
 obtain⟨i0,hi,hz0,hz1,hz2⟩:=info_parts Tryz.infoCoin
 by_cases h:n=0
 ·subst h
  exact (Any8.slices_Grow_room Tryz.growC none 0 0 0 w (Nat.le_refl _) (by omega) (by omega) (by omega)).mono fun e w' ⟨h1,h2⟩=>⟨_,h1,⟨rfl,Or.inl ⟨rfl,rfl⟩⟩,h2 ▸ Below.refl _ _⟩
 ·refine (Any8.slices_Grow_grow Tryz.growC i0 zeroC hi hz0 (by rw[hz1];decide) none 0 0 n [] w (Nat.le_refl _) (by omega) (by rw[hz2];omega) (by omega) (by simp) (fun _=>rfl) (fun a h=>by cases h)).mono fun e w' ⟨h1,h2⟩=>⟨_,h1,?_,?_⟩
  ·rw[h2]
   have hge:=grownCap_ge w (0+n) 0 (Tryz.growC_ren.t 25)
   have hle:=grownCap_le_maxLen w (0+n) 0 (Tryz.growC_ren.t 25) (by unfold maxLen;omega)
   refine⟨rfl,Or.inr ⟨w.heap.size,_,_,rfl,Nat.le_refl _,heap_alloc_new _ _,Nat.zero_le _,hle,?_,rfl⟩⟩
   simp only[Array.size_append,Fr,List.size_toArray,List.length_nil]
   show 0+(0+n - 0)*6+_*6=_*6
   omega
  ·rw[h2]
   exact⟨rfl,rfl,rfl,by simp,fun k hk=>Below.heap_alloc w.drew _ k hk⟩
theorem Zdq(K:List CV)(M:List CV):Zj K++Zj M=Zj (K++M):=(Zu K M).symm
set_option maxRecDepth 100000 in
theorem Pk(B:Nat)(x y:Addr)(lenk capk len cap:Nat)(k l:List CV)(w:World)(hsum:lenk+len≤4096)(hzk:k.length=lenk)(hzl:l.length=len)
  (hK:∀ j u,(Zj k)[j]? = some u→w.cell? (x.add j)=some u) (hL:∀ j u,(Zj l)[j]? = some u→w.cell? (y.add j)=some u)
  (c0:w.cell? ⟨B,0,none⟩=some (.slice (some x) lenk capk)) (c1:w.cell? ⟨B,1,none⟩=some (.slice (some y) len cap)) :
  Calls Tryz.prog 112 #[.slice (some ⟨B,0,none⟩) 2 2] w fun e w'=>∃ v,e = .returned v∧w'.ownsRow w.heap.size 103 6 v (lenk+len) (Zj (k++l))∧Below w.heap.size w w':=by
 obtain⟨i0,hi,hz0,hz1,hz2⟩:=info_parts Tryz.infoCoin
 have hBl:B<w.heap.size:=World.block_lt_of_cell? _ _ c0
 have HK:=Zb hK
 have HL:=Zb hL
 have HZK:=Zb hzk
 have HZL:=Zb hzl
 clear hK hL hzk hzl
 go_enter Tryz.func112,Tryz.ntmps112
 go_wp2
 refine wp_loop_rounds 3 ?_
 rw[rounds_succ]
 go_wp2
 rw[rounds_succ]
 go_wp2
 rw[rounds_succ]
 have GR:=Zb (Zae (lenk+len) w hsum)
 rw[Int.natCast_add] at GR
 go_wp2_with fail
 refine (Za GR).mono ?_
 rintro e w1 ⟨v,rfl,hw1,hb1⟩
 have HW1:=Zb hw1
 have HB1:=Zb hb1
 have c01:=(hb1.cell (p:=⟨B,0,none⟩) hBl).trans c0
 have c11:=(hb1.cell (p:=⟨B,1,none⟩) hBl).trans c1
 clear hw1 hb1
 go_wp2
 refine wp_loop_rounds 3 ?_
 rw[rounds_succ]
 go_wp2_with (at_builtin;refine wpList_append_own _ rfl _ _ 29 rfl w.heap.size 103 i0 zeroC 6 64 Tryz.underlying29 hi hz0 hz1 hz2 rfl (by decide) _ _ _ rfl (Za HW1) x lenk capk (Zj k) rfl (by rw[Zy,Za HZK]) (fun j u hj=>Zc (Za HB1) ((Za HK) j u hj)) (Y6 k) (by unfold maxLen;omega) (by omega) (Za HB1).size ?_;intro v1 w2 hown2 hgrow2 _)
 have HW2:Hid (w2.ownsRow w.heap.size 103 6 v1 (0+lenk) (Zj k)):=Zb (by simpa using hown2)
 have HB2:=Zb ((Za HB1).grown hgrow2 (Za HB1).size (Yk (Za HW1)))
 have c02:=((Za HB2).cell (p:=⟨B,0,none⟩) hBl).trans c0
 have c12:=((Za HB2).cell (p:=⟨B,1,none⟩) hBl).trans c1
 clear hown2 hgrow2
 clear c01 c11
 go_wp2
 rw[rounds_succ]
 go_wp2_with (at_builtin;refine wpList_append_own _ rfl _ _ 29 rfl w.heap.size 103 i0 zeroC 6 64 Tryz.underlying29 hi hz0 hz1 hz2 rfl (by decide) _ _ _ rfl (Za HW2) y len cap (Zj l) rfl (by rw[Zy,Za HZL]) (fun j u hj=>Zc (Za HB2) ((Za HL) j u hj)) (Y6 l) (by unfold maxLen;omega) (by omega) (Za HB2).size ?_;intro v2 w3 hown3 hgrow3 _)
 have HW3:Hid (w3.ownsRow w.heap.size 103 6 v2 (lenk+len) (Zj (k++l))):=by
  have q:=hown3
  rw[Zdq,Nat.zero_add] at q
  exact q
 have HB3:=Zb ((Za HB2).grown hgrow3 (Za HB2).size (Yk (Za HW2)))
 clear hown3 hgrow3 c02 c12
 go_wp2
 rw[rounds_succ]
 go_wp2
 go_ret
 exact⟨v2,rfl,Za HW3,Za HB3⟩
theorem Ye(n:Int)(b:Bool)(w:World)(hb:b=fit n) :
  Calls Tryz.prog 178 #[.int .i64 n] w fun e w'=>e = .returned (.bool b)∧w=w':=by
 subst hb
 by_cases h1 : -1000000≤n
 ·by_cases h2:n≤1000000
  ·have e:fit n=true:=(Z0 n).2 ⟨h1,h2⟩
   rw[e]
   clear e
   go_enter Tryz.func178,Tryz.ntmps178
   go_wp2
   go_ret
   exact⟨rfl,rfl⟩
  ·have e:fit n=false:=(Gd n).2 (by omega)
   have h3:decide (n≤1000000)=false:=by simp;omega
   rw[e]
   clear e
   go_enter Tryz.func178,Tryz.ntmps178
   go_wp2
   go_ret
   exact⟨rfl,rfl⟩
 ·have e:fit n=false:=(Gd n).2 (by omega)
  have h3:n < -1000000:=by omega
  rw[e]
  clear e h1
  go_enter Tryz.func178,Tryz.ntmps178
  go_wp2
  go_ret
  exact⟨rfl,rfl⟩
theorem Sd(b:Bool)(w:World) :
  Calls Tryz.prog 177 #[.bool b] w fun e w'=>e = .returned (.slice (some ⟨w.heap.size,0,none⟩) 1 1)∧w'=w.alloc (.cells #[.int .i64 (b01 b)] 3):=by
 cases b
 all_goals
  go_enter Tryz.func177,Tryz.ntmps177
  go_wp2
  go_ret
  exact⟨rfl,rfl⟩
theorem Yt(M:List Int)(a:Int):Y5 (M++[a])=some M:=by simp[Y5]
theorem Xe(M:List Int)(a:Int):U8 (M++[a])=a:=by simp[U8]
theorem V9(M:List Int)(a b:Int):Y5 (M++[a,b])=some (M++[a]):=by
 rw[show M++[a,b]=(M++[a])++[b] by simp];exact Yt _ _
theorem Uz(M:List Int)(a b:Int):U8 (M++[a,b])=b:=by
 rw[show M++[a,b]=(M++[a])++[b] by simp];exact Xe _ _
theorem C9(h n:Int)(L:List Int):Z7 h 1 n L=Yc L [n]:=by simp[Z7,Yc]
theorem Nj(h n:Int)(L:List Int):Z7 h 12 n L=Yc L [h]:=by simp[Z7,Yc]
theorem Zbo(h n:Int)(M:List Int)(a:Int):Z7 h 2 n (M++[a])=Yc M [a,a]:=by
 simp[Z7,Yc,Yt,Xe]
theorem Eb(h n:Int)(M:List Int)(a:Int):Z7 h 4 n (M++[a])=some M:=by simp[Z7,Yt]
theorem Zbm(h n:Int)(M:List Int)(a:Int):Z7 h 9 n (M++[a])=Yc M [b01 (a == 0)]:=by
 simp[Z7,Yc,Yt,Xe,g1]
theorem Zbn(h n:Int)(M:List Int)(a:Int):Z7 h 13 n (M++[a])=Yc M [Do a]:=by
 simp[Z7,Yc,Yt,Xe,g1]
theorem So(h n:Int)(M:List Int)(a:Int):Z7 h 11 n (M++[a])=if a=0 then none else some M:=by
 simp[Z7,Yt,Xe]
theorem C7(h n:Int)(M:List Int)(a b:Int):Z7 h 3 n (M++[a,b])=Yc M [b,a]:=by
 simp[Z7,Yc,V9,Uz,Yt,Xe]
theorem Zbq(h n:Int)(M:List Int)(a b:Int):Z7 h 5 n (M++[a,b])=Yc M [a+b]:=by
 simp[Z7,Yc,V9,Uz,Yt,Xe,g2]
theorem Zbl(h n:Int)(M:List Int)(a b:Int):Z7 h 6 n (M++[a,b])=Yc M [a - b]:=by
 simp[Z7,Yc,V9,Uz,Yt,Xe,g2]
theorem C8(h n:Int)(M:List Int)(a b:Int):Z7 h 7 n (M++[a,b])=Yc M [b01 (a == b)]:=by
 simp[Z7,Yc,V9,Uz,Yt,Xe,g2]
theorem Ea(h n:Int)(M:List Int)(a b:Int):Z7 h 8 n (M++[a,b])=Yc M [b01 (decide (a<b))]:=by
 simp[Z7,Yc,V9,Uz,Yt,Xe,g2]
theorem Zbp(h n:Int)(M:List Int)(a b:Int):Z7 h 10 n (M++[a,b])=Yc M [b01 (a != 0 && b != 0)]:=by
 simp[Z7,Yc,V9,Uz,Yt,Xe,g2]
theorem Lp:Y5 []=none:=rfl
theorem Xw(h k n:Int)(hk:k≠1)(hk':k≠12):Z7 h k n []=none:=by
 simp[Z7,Lp,hk,hk']
theorem U0(h k n a:Int)(hk:k=3∨k=5∨k=6∨k=7∨k=8∨k=10):Z7 h k n [a]=none:=by
 have e:Y5 [a]=some []:=rfl
 rcases hk with rfl|rfl|rfl|rfl|rfl|rfl <;> simp[Z7,e,Lp]
theorem Xh{L:List Int}(h:1≤L.length):∃ M a,L=M++[a]:=by
 have hn:L≠[]:=fun e=>by subst e;simp at h
 exact⟨L.dropLast,L.getLast hn,(List.dropLast_concat_getLast hn).symm⟩
theorem U2{L:List Int}(h:2≤L.length):∃ M a b,L=M++[a,b]:=by
 obtain⟨M,b,rfl⟩:=Xh (L:=L) (by omega)
 obtain⟨N,a,rfl⟩:=Xh (L:=M) (by simp at h;omega)
 exact⟨N,a,b,by simp⟩
theorem Xg{M:List Int}{x:Int}(h1:M.length<16)(h2:fit x=true):Yc M [x]=some (M++[x]):=by
 have:¬M.length=16:=by omega
 simp[Yc,Uu,this,h2]
theorem Y2{M:List Int}{x:Int}{r:List Int}(h1:M.length=16):Yc M (x :: r)=none:=by simp[Yc,Uu,h1]
theorem Y7{M:List Int}{x:Int}{r:List Int}(h2:fit x=false):Yc M (x :: r)=none:=by simp[Yc,Uu,h2]
theorem R9{M:List Int}{x y:Int}(h1:M.length<16)(h2:fit x=true):Yc M [x,y]=Yc (M++[x]) [y]:=by
 have:¬M.length=16:=by omega
 simp[Yc,Uu,this,h2]
theorem Q4{L:List Int}(h:Z8 L=true):L.length≤16∧∀ x∈L,fit x=true:=by
 simpa[Z8] using h
open Go.RowKit Go.Maps
theorem Vq:Keyed Tryz.prog 3:=int_keyed Tryz.underlying3
theorem Xd(w:World):(zeroValue 3).run Tryz.prog w = .ok (.int .i64 0) w:=by kernel_rfl
theorem Rt{H:Type}{P:Program}(w:World){ops:Array Oper}{rest:List Oper}{o:Oper}{a:Act}{Q:Exit→Act→World→Prop}
  (hg:o.guard=none) (m x v:Operand) (t:TypeId) (hop:o.op=Op.insert t m x v)
  (k e:TypeId) (K:Keyed P k) (ht:P.underlying t=some (.map k e)) (R:Value→Option (DataW H×List MemPlace)) (b n:Nat) (D:DataW H)
  (hm:a.eval m = .map (some b)) (hown:w.ownsMap P k R b n D) (hn:n<maxLen) (key val:Value) (kl:Lit) (hx:a.eval x=key) (hv:a.eval v=val) (hkey:keyOf P k key=some kl)
  (d:DataW H) (ps:List MemPlace) (hval:R val=some (d,ps))
  (hK:∀ w',w'.ownsMap P k R b (n+1) (D.put kl d)→w.grownBy w' (some b)→wpList P ops Q rest (a.put o.dst undef) w') :
  wpList P ops Q (o :: rest) a w:=by
 refine wpList_plain hg fun K' hK'=>?_
 obtain⟨w',hrun,r1,r2⟩:=hown.update K ht hn hkey hval
 unfold Oper.wp
 simp[execOp,hop,hm,hx,hv,hrun,Result.andThen]
 exact hK' _ _ (hK w' r1 r2)
def putD(D:DataW Unit)(p:Int×Int):DataW Unit:=D.put (.int .i64 p.1) (.lit (.int .i64 p.2))
def TakesD:DataW Unit:=[(2,1),(3,2),(4,1),(5,2),(6,2),(7,2),(8,2),(9,1),(10,2),(11,1),(13,1)].foldl putD (.map [])
def Cb(k:Int):Int:=if k=1∨k=12 then 0 else if k=2∨k=4∨k=9∨k=11∨k=13 then 1 else 2
theorem Zbg(k:Int)(h1:1≤k)(h2:k≤13):TakesD.atKey (.int .i64 k) (.lit (.int .i64 0)) = .lit (.int .i64 (Cb k)):=by
 have h:k=1∨k=2∨k=3∨k=4∨k=5∨k=6∨k=7∨k=8∨k=9∨k=10∨k=11∨k=12∨k=13:=by omega
 rcases h with rfl|rfl|rfl|rfl|rfl|rfl|rfl|rfl|rfl|rfl|rfl|rfl|rfl
 all_goals rfl
abbrev Gf(bm n:Nat)(D:DataW Unit)(w:World):Prop:=w.ownsMap Tryz.prog 3 (plainElem (H:=Unit) Tryz.prog 3) bm n D
structure St(W:World)(bm:Nat)(v:Value)(L:List Int)(w:World):Prop where
 row:∃ g cap,v = .slice (some ⟨g,0,none⟩) L.length cap∧L.length≤cap∧cap≤maxLen
 own:w.ownsRow W.heap.size 3 1 v L.length (L.map (Value.int .i64))
 map:Gf bm 11 TakesD w
 bel:Below W.heap.size W w
theorem Zcz{bm n:Nat}{D:DataW Unit}{w w':World}(h:Gf bm n D w)(hb:Below w.heap.size w w'):Gf bm n D w':=by
 obtain⟨es,clock,h1,r⟩:=h
 exact⟨es,clock,(hb.block bm (lt_of_block h1)).trans h1,r⟩
theorem Zcp{w w':World}{base:Nat}{e:TypeId}{size:Nat}{v:Value}{n:Nat}{xs:List Value}(h:w.ownsRow base e size v n xs)(hb:Below w.heap.size w w'):w'.ownsRow base e size v n xs:=by
 obtain⟨hl,h0|⟨g,cap,cur,hv,hg,hh,r⟩⟩:=h
 ·exact⟨hl,.inl h0⟩
 ·exact⟨hl,.inr ⟨g,cap,cur,hv,hg,(hb.block g (lt_of_block hh)).trans hh,r⟩⟩
theorem St.keep{W:World}{bm:Nat}{v:Value}{L:List Int}{w w':World}(h:St W bm v L w)(hb:Below w.heap.size w w'):St W bm v L w':=
 ⟨h.row,Zcp h.own hb,Zcz h.map hb,h.bel.trans (hb.mono h.bel.size)⟩
theorem St.apart{W:World}{bm:Nat}{v:Value}{L:List Int}{w:World}(h:St W bm v L w):some bm≠v.ownBlock:=by
 obtain⟨es,clock,h1,_⟩:=h.map
 obtain⟨_,h0|⟨g,cap,cur,hv,hg,hh,r⟩⟩:=h.own
 ·obtain⟨g,cap,hv,_⟩:=h.row
  rw[hv] at h0
  simp at h0
 ·rw[hv]
  intro e
  simp only[Value.ownBlock,Option.some.injEq] at e
  rw[e,hh] at h1
  cases h1
theorem St.ge{W:World}{bm:Nat}{v:Value}{L:List Int}{w:World}(h:St W bm v L w):∀ k,v.ownBlock=some k→W.heap.size≤k:=by
 obtain⟨_,h0|⟨g,cap,cur,hv,hg,hh,r⟩⟩:=h.own
 ·intro k hk;rw[h0.1] at hk;cases hk
 ·intro k hk
  rw[hv] at hk
  simp only[Value.ownBlock,Option.some.injEq] at hk
  omega
theorem St.app{W:World}{bm:Nat}{v v':Value}{L:List Int}{x:Int}{w w':World}(h:St W bm v L w)
  (ho:w'.ownsRow W.heap.size 3 1 v' (L.length+1) (L.map (Value.int .i64)++[.int .i64 x])) (hg:w.grownBy w' v.ownBlock) (hn:v' = .slice none 0 0↔v = .slice none 0 0∧1=0):St W bm v' (L++[x]) w' where
 row:=by
  obtain⟨_,h0|⟨g,cap,cur,hv,hg,hh,h1,h2,r⟩⟩:=ho
  ·exact absurd (hn.1 h0.1).2 (by decide)
  ·exact⟨g,cap,by rw[hv];simp,by simpa using h1,h2⟩
 own:=by simpa using ho
 map:=h.map.kept hg h.apart
 bel:=h.bel.grown hg h.bel.size h.ge
theorem St.cut{W:World}{bm:Nat}{a:Option Addr}{n cap:Nat}{M T:List Int}{w:World}(h:St W bm (.slice a n cap) (M++T) w):St W bm (.slice a M.length cap) M w where
 row:=by
  obtain⟨g,c,hv,h1,h2⟩:=h.row
  simp only[Value.slice.injEq] at hv
  obtain⟨rfl,_,rfl⟩:=hv
  rw[List.length_append] at h1
  exact⟨g,cap,rfl,by omega,h2⟩
 own:=by
  obtain⟨hl,h0|⟨g,c,cur,hv,hg,hh,h1,h2,h3,h4⟩⟩:=h.own
  ·obtain⟨g,c,hv,_⟩:=h.row
   rw[hv] at h0
   simp at h0
  ·simp only[Value.slice.injEq] at hv
   obtain⟨rfl,_,rfl⟩:=hv
   rw[List.length_append] at h1
   refine⟨by simp,.inr ⟨g,cap,cur,rfl,hg,hh,by omega,h2,h3,?_⟩⟩
   have e:=congrArg (List.take (M.length*1)) h4
   rw[List.take_take,List.length_append] at e
   rw[show min (M.length*1) ((M.length+T.length)*1)=M.length*1 by omega] at e
   rw[e,List.map_append,List.take_left' (by simp)]
 map:=h.map
 bel:=h.bel
theorem St.cell{W:World}{bm:Nat}{g n cap:Nat}{L:List Int}{w:World}(h:St W bm (.slice (some ⟨g,0,none⟩) n cap) L w)(i:Nat)(hi:i<L.length):w.cell? ⟨g,i,none⟩=some (.int .i64 (L.getD i 0)):=by
 obtain⟨hl,h0|⟨g',c,cur,hv,hg,hh,h1,h2,h3,h4⟩⟩:=h.own
 ·obtain⟨h5,_⟩:=h0
  simp at h5
 ·simp only[Value.slice.injEq,Option.some.injEq,Addr.mk.injEq] at hv
  obtain⟨⟨rfl,_⟩,_,rfl⟩:=hv
  have e:=congrArg (fun l:List Value=>l[i]?) h4
  simp only[List.getElem?_take_of_lt (show i<L.length*1 by omega)] at e
  simp only[World.cell?,hh]
  rw[Array.getElem?_toList] at e
  simpa[hi] using e
theorem St.rowAt{W:World}{bm:Nat}{v:Value}{L:List Int}{w:World}(h:St W bm v L w):∃ a cap,v = .slice a L.length cap∧RowAt w a L.length L∧(a=none→cap=0):=by
 obtain⟨g,cap,rfl,h1,h2⟩:=h.row
 refine⟨_,cap,rfl,⟨rfl,Nat.le_trans h1 h2,fun _=>⟨g,0,rfl,fun i hi=>?_⟩⟩,fun h=>by cases h⟩
 rw[Nat.zero_add]
 exact h.cell i hi
open Go.RowKit Go.Maps
theorem Tryz.info3:(Tryz.prog.info? 3).map (fun i=>(i.zero,i.size,i.bytes))=some (some (.int .i64 0),1,8):=by kernel_rfl
theorem Ul{w:World}{ops:Array Oper}{rest:List Oper}{o:Oper}{a:Act}{Q:Exit→Act→World→Prop}(hgd:o.guard=none)(s x:Operand)
  (ho:o.op = .call { callee:=.builtin .append,args:=#[s,x],argTypes:=#[25,25] }) (base:Nat) (v:Value) (n:Nat) (xs:List Value) (hs:a.eval s=v) (hown:w.ownsRow base 3 1 v n xs)
  (az:Option Addr) (len cap:Nat) (Z:List Int) (hx:a.eval x = .slice az len cap) (hcap:az=none→cap=0) (hR:RowAt w az len Z) (hnz:n+len≤1000000) (hbase:base≤w.heap.size)
  (h:∀ v' w',w'.ownsRow base 3 1 v' (n+len) (xs++Z.map (Value.int .i64))→w.grownBy w' v.ownBlock→(v = .slice none 0 0∨v' ≠ .slice none 0 0)→wpList Tryz.prog ops Q rest (a.put o.dst v') w') :
  wpList Tryz.prog ops Q (o :: rest) a w:=by
 obtain⟨i0,hi,hz0,hz1,hz2⟩:=info_parts Tryz.info3
 cases az with
 | none=>
  have h0:len=0:=by
   by_cases e:len=0
   ·exact e
   ·obtain⟨b,off,e',_⟩:=hR.2.2 (by omega)
    cases e'
  subst h0
  have hc:=hcap rfl
  subst hc
  have hZ:Z=[]:=List.length_eq_zero_iff.1 hR.1
  subst hZ
  refine wpList_append_own_none hgd s x 25 ho base 3 i0 1 Tryz.underlying25 hi v n xs hs hown hx ?_
  by_cases hv:v = .slice none 0 0
  ·exact h v w (by simpa using hown) (World.grownBy.refl _ _) (.inl hv)
  ·exact h v w (by simpa using hown) (World.grownBy.refl _ _) (.inr hv)
 | some ad=>
  refine wpList_append_own w hgd s x 25 ho base 3 i0 (.int .i64 0) 1 8 Tryz.underlying25 hi hz0 hz1 hz2 rfl (by decide) v n xs hs hown ad len cap (Z.map (Value.int .i64)) hx (by simp[hR.1]) (fun j u hj=>?_) (fun u hu=>?_) (by unfold maxLen;omega) (by omega) hbase fun v' w' h1 h2 h3=>h v' w' h1 h2 ?_
  ·have hj':j<Z.length:=by
    have:=(List.getElem?_eq_some_iff.1 hj).1
    simpa using this
   obtain⟨b,off,e,hc⟩:=hR.2.2 (by rw[←hR.1];omega)
   cases e
   have hadd:(⟨b,off,none⟩:Addr).add j=⟨b,off+j,none⟩:=by unfold Addr.add;split <;> simp_all
   rw[hadd,hc j (by rw[←hR.1];exact hj')]
   simpa[hj'] using hj
  ·simp only[List.mem_map] at hu
   obtain⟨y,_,rfl⟩:=hu
   rfl
  ·by_cases e:v' = .slice none 0 0
   ·exact .inl (h3.1 e).1
   ·exact .inr e
structure Pro(W:World)(bm:Nat)(v:Value)(L:List Int)(n:Nat)(D:DataW Unit)(w:World):Prop where
 row:∃ g cap,v = .slice (some ⟨g,0,none⟩) L.length cap∧L.length≤cap∧cap≤maxLen
 own:w.ownsRow W.heap.size 3 1 v L.length (L.map (Value.int .i64))
 apart:v.ownBlock≠some bm
 new:W.heap.size≤bm
 map:Gf bm n D w
 bel:Below W.heap.size W w
theorem Pro.start{W w0 w:World}{v0 v:Value}{L:List Int}(hb:Below W.heap.size W w0)(hv0:∀ k,v0.ownBlock=some k→W.heap.size≤k)(ho:w.ownsRow W.heap.size 3 1 v L.length (L.map (Value.int .i64)))(hg:w0.grownBy w v0.ownBlock)(hn:v ≠ .slice none 0 0) :
  Pro W w.heap.size v L 0 (.map []) (w.alloc (.map #[] 0)) where
 row:=by
  obtain⟨_,h0|⟨g,cap,cur,hv,_,hh,h1,h2,r⟩⟩:=ho
  ·exact absurd h0.1 hn
  ·exact⟨g,cap,hv,h1,h2⟩
 own:=ho.alloc _
 apart:=by
  obtain⟨_,h0|⟨g,cap,cur,hv,_,hh,_⟩⟩:=ho
  ·exact absurd h0.1 hn
  ·have:=lt_of_block hh
   rw[hv]
   intro e
   simp only[Value.ownBlock,Option.some.injEq] at e
   omega
 new:=(hb.grown hg hb.size hv0).size
 map:=World.ownsMap_made _ _ _ _
 bel:=(hb.grown hg hb.size hv0).alloc (hb.grown hg hb.size hv0).size _
theorem Ld{w w1:World}{v1:Value}{lens:Nat}{Z:List Int}(hb:Below w.heap.size w (w.alloc (.cells #[] 3)))(hz:Z.length=lens)(ho:w1.ownsRow w.heap.size 3 1 v1 (0+lens) ([]++Z.map (Value.int .i64)))
  (hg:(w.alloc (.cells #[] 3)).grownBy w1 (Value.ownBlock (.slice (some ⟨w.heap.size,0,none⟩) 0 0))) (hn:(Value.slice (some ⟨w.heap.size,0,none⟩) 0 0) = .slice none 0 0∨v1 ≠ .slice none 0 0):Pro w w1.heap.size v1 Z 0 (.map []) (w1.alloc (.map #[] 0)):=by
 rw[List.nil_append,Nat.zero_add,←hz] at ho
 exact Pro.start hb (fun k hk=>by cases hk;exact Nat.le_refl _) ho hg (hn.resolve_left (by simp))
theorem Pro.st{W:World}{bm:Nat}{v:Value}{L:List Int}{w:World}(h:Pro W bm v L 11 TakesD w):St W bm v L w:=⟨h.row,h.own,h.map,h.bel⟩
theorem Uk(w:World){ops:Array Oper}{rest:List Oper}{o:Oper}{a:Act}{Q:Exit→Act→World→Prop}
  (hg:o.guard=none) (m x v:Operand) (hop:o.op=Op.insert 86 m x v) (W:World) (bm:Nat) (u:Value) (L:List Int) (n:Nat) (D:DataW Unit)
  (hp:Pro W bm u L n D w) (hm:a.eval m = .map (some bm)) (hn:n<100) (k t:Int) (hx:a.eval x = .int .i64 k) (hv:a.eval v = .int .i64 t) (hk:(Lit.int .i64 k).wf=true) (ht:(Lit.int .i64 t).wf=true)
  (hK:∀ w',Pro W bm u L (n+1) (putD D (k,t)) w'→wpList Tryz.prog ops Q rest (a.put o.dst undef) w') :
  wpList Tryz.prog ops Q (o :: rest) a w:=by
 refine Rt w hg m x v 86 hop 3 3 Vq Tryz.underlying86 _ bm n D hm hp.map (by unfold maxLen;omega) _ _ _ hx hv (keyOf_int_mk Tryz.underlying3 hk) _ [] (plainElem_int Tryz.underlying3 ht) fun w' h1 h2=>hK w' ?_
 exact⟨hp.row,hp.own.kept h2 (.inr hp.apart),hp.apart,hp.new,h1,hp.bel.grown h2 hp.bel.size (fun j hj=>by cases hj;exact hp.new)⟩
set_option maxRecDepth 100000 in
theorem Nr(az:Option Addr)(lens caps cap:Nat)(a:Option Addr)(Z:List Int)(h:Int)(w:World)(hR:RowAt w az lens Z)(hc:az=none→caps=0)(hZ:Z8 Z=true) :
  Calls Tryz.prog 151 #[.slice a 0 cap,.slice az lens caps,.int .i64 h] w fun e w'=>∃ a' cap',e = .returned (.tuple #[.slice a' Z.length cap',.bool true])∧RowAt w' a' Z.length Z∧Below w.heap.size w w'∧(a'=none→cap'=0):=by
 have hlen:lens≤16:=by rw[←hR.1];exact (Q4 hZ).1
 have HR:=Zb hR
 have HC:=Zb hc
 clear hR hc hZ
 have HB0:=Zb ((Below.refl w.heap.size w).alloc (Nat.le_refl _) (.cells #[] 3))
 have HR0:=Zb ((Za HR).later (Za HB0))
 have HO0:Hid ((w.alloc (.cells #[] 3)).ownsRow w.heap.size 3 1 (.slice (some ⟨w.heap.size,0,none⟩) 0 0) 0 []):=⟨rfl,.inr ⟨w.heap.size,0,#[],rfl,Nat.le_refl _,heap_alloc_new _ _,Nat.le_refl _,by decide,rfl,rfl⟩⟩
 have hmm:=@run_makeMap Tryz.prog
 go_enter Tryz.func151,Tryz.ntmps151
 go_wp2_with (first
  | (at_builtin;refine Ul rfl _ _ rfl w.heap.size _ _ _ rfl (Za HO0) az lens caps Z rfl (Za HC) (Za HR0) (by omega) (Za HB0).size ?_;intro v1 w1 ho1 hg1 hn1;have hst:=Ld (Za HB0) (Za HR).1 ho1 hg1 hn1;clear ho1 hg1 hn1)
  | (refine Uk _ rfl _ _ _ rfl _ _ _ _ _ _ hst rfl (by omega) _ _ rfl rfl (by decide) (by decide) ?_;intro w2 hst2;clear hst;have hst:=hst2;clear hst2))
 have HST:=Zb (Pro.st hst)
 clear hst
 obtain⟨a',cap',rfl,hra,hca⟩:=(Za HST).rowAt
 have HCA:=Zb hca
 have HRA:=Zb hra
 clear hra hca
 refine wp_loop_rounds 1 ?_
 rw[rounds_succ]
 go_wp2
 go_ret2
 exact⟨a',cap',rfl,Za HRA,(Za HST).bel,Za HCA⟩
end Go.Proofs.YtpikejjiignchaaGreatDoor
