import Derived.Test.YtpikejjiignchaaGreatDoorG30
import Derived.Test.YtpikejjiignchaaGreatDoorG27
import Derived.LoopIn
import Derived.LoopNIn
import Derived.OwnWalkIn
import Derived.RangeFuncBound
import Derived.RangeFuncNested
import Derived.Shelf.RegionOpen
set_option maxHeartbeats 6400000
namespace Go.Proofs.YtpikejjiignchaaGreatDoor
theorem Nb:∀ {L:List Zf} {p:PtD} (_:Srt L) (i:Nat) (hi:i<L.length),pt L[i]=p→Wz p L=some (L[i],L.take i++L.drop (i+1))
 | c :: L,p,h,0,_,e=>by
  have e':pt c=p:=e
  have hf:L.filter (fun d=>decide (pt d≠p))=L:=by
   rw[List.filter_eq_self]
   intro x hx
   rw[decide_eq_true_eq,←e']
   exact fun q=>Js (h.head x hx) q.symm
  unfold Wz
  rw[List.find?_cons_of_pos (by simpa using e')]
  simp only[List.filter_cons,e',ne_eq,not_true,decide_false,Bool.false_eq_true,if_false]
  simp only[ne_eq] at hf
  rw[hf]
  rfl
 | c :: L,p,h,i+1,hi,e=>by
  have hi':i<L.length:=by simpa using hi
  have e':pt L[i]=p:=by simpa using e
  have hne:pt c≠p:=fun q=>by
   have:=Js (h.head L[i] (List.getElem_mem hi'))
   rw[e',q] at this
   exact this rfl
  have ih:=Nb h.tail i hi' e'
  unfold Wz at ih ⊢
  rw[List.find?_cons_of_neg (by simpa using hne)]
  cases hq:L.find? (fun c=>decide (pt c=p)) with
  | none=>rw[hq] at ih;cases ih
  | some d=>
   rw[hq] at ih
   simp only[Option.some.injEq,Prod.mk.injEq] at ih ⊢
   rw[List.filter_cons_of_pos (by simpa using hne),ih.2]
   exact⟨by rw[ih.1];simp,by simp⟩
theorem Zff{L:List Zf}{p:PtD}(h:Xy p L=false):Wz p L=none:=by
 unfold Wz
 have:L.find? (fun c=>decide (pt c=p))=none:=by
  rw[List.find?_eq_none]
  intro x hx q
  rw[←Bool.not_eq_true,Vk] at h
  exact h ⟨x,hx,by simpa using q⟩
 rw[this]
theorem Sd(p:PtD):∀ (L:List Zf) (k:Nat),(plc p L k = -1∧Xy p L=false)∨∃ i,∃ h:i<L.length,plc p L k=((k+i:Nat):Int)∧pt L[i]=p∧Xy p L=true
 | [],_=>.inl ⟨rfl,rfl⟩
 | c :: L,k=>by
  by_cases h:pt c=p
  ·exact .inr ⟨0,by simp,by unfold plc;rw[if_pos h];rfl,h,by simp[Xy,h]⟩
  ·rcases Sd p L (k+1) with ⟨h1,h2⟩|⟨i,hi,h1,h2,h3⟩
   ·refine .inl ⟨by unfold plc;rw[if_neg h];exact h1,?_⟩
    unfold Xy at h2 ⊢
    rw[List.any_cons,h2]
    simp[h]
   ·refine .inr ⟨i+1,by simp;omega,?_,by simpa using h2,?_⟩
    ·unfold plc
     rw[if_neg h,h1]
     congr 1
     omega
    ·unfold Xy at h3 ⊢
     rw[List.any_cons,h3]
     simp
theorem Srt.nodup{L:List Zf}(h:Srt L):L.Nodup:=by
 unfold List.Nodup
 refine List.Pairwise.imp (fun {x y} q=>?_) h
 intro e
 exact Js q (by rw[e])
theorem M5{L G:List Zf}(hw:Wk L)(hp:L.Perm G)(hs:Srt G):L=G:=by
 have hn:L.Nodup:=hp.nodup_iff.2 hs.nodup
 have hm:∀ x,x∈L↔x∈G:=fun x=>hp.mem_iff
 refine Srt.ext ?_ hs hm
 unfold Srt
 have hb:L.Pairwise fun x y=>lt (pt y) (pt x)=false∧x≠y:=List.pairwise_and_iff.2 ⟨hw,hn⟩
 refine List.Pairwise.imp_of_mem (fun {x y} hx hy q=>?_) hb
 rcases D7 (pt x) (pt y) with r|r|r
 ·exact r
 ·exact absurd (hs.inj ((hm x).1 hx) ((hm y).1 hy) r) q.2
 ·rw[q.1] at r
  exact Bool.noConfusion r
theorem Rl{L M:List Zf}(h:L.Perm M)(p:PtD):Xy p L=Xy p M:=by
 rw[Bool.eq_iff_iff,Vk,Vk]
 exact⟨fun ⟨c,hc,e⟩=>⟨c,h.mem_iff.1 hc,e⟩,fun ⟨c,hc,e⟩=>⟨c,h.mem_iff.2 hc,e⟩⟩
theorem Ni{R L:List Zf}{c:Zf}(h:R.Perm L)(hn:Xy (pt c) L=false):(R++[c]).Perm (Qd c L):=by
 have hf:L.filter (fun x=>lt (pt c) (pt x))=L.filter (fun x=>!lt (pt x) (pt c)):=by
  apply List.filter_congr
  intro x hx
  rcases D7 (pt x) (pt c) with q|q|q
  ·rw[q,J6 q];rfl
  ·exact absurd ((Vk _ _).2 ⟨x,hx,q⟩) (by rw[hn];decide)
  ·rw[q,J6 q];rfl
 unfold Qd
 rw[hf]
 refine ((List.perm_append_comm).trans ?_).trans (List.perm_middle.symm)
 exact (h.trans (List.filter_append_perm _ L).symm).cons c
open Go.RowKit Go.Lib
theorem Wt{base:Nat}(v:Value)(K:List CV)(X:World)(hn:K.length≤4096)(ho:X.ownsRow base 103 6 v K.length (Zj K)) :
  Calls Tryz.prog 88 #[v] X fun e w'=>∃ v',e = .returned v'∧w'.ownsRow X.heap.size 103 6 v' K.length (Zj K)∧Below X.heap.size X w':=by
 have ho':=ho
 rcases ho.2 with ⟨rfl,hk⟩|⟨g,cap,cur,rfl,hg,hh,r⟩
 ·have e:K=[]:=List.length_eq_zero_iff.1 hk
  subst e
  exact (Qh X).mono fun e w' ⟨x,y⟩=>⟨_,x,y ▸ ⟨rfl,.inl ⟨rfl,rfl⟩⟩,y ▸ Below.refl _ _⟩
 ·refine (Wi ⟨g,0,none⟩ K.length cap K X hn rfl (fun j u hj=>?_)).mono fun e w' ⟨v,x,y,z⟩=>⟨v,x,y,z⟩
  have hi:j<K.length*6:=by
   have:=(List.getElem?_eq_some_iff.1 hj).1
   rwa [Zv] at this
  rw[Addr.add_lit,Nat.zero_add,World.ownsRow.cellAt ho' j (by omega)]
  exact hj
theorem Zhi{w w2:World}{g:Nat}{d:Array CV}(h:Sort.HoldsK Ua 6 w g 0 d)(e:w2.heap[g]? = w.heap[g]?):Sort.HoldsK Ua 6 w2 g 0 d:=by
 intro j hj
 obtain⟨h1,h2⟩:=h j hj
 refine⟨?_,?_⟩
 ·simp only[World.cell?] at h1 ⊢
  rw[e]
  exact h1
 ·simp only[World.frozen?] at h2 ⊢
  rw[e]
  exact h2
def Zlx(w0:World)(B:Nat)(w':World)(p:Option Addr)(n:Nat)(L:List Zf):Prop:=∀ w2,Gr w' w2 (fun k=>w0.heap.size≤k∧k<B)→CoinsAt w2 p n L
theorem Zcx(w0 w3:World)(bx B:Nat)(p:Option Addr)(n cap:Nat)(K:List CV)(hn:n≤4096)(hk:K.length=n)(ho:w3.ownsRow B 103 6 (.slice p n cap) n (Zj K))(hl:∀ x∈K,LkAt w0 x)(hb:Below w0.heap.size w0 w3)(hB:w0.heap.size≤B)
  (hc:w3.cell? ⟨bx,0,none⟩=some (.slice p n cap)) (hbx:bx<B) :
  Calls Tryz.prog 153 #[.iface 29 (.slice p n cap),.func (.func 154) #[] #[.pointer (some ⟨bx,0,none⟩)]] w3 fun e w'=>e = .returned (.tuple #[])∧∃ L',Zlx w0 B w' p n L'∧SlOk p n cap∧L'.Perm (K.map (·.1))∧Wk L'∧w'.cell? ⟨bx,0,none⟩=some (.slice p n cap)∧Gr w3 w' (fun k=>B≤k):=by
 subst hk
 have hl3:∀ x∈K,LkAt w3 x:=fun x hx=>(hl x hx).later hb
 obtain⟨a',c',e,hco,hso⟩:=Z5 ho hl3
 obtain⟨rfl,rfl⟩:p=a'∧cap=c':=by injection e with e1 e2 e3;exact⟨e1,e3⟩
 by_cases h2:K.length≤1
 ·refine (Ek w3 p K.length cap h2 _ _ _).mono ?_
  rintro e w' ⟨rfl,hb'⟩
  refine⟨rfl,K.map (·.1),fun w2 hg=>?_,hso,List.Perm.refl _,Zeu _ (by rw[List.length_map];exact h2),Zc hb' hc,Gr.of hb'⟩
  have hb2:Below w0.heap.size w0 w2:=hg.below (Ze hb hb') (Ze hb hb').size (fun k e=>e.1)
  have ho':=hg.own ((Gr.of (S:=fun _=>False) hb').own ho (fun _ _ q=>q)) (fun k e q=>by have:=Yx ho k e;omega)
  obtain⟨a2,c2,e,hco2,_⟩:=Z5 ho' (fun x hx=>(hl x hx).later hb2)
  obtain⟨rfl,rfl⟩:p=a2∧cap=c2:=by injection e with e1 e2 e3;exact⟨e1,e3⟩
  exact hco2
 ·obtain⟨g,rfl,hg⟩:∃ g,p=some ⟨g,0,none⟩∧B≤g:=by
   rcases ho.2 with ⟨e,q⟩|⟨g,cap',cur,e,q,_⟩
   ·omega
   ·exact⟨g,by injection e,q⟩
  have hgl:g<w3.heap.size:=(ho.lt g rfl).2
  have hst:CSt w3 g 0 K.length w3 K.toArray:=⟨Fg ho,by simp,Gr.refl _ _⟩
  refine (Ej w3 g 0 K.length cap bx K.toArray hn (by omega) hst hgl hc (by omega)).mono ?_
  rintro e w' ⟨rfl,d',⟨hp,hs⟩,hS⟩
  have hbw:Below w0.heap.size w0 w':=hS.gr.below hb hb.size (fun k e=>by omega)
  have hpl:=Zjf hp (by simp)
  have hd:d'.size=K.length:=hS.len
  refine⟨rfl,d'.toList.map (·.1),fun w2 hg2=>?_,hso,(hpl.map (·.1)),wk_of hs hd,?_,hS.gr.mono (fun k _ e=>by omega)⟩
  ·have hb2:Below w0.heap.size w0 w2:=hg2.below hbw hbw.size (fun k e=>e.1)
   have hgw:g<w'.heap.size:=Nat.lt_of_lt_of_le hgl hS.gr.size
   rw[←hd]
   exact coins_of_holds (Zhi hS.holds (hg2.block g hgw (fun q=>by omega))) (Nat.lt_of_lt_of_le hgw hg2.size) (fun x hx=>(hl x (by simpa using (hpl.mem_iff.1 hx))).later hb2)
  ·have e:=hS.gr.block bx (World.block_lt_of_cell? _ _ hc) (by omega)
   simp only[World.cell?] at hc ⊢
   rw[e]
   exact hc
set_option maxRecDepth 10000 in
theorem Hz{base:Nat}(a:Option Addr)(n c:Nat)(K:List CV)(w0 w:World)(hn:n≤4096)(hk:K.length=n)(ho:w.ownsRow base 103 6 (.slice a n c) n (Zj K))(hl:∀ x∈K,LkAt w0 x)(hb:Below w0.heap.size w0 w) :
  Calls Tryz.prog 113 #[.slice a n c] w fun e w'=>∃ a' c' L',e = .returned (.slice a' n c')∧Zlx w0 w.heap.size w' a' n L'∧SlOk a' n c'∧L'.Perm (K.map (·.1))∧Wk L'∧Below w.heap.size w w':=by
 subst hk
 have hbX:=Zg w (.cells #[.slice a K.length c] 29)
 have hX:=heap_alloc_new w (.cells #[.slice a K.length c] 29)
 have C:=Zb (Wt (.slice a K.length c) K (w.alloc (.cells #[.slice a K.length c] 29)) hn ((Gr.of (S:=fun _=>False) hbX).own ho (fun _ _ q=>q)))
 obtain⟨n,hkn⟩:∃ n,K.length=n:=⟨_,rfl⟩
 rw[hkn] at C hX hbX hn ⊢
 have HBX:=Zb hbX
 have HX:=Zb hX
 have HK:=Zb hkn
 have HL:=Zb hl
 have HB:=Zb hb
 clear ho hbX hX hkn hl hb
 go_enter Tryz.func113,Tryz.ntmps113
 go_wp2_with fail
 refine (Za C).mono ?_
 rintro e w2 ⟨v,rfl,ho,hb2⟩
 obtain⟨p,cap,rfl,hpc⟩:∃ p cap,v = .slice p n cap∧True:=by
  rcases ho.2 with ⟨rfl,q⟩|⟨g,cap,cur,rfl,_⟩
  ·exact⟨none,0,by rw[q],trivial⟩
  ·exact⟨_,cap,rfl,trivial⟩
 have hx2:=(hb2.block _ (lt_of_block (Za HX))).trans (Za HX)
 have xl:=lt_of_block hx2
 have xf:=Zi hx2 0
 have xc:=Zd hx2 0 _ rfl
 obtain⟨w3,hw3⟩:∃ w3,w3=w2.setCell ⟨w.heap.size,0,none⟩ (.slice p n cap):=⟨_,rfl⟩
 have hc3:w3.cell? ⟨w.heap.size,0,none⟩=some (.slice p n cap):=by rw[hw3];exact World.cell?_setCell_same _ _ _ xc
 have hg3:Gr w2 w3 (fun k=>k=w.heap.size):=by rw[hw3];exact (Gr.refl w2 (fun k=>k=w.heap.size)).set (p:=⟨w.heap.size,0,none⟩) (.inl rfl) _
 have hs1:(w.alloc (.cells #[.slice a n c] 29)).heap.size=w.heap.size+1:=by simp
 have ho3:=hg3.own ho (fun k hk=>by have:=Yx ho k hk;omega)
 have hbw3:Below w.heap.size w w3:=hg3.below (Ze (Za HBX) hb2) (Ze (Za HBX) hb2).size (fun k e=>by omega)
 have hb3:Below w0.heap.size w0 w3:=Ze (Za HB) hbw3
 have CS:=Zb (Zcx w0 w3 w.heap.size (w.heap.size+1) p n cap K hn (Za HK) (by rw[←hs1];exact ho3) (Za HL) hb3 (Nat.le_succ_of_le (Za HB).size) hc3 (by omega))
 have HBW3:=Zb hbw3
 have l3:w.heap.size<w3.heap.size:=World.block_lt_of_cell? _ _ hc3
 clear ho hb2 hx2 hg3 ho3 hb3 hbw3
 go_wp2_with fail
 rw[←hw3]
 go_wp2_with fail
 refine (Za CS).mono ?_
 rintro e w4 ⟨rfl,L',hco,hso,hpm,hwk,hc4,hg4⟩
 have R1:Hid (Zlx w0 w.heap.size w4 p n L'):=fun w5 h5=>hco w5 (h5.mono (fun k _ q=>⟨q.1,by omega⟩))
 have R2:=Zb hpm
 have R3:=Zb hwk
 have R4:Hid (Below w.heap.size w w4):=hg4.below (Za HBW3) (Za HBW3).size (fun k q=>by omega)
 clear hco hpm hwk hg4
 go_wp2
 go_ret
 exact⟨p,cap,L',rfl,Za R1,hso,Za R2,Za R3,Za R4⟩
set_option maxRecDepth 10000 in
def Qo:List Zf→List Zf→Bool
 | [],[]=>true
 | x :: r,y :: q=>decide (x=y) && Qo r q
 | _,_=>false
theorem Uk:∀ (l k:List Zf),Qo l k=true↔l=k
 | [],[]=>by simp[Qo]
 | [],y :: q=>by simp[Qo]
 | x :: r,[]=>by simp[Qo]
 | x :: r,y :: q=>by rw[Qo,Bool.and_eq_true,decide_eq_true_eq,Uk r q,List.cons.injEq]
theorem An{l k:List Zf}(h:l≠k):Qo l k=false:=by
 rw[←Bool.not_eq_true,Uk];exact h
theorem Nf{l k:List Zf}(h:l=k):Qo l k=true:=(Uk l k).2 h
theorem Cg(a b:Option Addr)(n m c d:Nat)(v:Value)(w:World)(h:n≠m) :
  Calls Tryz.prog 42 #[.slice a n c,.slice b m d,v] w fun e w'=>e = .returned (.bool false)∧w=w':=by
 have g:((n:Int) != (m:Int))=true:=by simp;omega
 clear h
 go_enter Tryz.func42,Tryz.ntmps42
 go_wp2
 go_ret
 exact⟨rfl,rfl⟩
theorem Cf(a b:Option Addr)(c d:Nat)(v:Value)(w:World) :
  Calls Tryz.prog 42 #[.slice a 0 c,.slice b 0 d,v] w fun e w'=>e = .returned (.bool true)∧w=w':=by
 go_enter Tryz.func42,Tryz.ntmps42
 go_wp2
 refine wp_loop_rounds 1 ?_
 rw[rounds_succ]
 go_wp2
 go_ret
 exact⟨rfl,rfl⟩
set_option maxRecDepth 10000 in
theorem Du(x y:Zf)(a b:Option Addr)(n c m d:Nat)(o:Bool)(w:World)(hn:n≤maxLen)(hA:OpsAt w a n (ck x))(hB:OpsAt w b m (ck y))(ho:decide (x=y)=o) :
  Calls Tryz.prog 43 #[cnV x a n c,cnV y b m d] w fun e w'=>e = .returned (.bool o)∧Below w.heap.size w w':=by
 obtain⟨x1,x2,x3,k,x4,x5⟩:=x
 obtain⟨y1,y2,y3,l,y4,y5⟩:=y
 unfold cnV
 simp only[cv,ck,ch,cr] at hA hB ⊢
 obtain⟨X,hX⟩:∃ X,X=(w.alloc (.cells #[.int .i64 x1,.int .i64 x2,.int .i64 x3,.slice a n c,.int .i64 x4,.bool x5] 103)).alloc (.cells #[.int .i64 y1,.int .i64 y2,.int .i64 y3,.slice b m d,.int .i64 y4,.bool y5] 103):=⟨_,rfl⟩
 have hb:Below w.heap.size w X:=by rw[hX];exact Ze (Zg _ _) (Zg _ _)
 obtain⟨n0,n1,n2,n3,n4,n5⟩:=Rg w (.int .i64 x1) (.int .i64 x2) (.int .i64 x3) (.slice a n c) (.int .i64 x4) (.bool x5) 103
 obtain⟨m0,m1,m2,m3,m4,m5⟩:=Rg (w.alloc (.cells #[.int .i64 x1,.int .i64 x2,.int .i64 x3,.slice a n c,.int .i64 x4,.bool x5] 103)) (.int .i64 y1) (.int .i64 y2) (.int .i64 y3) (.slice b m d) (.int .i64 y4) (.bool y5) 103
 rw[show (w.alloc (.cells #[.int .i64 x1,.int .i64 x2,.int .i64 x3,.slice a n c,.int .i64 x4,.bool x5] 103)).heap.size=w.heap.size+1 by simp,←hX] at m0 m1 m2 m3 m4 m5
 have p4:X.cell? ⟨w.heap.size,4,none⟩=some (.int .i64 x4):=by rw[hX];exact Zc (Zg _ _) n4
 have p5:X.cell? ⟨w.heap.size,5,none⟩=some (.bool x5):=by rw[hX];exact Zc (Zg _ _) n5
 have HB:=Zb hb
 obtain⟨q,hq⟩:∃ q,decide ((x3,k)=(y3,l))=q:=⟨_,rfl⟩
 have C:=Zb (As (x3,k) (y3,l) a b n c m d q X hn (hA.later hb) (hB.later hb) hq)
 simp only at C
 have HO:Hid (o=(decide (x1=y1∧x2=y2) && (q && (decide (x4=y4) && decide (x5=y5))))):=by
  show _=_
  rw[←ho,←hq,Bool.eq_iff_iff]
  simp only[Prod.mk.injEq,Bool.and_eq_true,decide_eq_true_eq]
  constructor
  ·rintro ⟨h1,h2,h3,h4,h5,h6⟩;exact⟨⟨h1,h2⟩,⟨h3,h4⟩,h5,h6⟩
  ·rintro ⟨⟨h1,h2⟩,⟨h3,h4⟩,h5,h6⟩;exact⟨h1,h2,h3,h4,h5,h6⟩
 clear hA hB hb ho hq m0 m1 m2 m3 n0 n1 n2 n3 n4 n5
 by_cases e1:x1=y1∧x2=y2
 ·obtain⟨rfl,rfl⟩:=e1
  cases q with
  | false=>
   have R:Hid (o=false):=by show _=_;rw[Za HO];simp
   clear HO
   go_enter Tryz.func43,Tryz.ntmps43
   go_wp2_with fail
   rw[←hX]
   clear hX
   refine (Za C).mono ?_
   rintro e w2 ⟨rfl,hb2⟩
   have HB2:=Zb (Ze (Za HB) hb2)
   clear hb2
   go_wp2
   go_ret
   exact⟨by rw[Za R];rfl,Za HB2⟩
  | true=>
   by_cases e4:x4=y4
   ·subst e4
    by_cases e5:x5=y5
    ·subst e5
     have R:Hid (o=true):=by show _=_;rw[Za HO];simp
     clear HO
     go_enter Tryz.func43,Tryz.ntmps43
     go_wp2_with fail
     rw[←hX]
     clear hX
     refine (Za C).mono ?_
     rintro e w2 ⟨rfl,hb2⟩
     have r4:=Zc hb2 p4
     have r5:=Zc hb2 p5
     have s4:=Zc hb2 m4
     have s5:=Zc hb2 m5
     have HB2:=Zb (Ze (Za HB) hb2)
     clear hb2
     go_wp2
     go_ret
     exact⟨by rw[Za R];first|rfl|(cases x5 <;> rfl)|(simp;rfl),Za HB2⟩
    ·have R:Hid (o=false):=by show _=_;rw[Za HO];simp[e5]
     have g5:(x5 == y5)=false:=by simp[e5]
     clear HO
     go_enter Tryz.func43,Tryz.ntmps43
     go_wp2_with fail
     rw[←hX]
     clear hX
     refine (Za C).mono ?_
     rintro e w2 ⟨rfl,hb2⟩
     have r4:=Zc hb2 p4
     have r5:=Zc hb2 p5
     have s4:=Zc hb2 m4
     have s5:=Zc hb2 m5
     have HB2:=Zb (Ze (Za HB) hb2)
     clear hb2
     go_wp2
     go_ret
     exact⟨by rw[Za R];rfl,Za HB2⟩
   ·have R:Hid (o=false):=by show _=_;rw[Za HO];simp[e4]
    have g4:(x4 == y4)=false:=by simp[e4]
    clear HO
    go_enter Tryz.func43,Tryz.ntmps43
    go_wp2_with fail
    rw[←hX]
    clear hX
    refine (Za C).mono ?_
    rintro e w2 ⟨rfl,hb2⟩
    have r4:=Zc hb2 p4
    have s4:=Zc hb2 m4
    have HB2:=Zb (Ze (Za HB) hb2)
    clear hb2
    go_wp2
    go_ret
    exact⟨by rw[Za R];rfl,Za HB2⟩
 ·have R:Hid (o=false):=by show _=_;rw[Za HO,decide_eq_false e1,Bool.false_and]
  have HBX:Hid (Below w.heap.size w X):=HB
  rw[hX] at HBX
  clear HO C
  by_cases e2:x1=y1
  ·have e3:¬x2=y2:=fun q=>e1 ⟨e2,q⟩
   subst e2
   clear e1
   go_enter Tryz.func43,Tryz.ntmps43
   go_wp2
   go_ret
   exact⟨by rw[Za R];rfl,Za HBX⟩
  ·clear e1
   go_enter Tryz.func43,Tryz.ntmps43
   go_wp2
   go_ret
   exact⟨by rw[Za R];rfl,Za HBX⟩
set_option maxRecDepth 10000 in
theorem Su(b1 o1 b2 o2 n c d:Nat)(l k:List Zf)(o:Bool)(w:World)(hn:n≤maxLen)(z1:l.length=n)(z2:k.length=n)
  (h1:∀ i (h:i<l.length),CoinAt w b1 (o1+i*6) l[i]) (h2:∀ i (h:i<k.length),CoinAt w b2 (o2+i*6) k[i]) (ho:Qo l k=o) :
  Calls Tryz.prog 42 #[.slice (some ⟨b1,o1,none⟩) n c,.slice (some ⟨b2,o2,none⟩) n d,.func (.func 43) #[] #[]] w fun e w'=>e = .returned (.bool o)∧Below w.heap.size w w':=by
 subst ho
 unfold maxLen at hn
 have H1:=Zb h1
 have H2:=Zb h2
 have Z1:=Zb z1
 have Z2:=Zb z2
 clear h1 h2 z1 z2
 go_enter Tryz.func42,Tryz.ntmps42
 go_wp2
 go_loopw [17] (fun i wr=>∃ j:Nat,j≤n∧i = .int .i64 j∧Below w.heap.size w wr∧Hid (l.take j=k.take j)) (fun i _=>n - (intOf i).toNat)
 case atStart=>exact⟨0,Nat.zero_le _,rfl,Below.refl _ _,rfl⟩
 case round=>
  obtain⟨j,hk,rfl,hb,A⟩:=hrel
  have HB:=Zb hb
  by_cases hlt:j<n
  ·have hl1:j<l.length:=by rw[Za Z1];exact hlt
   have hl2:j<k.length:=by rw[Za Z2];exact hlt
   have g:=CoinAt.kept _ _ _ _ _ hb ((Za H1) j hl1)
   have f:=CoinAt.kept _ _ _ _ _ hb ((Za H2) j hl2)
   have TS:=Zb (M9 hl1 hl2 (Za A))
   have TU:=Zb (P9 hl1 hl2)
   obtain⟨q,hq⟩:∃ q,l[j]=q:=⟨_,rfl⟩
   obtain⟨r,hr⟩:∃ r,k[j]=r:=⟨_,rfl⟩
   rw[hq] at g
   rw[hr] at f
   rw[hq,hr] at TS TU
   obtain⟨qa,qn,qc,g0,g1,g2,g3,g4,g5,gO,gS⟩:=g.val
   obtain⟨ra,rn,rc,f0,f1,f2,f3,f4,f5,fO,fS⟩:=f.val
   have hb2:=Ze (Zg wr (.cells #[.int .i64 q.1,.int .i64 q.2.1,.int .i64 (cv q),.slice qa qn qc,.int .i64 (ch q),.bool (cr q)] 103)) (Zg _ (.cells #[.int .i64 r.1,.int .i64 r.2.1,.int .i64 (cv r),.slice ra rn rc,.int .i64 (ch r),.bool (cr r)] 103))
   obtain⟨o',ho'⟩:∃ o',decide (q=r)=o':=⟨_,rfl⟩
   have C:=Du q r qa ra qn qc rn rc o' _ gS.len (gO.later hb2) (fO.later hb2) ho'
   unfold cnV at C
   have HC:=Zb C
   have HB2:=Zb (Ze (Za HB) hb2)
   have hrl:b2<wr.heap.size:=World.block_lt_of_cell? _ _ f0
   have hkI:(j:Int)<(n:Int):=by omega
   clear hb g f hb2 C gO fO gS fS hq hr A
   cases o' with
   | true=>
    have T:=Zb ((Za TS) (of_decide_eq_true ho'))
    clear TS TU ho'
    go_wp2_with fail
    refine (Za HC).mono ?_
    rintro e w2 ⟨rfl,hb3⟩
    have HB3:=Zb (Ze (Za HB2) hb3)
    clear hb3
    go_wp2
    go_roundw
    case rel=>exact⟨j+1,by omega,by go_num,Za HB3,T⟩
    case measure=>simp[intOf];omega
   | false=>
    have U:Hid (Qo l k=false):=An ((Za TU) (of_decide_eq_false ho'))
    clear TS TU ho'
    go_wp2_with fail
    refine (Za HC).mono ?_
    rintro e w2 ⟨rfl,hb3⟩
    have HB3:=Zb (Ze (Za HB2) hb3)
    clear hb3
    go_wp2
    go_ret
    exact⟨by rw[Za U];rfl,Za HB3⟩
  ·have U:Hid (Qo l k=true):=by
    have h:=Za A
    rw[List.take_of_length_le (by rw[Za Z1];omega),List.take_of_length_le (by rw[Za Z2];omega)] at h
    exact Nf h
   clear A hb
   go_wp2
   go_ret
   exact⟨by rw[Za U];rfl,Za HB⟩
theorem P2(a b:Option Addr)(n m c d:Nat)(l k:List Zf)(o:Bool)(w:World)(hn:n≤maxLen)(hA:CoinsAt w a n l)(hB:CoinsAt w b m k)(ho:Qo l k=o) :
  Calls Tryz.prog 42 #[.slice a n c,.slice b m d,.func (.func 43) #[] #[]] w fun e w'=>e = .returned (.bool o)∧Below w.heap.size w w':=by
 by_cases h:n=m
 ·subst h
  by_cases h0:n=0
  ·subst h0
   have e1:l=[]:=List.length_eq_zero_iff.1 hA.1
   have e2:k=[]:=List.length_eq_zero_iff.1 hB.1
   subst e1 e2
   rw[Nf rfl] at ho
   subst ho
   exact (Cf a b c d _ w).mono fun e w' ⟨h1,h2⟩=>⟨h1,h2 ▸ Below.refl _ _⟩
  ·obtain⟨b1,o1,rfl,_,h1⟩:=hA.2 (by omega)
   obtain⟨b2,o2,rfl,_,h2⟩:=hB.2 (by omega)
   exact Su b1 o1 b2 o2 n c d l k o w hn hA.1 hB.1 h1 h2 ho
 ·have e:l≠k:=fun e=>h (by rw[←hA.1,←hB.1,e])
  rw[An e] at ho
  subst ho
  exact (Cg a b n m c d _ w h).mono fun e w' ⟨h1,h2⟩=>⟨h1,h2 ▸ Below.refl _ _⟩
theorem Qb(a b:Option Addr)(n m c d:Nat)(l k:List Zf)(o:Bool)(w:World)(hn:n≤maxLen)(hA:CoinsAt w a n l)(hB:CoinsAt w b m k)(ho:Qo l k=o) :
  Calls Tryz.prog 16 #[.slice a n c,.slice b m d] w fun e w'=>e = .returned (.bool o)∧Below w.heap.size w w':=by
 have C:=Zb (P2 a b n m c d l k o w hn hA hB ho)
 clear hA hB ho
 go_enter Tryz.func16,Tryz.ntmps16
 go_wp2_with fail
 refine (Za C).mono ?_
 rintro e w2 ⟨rfl,hb2⟩
 have HB2:=Zb hb2
 clear hb2
 go_wp2
 go_ret
 exact⟨rfl,Za HB2⟩
theorem Wf{P:Program}{ops:Array Oper}{o:Oper}{a:Act}{w:World}{K:Act→World→Prop}{Q:Exit→Act→World→Prop}{E:Prop}
  (hw:Region.wanted o (yielded ops a.tmps)=true) (f:FuncId) (vs:Array Value) (he:(execOp a.eval o).run P w = .ok (.enter f vs) w) {R:Ending→World→Prop} (hc:Calls P f vs w R) (h:∀ e w',R e w'→∃ v,e = .returned v∧K (a.put o.dst v) w') :
  if Region.wanted o (yielded ops a.tmps)=true then Oper.wp P o a w K Q else E:=by
 rw[if_pos hw]
 unfold Oper.wp
 rw[he,Oper.upon_enter]
 refine hc.mono ?_
 intro e w' hr
 obtain⟨v,rfl,hk⟩:=h e w' hr
 exact hk
theorem Dr{P:Program}{ops:Array Oper}{o:Oper}{a:Act}{w:World}{K:Act→World→Prop}{Q:Exit→Act→World→Prop}{E:Prop}
  (hg:o.guard=none) (f:FuncId) (vs:Array Value) (he:(execOp a.eval o).run P w = .ok (.enter f vs) w) {R:Ending→World→Prop} (hc:Calls P f vs w R) (h:∀ e w',R e w'→∃ v,e = .returned v∧K (a.put o.dst v) w') :
  if Region.wanted o (yielded ops a.tmps)=true then Oper.wp P o a w K Q else E:=
 Wf (by simp[Region.wanted,hg]) f vs he hc h
structure Rv1(w X0 wr:World)(v:Value)(K:List CV):Prop where
 own:wr.ownsRow X0.heap.size 103 6 v K.length (Zj K)
 lks:∀ x∈K,LkAt w x
 bel:Below X0.heap.size X0 wr
open Go.RowKit Go.Shelf
attribute [local go_sem] Oper.semAt_some
structure KpD(n1 b c:Nat)(W W':World):Prop where
 os:W'.os=W.os
 tape:W'.tape=W.tape
 output:W'.output=W.output
 size:W.heap.size≤W'.heap.size
 block:∀ k,k<n1→k≠b→k≠c→W'.heap[k]? = W.heap[k]?
theorem KpD.refl(n1 b c:Nat)(W:World):KpD n1 b c W W:=⟨rfl,rfl,rfl,Nat.le_refl _,fun _ _ _ _=>rfl⟩
theorem KpD.trans{n1 b c:Nat}{A B C:World}(h:KpD n1 b c A B)(k:KpD n1 b c B C):KpD n1 b c A C:=
 ⟨k.os.trans h.os,k.tape.trans h.tape,k.output.trans h.output,Nat.le_trans h.size k.size,fun i h1 h2 h3=>(k.block i h1 h2 h3).trans (h.block i h1 h2 h3)⟩
theorem KpD.put{n1 b c:Nat}(W:World)(l:Nat)(o:Obj)(h:n1≤l):KpD n1 b c W (W.putObj l o):=
 ⟨rfl,rfl,rfl,by simp,fun k hk _ _=>World.putObj_heap_other (by omega)⟩
theorem KpD.set{n1 b c:Nat}{W W':World}(h:KpD n1 b c W W'){p:Addr}(hp:p.block=b∨p.block=c)(u:Value):KpD n1 b c W (W'.setCell p u):=
 ⟨h.os,h.tape,h.output,by simpa[World.setCell] using h.size,fun k h1 h2 h3=>(Below.heap_setCell W' p u k (fun e=>by subst e;rcases hp with q|q;exact h2 q;exact h3 q)).trans (h.block k h1 h2 h3)⟩
theorem KpD.on{n1 b c:Nat}{W W1 W2:World}(h:KpD n1 b c W W1)(hb:Below W1.heap.size W1 W2)(hn:n1≤W1.heap.size):KpD n1 b c W W2:=
 ⟨hb.os.trans h.os,hb.tape.trans h.tape,hb.output.trans h.output,Nat.le_trans h.size hb.size,fun k h1 h2 h3=>(hb.block k (by omega)).trans (h.block k h1 h2 h3)⟩
theorem KpD.grown{n1 b c:Nat}{W W1 W2:World}(h:KpD n1 b c W W1){row:Option Nat}(g:W1.grownBy W2 row)(hr:∀ r,row=some r→n1≤r)(hn:n1≤W1.heap.size):KpD n1 b c W W2:=
 ⟨g.os.trans h.os,g.tape.trans h.tape,g.output.trans h.output,Nat.le_trans h.size g.size,fun k h1 h2 h3=>(g.block k (by omega) (fun e=>by have:=hr k e.symm;omega)).trans (h.block k h1 h2 h3)⟩
theorem KpD.below{n1 b c:Nat}{w W0 W:World}(h:KpD n1 b c W0 W)(hb:Below w.heap.size w W0)(hn:w.heap.size≤n1)(h1:w.heap.size≤b)(h2:w.heap.size≤c):Below w.heap.size w W:=
 ⟨h.os.trans hb.os,h.tape.trans hb.tape,h.output.trans hb.output,Nat.le_trans hb.size h.size,fun k hk=>(h.block k (by omega) (by omega) (by omega)).trans (hb.block k hk)⟩
theorem KpD.cell{n1 b c:Nat}{W W':World}(h:KpD n1 b c W W'){k o:Nat}{v:Value}(hk:k<n1)(h2:k≠b)(h3:k≠c)(hv:W.cell? ⟨k,o,none⟩=some v):W'.cell? ⟨k,o,none⟩=some v:=
 (World.cell?_of_block (a:=⟨k,o,none⟩) (h.block k hk h2 h3)).trans hv
def Box1(W:World)(k:Nat):Prop:=∃ v t fr,W.heap[k]? = some (.cells #[v] t fr)
theorem Box1.two{W:World}{k:Nat}(h:Box1 W k){o:Nat}{v:Value}(h2:W.cell? ⟨k,o+1,none⟩=some v):False:=by
 obtain⟨x,t,fr,hx⟩:=h
 rw[cell_of_row W k (o+1) #[x] t fr hx] at h2
 simp at h2
end Go.Proofs.YtpikejjiignchaaGreatDoor
namespace Go.Proofs.YtpikejjiignchaaGreatDoor
open Go.RowKit
theorem Vq{P:Program}{ops:Array Oper}{o:Oper}{a:Act}{w:World}{K:Act→World→Prop}{Q:Exit→Act→World→Prop}{E:Prop}
  (hw:Region.wanted o (yielded ops a.tmps)=true) (f:FuncId) (vs:Array Value) (he:(execOp a.eval o).run P w = .ok (.enter f vs) w) {R:Ending→World→Prop} (hc:Calls P f vs w R) (h:∀ e w',R e w'→∃ v,e = .returned v∧K (a.put o.dst v) w') :
  if Region.wanted o (yielded ops a.tmps)=true then Oper.wp P o a w K Q else E:=by
 rw[if_pos hw]
 unfold Oper.wp
 rw[he,Oper.upon_enter]
 refine hc.mono ?_
 intro e w' hr
 obtain⟨v,rfl,hk⟩:=h e w' hr
 exact hk
set_option maxRecDepth 10000 in
theorem Em(h r:Int)(w:World)(h1:1≤h)(h2:h≤1000)(hr:rwD h=(r,0)) :
  Calls Tryz.prog 71 #[.int .i64 h] w fun e w'=>e = .returned (.int .i64 r)∧Below w.heap.size w w':=by
 have e:r=(rwN ((h - 1).toNat / 8):Nat):=by
  unfold rwD at hr
  rw[if_pos (by simp only[Bool.and_eq_true,decide_eq_true_eq];omega)] at hr
  injection hr with e _
  exact e.symm
 have HE:=Zb e
 clear hr e
 go_enter Tryz.func71,Tryz.ntmps71
 go_wp2
 go_loopw [3,4] (fun nv hv wr=>∃ k q:Nat,nv = .int .i64 q∧hv = .int .i64 ((8:Int)+8*k)∧(8:Int)*k<h∧Hid (q=rwN k)∧wr=w) (fun _ hv _=>(h+8 - intOf hv).toNat)
 case atStart=>exact⟨0,64,rfl,rfl,by omega,rfl,rfl⟩
 case round=>
  obtain⟨k,q,rfl,rfl,hk,HQ,rfl⟩:=hrel
  have hq:q≤64:=by rw[Za HQ];exact Pg k
  have hqi:(0:Int)≤(q:Int):=by omega
  have hqj:(q:Int)≤64:=by omega
  by_cases hlt:(8:Int)+8*k<h
  ·have hw1:IntKind.i64.wrap ((8:Int)+8*k+8)=(8:Int)+8*k+8:=by rw[IntKind.wrap_i64];omega
   have Q2:Hid (q / 2=rwN (k+1)):=by show _=rwN k / 2;rw[Za HQ]
   go_wp2
   go_roundw
   case rel=>exact⟨k+1,q / 2,by go_num,by go_num,by omega,Q2,by first|rfl|trivial⟩
   case measure=>simp[intOf];omega
  ·have R:Hid (r=(q:Int)):=by
    show _=_
    rw[Za HE,Za HQ]
    congr 2
    omega
   go_wp2
   go_ret
   exact⟨by rw[Za R];rfl,Below.refl _ _⟩
set_option maxRecDepth 10000 in
theorem Zbq(sa:Option Addr)(ns cs:Nat)(S:List Zf)(ht:Int)(ai ao:Option Addr)(ni ci no co:Nat)(O:List Yc)(x:Int)(w:World)(hns:ns≤6)(hno:no≤6)(hS:CoinsAt w sa ns S)(hO:OutsAt w ao no O)
  (hs:∀ c∈S,0≤cv c∧cv c≤1000000000) (ho:∀ c∈O,0≤c.1∧c.1≤1000000000) (hx:Z6 S - Yi O=x) :
  Calls Tryz.prog 61 #[.agg #[.int .i64 ht,.slice ai ni ci,.slice ao no co],.slice sa ns cs] w fun e w'=>e = .returned (.int .i64 x)∧Below w.heap.size w w':=by
 obtain⟨X0,hX0⟩:∃ X0,X0=w.alloc (.cells #[.int .i64 ht,.slice ai ni ci,.slice ao no co] 52):=⟨_,rfl⟩
 have hb0:Below w.heap.size w X0:=by rw[hX0];exact Zg _ _
 have hX1:X0.heap[w.heap.size]? = some (.cells [.int .i64 ht,.slice ai ni ci,.slice ao no co].toArray 52 (0,0)):=by rw[hX0];exact Zp _ _ _ _ _
 have HSB:=Zb (fun k=>Hi S k hs)
 have HOB:=Zb (fun k=>Hh O k ho)
 have HS:=Zb (hS.later hb0)
 have HO:=Zb (hO.later hb0)
 have HZS:=Zb hS.1
 have HZO:=Zb hO.1
 have HX:=Zb hx
 have HX1:=Zb hX1
 have HB0:=Zb hb0
 clear hS hO hs ho hx hX1 hb0
 go_enter Tryz.func61,Tryz.ntmps61
 go_wp2
 rw[←hX0]
 clear hX0
 go_loopw [5,12] (fun sv i wr=>∃ (k:Nat) (s:Int),k≤ns∧sv = .int .i64 s∧i = .int .i64 k∧Hid (s=Z6 (S.take k))∧Hid (Below X0.heap.size X0 wr)) (fun _ i _=>ns - (intOf i).toNat)
 case atStart=>exact⟨0,0,Nat.zero_le _,rfl,rfl,rfl,Below.refl _ _⟩
 case round=>
  obtain⟨k,s,hk,rfl,rfl,A,HB⟩:=hrel
  by_cases hlt:k<ns
  ·have hlk:k<S.length:=by rw[Za HZS];exact hlt
   obtain⟨b,off,rfl,hbl,hcell⟩:=(Za HS).2 (by omega)
   have hin:=CoinAt.kept _ _ _ _ _ (Za HB) (hcell k hlk)
   have b1:=(Za HSB) k
   have b2:=(Za HSB) (k+1)
   have hst:=Pf S k hlk
   obtain⟨c,hc⟩:∃ c,S[k]=c:=⟨_,rfl⟩
   rw[hc] at hin hst
   obtain⟨la,ln,lc,g0,g1,g2,g3,g4,g5,_,_⟩:=hin.val
   obtain⟨v,hv⟩:∃ v,cv c=v:=⟨_,rfl⟩
   rw[hv] at g2 hst
   rw[←Za A] at b1 hst
   rw[hst] at b2
   have A2:Hid (s+v=Z6 (S.take (k+1))):=hst.symm
   have HB2:=Zb (Ze (Za HB) (Zg wr (.cells #[.int .i64 c.1,.int .i64 c.2.1,.int .i64 v,.slice la ln lc,.int .i64 (ch c),.bool (cr c)] 103)))
   have hw1:IntKind.i64.wrap (s+v)=s+v:=by rw[IntKind.wrap_i64];omega
   clear hin hc hst A HB
   go_wp2
   go_roundw
   case rel=>exact⟨k+1,s+v,by omega,rfl,by go_num,A2,HB2⟩
   case measure=>simp[intOf];omega
  ·have e:k=ns:=by omega
   subst e
   have A2:Hid (s=Z6 S):=by
    show _=_
    rw[Za A,List.take_of_length_le (by rw[Za HZS];exact Nat.le_refl _)]
   have b1:=(Za HSB) k
   rw[←Za A] at b1
   have hh:=((Za HB).block _ (lt_of_block (Za HX1))).trans (Za HX1)
   have c2:=Zd hh 2 _ rfl
   have hl:=lt_of_block hh
   clear A hh
   go_wp2
   go_loopw [5,25] (fun sv i wr2=>∃ (j:Nat) (d:Int),j≤no∧sv = .int .i64 d∧i = .int .i64 j∧Hid (d=s - Yi (O.take j))∧Hid (Below X0.heap.size X0 wr2)) (fun _ i _=>no - (intOf i).toNat)
   case atStart=>exact⟨0,s,Nat.zero_le _,rfl,rfl,(by simp[Yi]:s=s - Yi (O.take 0)),HB⟩
   case round=>
    obtain⟨j,d,hj,rfl,rfl,D,HD⟩:=hrel
    clear HB
    have hbd:=Za HD
    by_cases hlt:j<no
    ·have hlk:j<O.length:=by rw[Za HZO];exact hlt
     obtain⟨b,off,rfl,hbl,hcell⟩:=(Za HO).2 (by omega)
     have hin:=OutAt.kept _ _ _ _ _ hbd (hcell j hlk)
     have d1:=(Za HOB) j
     have d2:=(Za HOB) (j+1)
     have hst:=Rf O j hlk
     obtain⟨o,hc⟩:∃ o,O[j]=o:=⟨_,rfl⟩
     rw[hc] at hin hst
     obtain⟨q1,q2⟩:=o
     obtain⟨g0,la,ln,lc,g1,_,_⟩:=hin
     simp only at g0 g1 hst
     have hd:d=s - Yi (O.take j):=Za D
     have A3:Hid (d - q1=s - Yi (O.take (j+1))):=by show _=_;rw[hst];omega
     have HB2:=Zb (Ze (Za HD) (Zg wr (.cells #[.int .i64 q1,.slice la ln lc] 101)))
     have hw1:IntKind.i64.wrap (d - q1)=d - q1:=by rw[IntKind.wrap_i64];omega
     clear hc hst D HD hd d1 d2 hbd
     go_wp2
     go_roundw
     case rel=>exact⟨j+1,d - q1,by omega,rfl,by go_num,A3,HB2⟩
     case measure=>simp[intOf];omega
    ·have e:j=no:=by omega
     subst e
     have hd:d=Z6 S - Yi O:=by
      have:=Za D
      rw[List.take_of_length_le (by rw[Za HZO];exact Nat.le_refl _),Za A2] at this
      exact this
     have HBD:=Zb (Ze (Za HB0) hbd)
     have R:Hid (x=d):=by show _=_;rw[←Za HX,hd]
     clear hbd D hd
     go_wp2
     go_ret
     exact⟨by rw[Za R];rfl,Za HBD⟩
theorem Ed(z:Array Value)(n:Nat):(Builtin.zeroCells z n).size=n*z.size:=by simp[Builtin.zeroCells]
theorem Zed(n:Nat)(w:World)(hn:n≤4096) :
  Calls Tryz.prog 152 #[.slice none 0 0,.int .i64 n] w fun e w'=>∃ v,e = .returned v∧w'.ownsRow w.heap.size 103 6 v 0 []∧Below w.heap.size w w':=by
 obtain⟨i0,hi,hz0,hz1,hz2⟩:=info_parts Tryz.infoCoin
 by_cases h:n=0
 ·subst h
  exact (Any8.slices_Grow_room Tryz.growC none 0 0 0 w (Nat.le_refl _) (by omega) (by omega) (by omega)).mono fun e w' ⟨h1,h2⟩=>⟨_,h1,⟨rfl,Or.inl ⟨rfl,rfl⟩⟩,h2 ▸ Below.refl _ _⟩
 ·refine (Any8.slices_Grow_grow Tryz.growC i0 zeroC hi hz0 (by rw[hz1];decide) none 0 0 n [] w (Nat.le_refl _) (by omega) (by rw[hz2];omega) (by omega) (by simp) (fun _=>rfl) (fun a h=>by cases h)).mono fun e w' ⟨h1,h2⟩=>⟨_,h1,?_,?_⟩
  ·rw[h2]
   have hge:=grownCap_ge w (0+n) 0 (Tryz.growC_ren.t 25)
   have hle:=grownCap_le_maxLen w (0+n) 0 (Tryz.growC_ren.t 25) (by unfold maxLen;omega)
   refine⟨rfl,Or.inr ⟨w.heap.size,_,_,rfl,Nat.le_refl _,heap_alloc_new _ _,Nat.zero_le _,hle,?_,rfl⟩⟩
   simp only[Array.size_append,Ed,List.size_toArray,List.length_nil]
   show 0+(0+n - 0)*6+_*6=_*6
   omega
  ·rw[h2]
   exact⟨rfl,rfl,rfl,by simp,fun k hk=>Below.heap_alloc w.drew _ k hk⟩
theorem Zho(K:List CV)(M:List CV):Zj K++Zj M=Zj (K++M):=(Zu K M).symm
set_option maxRecDepth 100000 in
theorem Gx(B:Nat)(x y:Addr)(lenk capk len cap:Nat)(k l:List CV)(w:World)(hsum:lenk+len≤4096)(hzk:k.length=lenk)(hzl:l.length=len)
  (hK:∀ j u,(Zj k)[j]? = some u→w.cell? (x.add j)=some u) (hL:∀ j u,(Zj l)[j]? = some u→w.cell? (y.add j)=some u)
  (c0:w.cell? ⟨B,0,none⟩=some (.slice (some x) lenk capk)) (c1:w.cell? ⟨B,1,none⟩=some (.slice (some y) len cap)) :
  Calls Tryz.prog 112 #[.slice (some ⟨B,0,none⟩) 2 2] w fun e w'=>∃ v,e = .returned v∧w'.ownsRow w.heap.size 103 6 v (lenk+len) (Zj (k++l))∧Below w.heap.size w w':=by
 obtain⟨i0,hi,hz0,hz1,hz2⟩:=info_parts Tryz.infoCoin
 have hBl:B<w.heap.size:=World.block_lt_of_cell? _ _ c0
 have HK:=Zb hK
 have HL:=Zb hL
 have HZK:=Zb hzk
 have HZL:=Zb hzl
 clear hK hL hzk hzl
 go_enter Tryz.func112,Tryz.ntmps112
 go_wp2
 refine wp_loop_rounds 3 ?_
 rw[rounds_succ]
 go_wp2
 rw[rounds_succ]
 go_wp2
 rw[rounds_succ]
 have GR:=Zb (Zed (lenk+len) w hsum)
 rw[Int.natCast_add] at GR
 go_wp2_with fail
 refine (Za GR).mono ?_
 rintro e w1 ⟨v,rfl,hw1,hb1⟩
 have HW1:=Zb hw1
 have HB1:=Zb hb1
 have c01:=(hb1.cell (p:=⟨B,0,none⟩) hBl).trans c0
 have c11:=(hb1.cell (p:=⟨B,1,none⟩) hBl).trans c1
 clear hw1 hb1
 go_wp2
 refine wp_loop_rounds 3 ?_
 rw[rounds_succ]
 go_wp2_with (at_builtin;refine wpList_append_own _ rfl _ _ 29 rfl w.heap.size 103 i0 zeroC 6 64 Tryz.underlying29 hi hz0 hz1 hz2 rfl (by decide) _ _ _ rfl (Za HW1) x lenk capk (Zj k) rfl (by rw[Zv,Za HZK]) (fun j u hj=>Zc (Za HB1) ((Za HK) j u hj)) (Xe k) (by unfold maxLen;omega) (by omega) (Za HB1).size ?_;intro v1 w2 hown2 hgrow2 _)
 have HW2:Hid (w2.ownsRow w.heap.size 103 6 v1 (0+lenk) (Zj k)):=Zb (by simpa using hown2)
 have HB2:=Zb ((Za HB1).grown hgrow2 (Za HB1).size (Yx (Za HW1)))
 have c02:=((Za HB2).cell (p:=⟨B,0,none⟩) hBl).trans c0
 have c12:=((Za HB2).cell (p:=⟨B,1,none⟩) hBl).trans c1
 clear hown2 hgrow2
 clear c01 c11
 go_wp2
 rw[rounds_succ]
 go_wp2_with (at_builtin;refine wpList_append_own _ rfl _ _ 29 rfl w.heap.size 103 i0 zeroC 6 64 Tryz.underlying29 hi hz0 hz1 hz2 rfl (by decide) _ _ _ rfl (Za HW2) y len cap (Zj l) rfl (by rw[Zv,Za HZL]) (fun j u hj=>Zc (Za HB2) ((Za HL) j u hj)) (Xe l) (by unfold maxLen;omega) (by omega) (Za HB2).size ?_;intro v2 w3 hown3 hgrow3 _)
 have HW3:Hid (w3.ownsRow w.heap.size 103 6 v2 (lenk+len) (Zj (k++l))):=by
  have q:=hown3
  rw[Zho,Nat.zero_add] at q
  exact q
 have HB3:=Zb ((Za HB2).grown hgrow3 (Za HB2).size (Yx (Za HW2)))
 clear hown3 hgrow3 c02 c12
 go_wp2
 rw[rounds_succ]
 go_wp2
 go_ret
 exact⟨v2,rfl,Za HW3,Za HB3⟩
theorem Yh(n:Int)(b:Bool)(w:World)(hb:b=fit n) :
  Calls Tryz.prog 178 #[.int .i64 n] w fun e w'=>e = .returned (.bool b)∧w=w':=by
 subst hb
 by_cases h1 : -1000000≤n
 ·by_cases h2:n≤1000000
  ·have e:fit n=true:=(Z0 n).2 ⟨h1,h2⟩
   rw[e]
   clear e
   go_enter Tryz.func178,Tryz.ntmps178
   go_wp2
   go_ret
   exact⟨rfl,rfl⟩
  ·have e:fit n=false:=(Hp n).2 (by omega)
   have h3:decide (n≤1000000)=false:=by simp;omega
   rw[e]
   clear e
   go_enter Tryz.func178,Tryz.ntmps178
   go_wp2
   go_ret
   exact⟨rfl,rfl⟩
 ·have e:fit n=false:=(Hp n).2 (by omega)
  have h3:n < -1000000:=by omega
  rw[e]
  clear e h1
  go_enter Tryz.func178,Tryz.ntmps178
  go_wp2
  go_ret
  exact⟨rfl,rfl⟩
theorem Pq(b:Bool)(w:World) :
  Calls Tryz.prog 177 #[.bool b] w fun e w'=>e = .returned (.slice (some ⟨w.heap.size,0,none⟩) 1 1)∧w'=w.alloc (.cells #[.int .i64 (b01 b)] 3):=by
 cases b
 all_goals
  go_enter Tryz.func177,Tryz.ntmps177
  go_wp2
  go_ret
  exact⟨rfl,rfl⟩
end Go.Proofs.YtpikejjiignchaaGreatDoor
