import Derived.Test.YtpikejjiignchaaGreatDoorG44
import Derived.Test.YtpikejjiignchaaGreatDoorG47
set_option maxHeartbeats 12800000
set_option maxRecDepth 10000
namespace Go.Proofs.YtpikejjiignchaaGreatDoor
open Go.RowKit
theorem Gi{h:Int}:∀ (l:List TxD) (s:List ByteArray×List Zg) (j:Nat),(Yb h ((Yb h l s).1.take j) s).1=(Yb h l s).1.take j∧(Yb h ((Yb h l s).1.take j) s).2.2=Xx s.2 ((swT h l s).take j)
 | [],s,j=>by simp[Yb,swT,Xx]
 | t :: l,s,0=>by simp[Yb,Xx]
 | t :: l,s,j+1=>by
  by_cases q:(doD h s t).1=0
  ·have e1:Yb h (t :: l) s=(t :: (Yb h l (doD h s t).2).1,(Yb h l (doD h s t).2).2):=by rw[Yb,if_pos q]
   have e2:swT h (t :: l) s=(t,(doD h s t).2.2) :: swT h l (doD h s t).2:=by rw[swT,if_pos q]
   obtain⟨i1,i2⟩:=Gi l (doD h s t).2 j
   rw[e1,e2,List.take_succ_cons,List.take_succ_cons,Ap,Yb,if_pos q]
   exact⟨by rw[i1],i2⟩
  ·have e1:Yb h (t :: l) s=Yb h l s:=by rw[Yb,if_neg q]
   have e2:swT h (t :: l) s=swT h l s:=by rw[swT,if_neg q]
   rw[e1,e2]
   exact Gi l s (j+1)
theorem Zbb{w:World}{a:Option Addr}{n:Nat}{L:List TxD}(h:TxsAt w a n L)(k:Nat)(hk:k≤n):TxsAt w a k (L.take k):=by
 have hl:=h.1
 refine⟨by rw[List.length_take];omega,fun h0=>?_⟩
 obtain⟨b,off,e,hlt,hc⟩:=h.2 (by omega)
 refine⟨b,off,e,hlt,fun i hi=>?_⟩
 have hi':i<L.length:=by rw[List.length_take] at hi;omega
 have:=hc i hi'
 rw[List.getElem_take]
 exact this
theorem Zey{h r:Int}(e:rwD h=(r,0)):0≤r∧r≤64:=by
 unfold rwD at e
 split at e
 ·injection e with e _
  have:=T6 ((h - 1).toNat / 8)
  omega
 ·injection e with _ e
  exact absurd e (by decide)
theorem Bm{w:World}{ops:Array Oper}{rest:List Oper}{o:Oper}{a:Act}{Q:Exit→Act→World→Prop}(hgd:o.guard=none)(s x:Operand)(ho:o.op = .call { callee:=.builtin .append,args:=#[s,x],argTypes:=#[48,48] })
  (base:Nat) (v:Value) (n:Nat) (Kl:List (List Value)) (hs:a.eval s=v) (hown:w.ownsRow base 52 3 v n Kl.flatten) (b2:Nat) (sa:Option Addr) (sn j sc:Nat) (K2:List (List Value)) (h2:w.ownsRow b2 52 3 (.slice sa sn sc) sn K2.flatten) (hw:∀ k∈K2,k.length=3) (h1:∀ u∈K2.flatten,u.oneCell'=true) (hj:j≤sn) (hx:a.eval x = .slice sa j sc) (hn:n+j≤16) (hb:base≤w.heap.size)
  (h:∀ v' w',w'.ownsRow base 52 3 v' (n+j) (Kl++K2.take j).flatten→w.grownBy w' v.ownBlock→wpList Tryz.prog ops Q rest (a.put o.dst v') w'):wpList Tryz.prog ops Q (o :: rest) a w:=by
 obtain⟨i1,ii,iz0,iz1,iz2⟩:=info_parts Tryz.infoTx9
 rcases h2.2 with ⟨e,rfl⟩|⟨g,cap,cur,e,hb2,hg,hnc,hcm,hcs,htake⟩
 ·injection e with e1 e2 e3
  subst e1 e3
  obtain rfl:j=0:=by omega
  refine wpList_append_own_none hgd s x 48 ho base 52 i1 3 Tryz.underlying48 ii v n Kl.flatten hs hown hx ?_
  exact h v w (by rw[List.take_zero,List.append_nil];exact hown) ⟨rfl,rfl,rfl,Nat.le_refl _,fun _ _ _=>rfl⟩
 ·injection e with e1 _ e3
  subst e1 e3
  have hkl:∀ (K:List (List Value)),(∀ k∈K,k.length=3)→K.flatten.length=K.length*3:=by
   intro K
   induction K with
   | nil=>intro _;rfl
   | cons k r ih=>intro hk;rw[List.flatten_cons,List.length_append,hk k (by simp),ih (fun q hq=>hk q (by simp[hq])),List.length_cons];omega
  have hK2:K2.length=sn:=by have:=h2.1;rw[hkl K2 hw] at this;omega
  have htl:(K2.take j).flatten.length=j*3:=by rw[hkl _ (fun k hk=>hw k (List.mem_of_mem_take hk)),List.length_take];omega
  have hpre:(K2.take j).flatten=K2.flatten.take (j*3):=by
   have e:K2.flatten=(K2.take j).flatten++(K2.drop j).flatten:=by rw[←List.flatten_append,List.take_append_drop]
   rw[e,←htl,List.take_left]
  have hcell:=h2.cells (g:=g) rfl
  refine wpList_append_own w hgd s x 48 ho base 52 i1 _ 3 56 Tryz.underlying48 ii iz0 iz1 iz2 rfl (by decide) v n Kl.flatten hs hown ⟨g,0,none⟩ j sc (K2.take j).flatten hx htl (fun q u hq=>hcell q u (by rw[hpre,List.getElem?_take] at hq;split at hq;exact hq;cases hq)) (fun u hu=>h1 u (by rw[hpre] at hu;exact List.mem_of_mem_take hu)) (by unfold maxLen;omega) (by omega) hb ?_
  intro v' w' h4 h5 _
  exact h v' w' (by rw[List.flatten_append];exact h4) h5
theorem Zdb{w3 V w7:World}{h n:Int}{ta:Option Addr}{tn tc:Nat}{lk:List (Int×Int)}{v7:Value}{K7:List (List Value)}{Tl:List TxD}{j:Nat}{w0:World}(h03:Below w0.heap.size w0 w3)(hbV:Below w3.heap.size w3 V)(hV0:V.heap[w3.heap.size]? = some (.cells [.int .i64 n,.slice ta tn tc].toArray 101 (0,0)))(hO:∀ W,Below w0.heap.size w0 W→OpsAt W ta tn lk)(sO:SlOk ta tn tc)
  (hown:w7.ownsRow w3.heap.size 52 3 v7 (1+j) (([[.int .i64 h,.slice none 0 0,.slice (some ⟨w3.heap.size,0,none⟩) 1 1]]:List (List Value))++K7).flatten) (hall:∀ W,Below w0.heap.size w0 W→Tr.AllC Tr.txR W K7 Tl) (hgr:V.grownBy w7 (some (w3.heap.size+1))) (hl:Tl.length=j) :
  ∃ pa pc,v7 = .slice pa (1+j) pc∧SlOk pa (1+j) pc∧Below w3.heap.size w3 w7∧Fresh w3.heap.size w7 (fun W=>Below w0.heap.size w0 W→TxsAt W pa (1+j) (Uj h n lk :: Tl)):=by
 have hb7:Below w3.heap.size w3 w7:=hbV.grown hgr hbV.size (fun q e=>by injection e with e;omega)
 have hO7:w7.heap[w3.heap.size]? = some (.cells [.int .i64 n,.slice ta tn tc].toArray 101 (0,0)):=(hgr.block _ (lt_of_block hV0) (fun e=>by injection e with e;omega)).trans hV0
 have hA:∀ W,Gr w7 W (fun q=>q<w3.heap.size)→Below w0.heap.size w0 W→Tr.AllC Tr.txR W (([[.int .i64 h,.slice none 0 0,.slice (some ⟨w3.heap.size,0,none⟩) 1 1]]:List (List Value))++K7) (Uj h n lk :: Tl):=by
  intro W g hW
  have hOW:=g.heap hO7 (fun e=>by have e:w3.heap.size<w3.heap.size:=e;omega)
  have hP7:Tr.txR.C W [.int .i64 h,.slice none 0 0,.slice (some ⟨w3.heap.size,0,none⟩) 1 1] (Uj h n lk):=by
   refine⟨none,0,0,some ⟨w3.heap.size,0,none⟩,1,1,rfl,RowsAt.nil _ _,Xm,⟨rfl,fun _=>⟨w3.heap.size,0,rfl,lt_of_block hOW,fun i hi=>?_⟩⟩,⟨Nat.le_refl _,by unfold maxLen;omega,fun e=>by cases e⟩⟩
   obtain rfl:i=0:=by simp[Uj] at hi;exact hi
   exact⟨Zd hOW 0 _ rfl,ta,tn,tc,Zd hOW 1 _ rfl,hO W hW,sO⟩
  have hK:=hall W hW
  refine⟨by simp[hK.1],fun i h1 h2=>?_⟩
  match i,h1,h2 with
  | 0,_,_=>exact hP7
  | i+1,h1,h2=>exact hK.2 i (by simpa using h1) (by simpa using h2)
 have h07:Below w0.heap.size w0 w7:=Ze h03 hb7
 obtain⟨pa,pc,e,hp,sp⟩:=Tr.rows_of_own Tr.txR hown (hA w7 (Gr.refl _ _) h07) (by rw[List.length_cons,hl];omega)
 subst e
 refine⟨pa,pc,rfl,sp,hb7,fun W g hW=>?_⟩
 have hownW:=g.own hown (fun k hk e=>by have:=(hown.lt k hk).1;have e:k<w3.heap.size:=e;omega)
 obtain⟨pa2,pc2,e2,hp2,_⟩:=Tr.rows_of_own Tr.txR hownW (hA W g hW) (by rw[List.length_cons,hl];omega)
 injection e2 with q1 q2 q3
 subst q1 q3
 exact hp2
def Co(w w':World)(x:Int)(b:Z4)(e:Ending):Prop:=
 ∃ a n c,e = .returned (.tuple #[.agg #[.int .i64 b.1,.int .i64 b.2.1,.int .i64 b.2.2.1,.int .i64 b.2.2.2.1,.slice a n c],.int .i64 x])∧TxsAt w' a n b.2.2.2.2∧SlOk a n c∧Below w.heap.size w w'
theorem Zcd(ka:Option Addr)(kn kc:Nat)(K:List ByteArray)(la:Option Addr)(ln lc:Nat)(C0:List Zg)(a:Option Addr)(m c:Nat)(T:List TxD)(pr ht wk nc:Int)(ta:Option Addr)(tn tc:Nat)(lk:List (Int×Int))(h x:Int)(bb:Z4)(w:World)(hE:EnvF w)(hK:Bk.TextsAt w ka kn K)(sK:Bk.SlOk ka kn kc)(hC:CoinsAt w la ln C0)(sC:SlOk la ln lc)(hT:TxsAt w a m T)(hO:OpsAt w ta tn lk)(sO:SlOk ta tn tc)(hh:ht+1=h)(h0:swE K C0 T h=0)(hx:mkE K C0 T pr h wk nc lk=(x,bb)) :
  Calls Tryz.prog 31 #[.slice ka kn kc,.slice la ln lc,.slice a m c,.int .i64 pr,.int .i64 ht,.int .i64 wk,.int .i64 nc,.slice ta tn tc] w fun e w'=>Co w w' x bb e:=by
 obtain⟨oz,hl8⟩:=Rw h0
 obtain⟨hR,hRC,h1,h2⟩:=Qe oz
 have hm:m≤8:=by rw[←hT.1];exact hl8
 obtain⟨⟨S,K2,C2⟩,hs⟩:∃ r,Yb h T (K,C0)=r:=⟨_,rfl⟩
 have sf:=Gi (h:=h) T (K,C0) 3
 rw[hs] at sf
 obtain⟨⟨S3,K3,C3⟩,hs3⟩:∃ r,Yb h (S.take 3) (K,C0)=r:=⟨_,rfl⟩
 rw[hs3] at sf
 obtain⟨sf1,sf2⟩:=sf
 have sf1:S3=S.take 3:=sf1
 have sf2:C3=Xx C0 ((swT h T (K,C0)).take 3):=sf2
 obtain⟨hRC3,_,_⟩:=Ru (S.take 3) K C0 hR hRC (h:=h)
 rw[hs3] at hRC3
 have hRC3:Z5 C3:=hRC3
 have b0:=To hRC
 have b3:=To hRC3
 obtain⟨r,hr⟩:∃ r,rwD h=(r,0):=by
  unfold rwD
  rw[if_pos (by simp[h1,h2])]
  exact⟨_,rfl⟩
 have hrb:=Zey hr
 obtain⟨f,hf⟩:∃ f,Zp C0 - Zp C3=f:=⟨_,rfl⟩
 have hfee:Av h T K C0=f:=by unfold Av;rw[←sf2];exact hf
 have HX:Hid ((x,bb)=if r+f=0 then ((9:Int),Xv) else if V5 (pr,h,wk,nc,Uj h (r+f) lk :: S.take 3)≠0 then (V5 (pr,h,wk,nc,Uj h (r+f) lk :: S.take 3),Xv) else (0,(pr,h,wk,nc,Uj h (r+f) lk :: S.take 3))):=by
  show _=_
  rw[←hx]
  unfold mkE
  rw[if_neg (by rw[h0];decide),hfee,hr,hs]
 have hwr:IntKind.i64.wrap (ht+1)=h:=by rw[IntKind.wrap_i64];omega
 have hwn:IntKind.i64.wrap (r+f)=r+f:=by rw[IntKind.wrap_i64];omega
 obtain⟨X,hX⟩:∃ X,X=w.alloc (.cells #[.int .i64 0,.int .i64 0,.int .i64 0,.int .i64 0,.slice none 0 0] 68):=⟨_,rfl⟩
 have hbX:Below w.heap.size w X:=by rw[hX];exact Zf _ _
 have X0:Hid (X.heap[w.heap.size]? = some (.cells [.int .i64 0,.int .i64 0,.int .i64 0,.int .i64 0,.slice none 0 0].toArray 68 (0,0))):=by show _=_;rw[hX];exact Xq _ _ _ _ _ _ _
 have CW:=Zb (Gs w ka kn kc K la ln lc C0 a m c T h K2 S C2 X (hE.later hbX) (hK.later hbX) sK hR (hC.later hbX) sC hRC hbX hT hm hs)
 have CV:=Zb (fun V (hv:Below X.heap.size X V) (sa:Option Addr) (j sc:Nat) (hS:TxsAt V sa j (S.take 3)) (hj:j≤8)=>Ei ka kn kc K la ln lc C0 sa j sc (S.take 3) h K3 S3 C3 V (hE.later (Ze hbX hv)) (hK.later (Ze hbX hv)) sK hR (hC.later (Ze hbX hv)) sC hRC hS hj hs3)
 have CR:=Zb (fun V=>F8 h r V h1 h2 hr)
 have HD:Hid (∀ V,Below w.heap.size w V→OpsAt V ta tn lk):=fun V hv=>hO.later hv
 have HSO:=Zb sO
 have HBX:=Zb hbX
 have HF:=Zb hf
 have hSl:S.length≤8:=by
  have e2:=congrArg List.length (Rv h T (K,C0))
  have:=P5 h T (K,C0)
  rw[List.length_map,hs] at e2
  have e2:(swT h T (K,C0)).length=S.length:=e2
  omega
 have HSL:=Zb hSl
 clear hE hK sK hC sC hT hO sO h0 hx oz hl8 hR hRC h1 h2 hm hs hs3 sf1 sf2 hRC3 b0 b3 hr hrb hf hfee hbX hSl hh
 go_enter Tryz.func31,Tryz.ntmps31
 go_wp2_with fail
 rw[←hX]
 clear hX
 (try go_wp2_with fail)
 refine (Za CW).mono ?_
 rintro e w1 ⟨b1,b1n,b1c,sa,sn,sc,oa,on,oc,Ks,rfl,-,-,hS1,sS1,-,-,hb1,hown1,hall1⟩
 have HO1:=Zb hown1
 have HA1:=Zb hall1
 have hsn:S.length=sn:=hS1.1
 have HSN:=Zb hsn
 clear hown1 hall1
 obtain⟨j,hj⟩:∃ j:Nat,(if sn<3 then sn else 3)=j:=⟨_,rfl⟩
 have hjn:j≤sn:=by split at hj <;> omega
 have hj3:j≤3:=by split at hj <;> omega
 have hjI:min 3 (sn:Int)=(j:Int):=by split at hj <;> omega
 have hSt:S.take j=S.take 3:=by
  have:=hS1.1
  split at hj
  ·subst hj;rw[List.take_of_length_le (by omega),List.take_of_length_le (by omega)]
  ·subst hj;rfl
 have hTj:TxsAt w1 sa j (S.take 3):=by rw[←hSt];exact Zbb hS1 j hjn
 have hjc:(j:Int)≤(sc:Int):=by have:=sS1.1;omega
 have hj0:¬((j:Int)<0):=by omega
 have HTJ:=Zb hTj
 have hsj:SlOk sa j sc:=⟨Nat.le_trans hjn sS1.1,sS1.2.1,fun e=>by obtain⟨q1,q2⟩:=sS1.2.2 e;exact⟨by omega,q2⟩⟩
 have HSJ:=Zb hsj
 have C2:=Zb ((Za CV) w1 hb1 sa j sc hTj (by omega))
 have HB1:=Zb hb1
 have HST:=Zb hSt
 clear CW CV hS1 sS1 hb1 hSt hTj hsj hj hsn
 go_wp2_with fail
 refine (Za C2).mono ?_
 rintro e w2 ⟨b2,b2n,b2c,s2,s2n,s2c,o2,o2n,o2c,rfl,-,-,-,-,-,-,hb2⟩
 have HB2:=Zb (Ze (Za HB1) hb2)
 have HO2:=Zb ((Gr.of (S:=fun _=>False) hb2).own (Za HO1) (fun _ _ q=>q))
 have HT2:=Zb ((Za HTJ).later hb2)
 have X2:Hid (w2.heap[w.heap.size]? = some (.cells [.int .i64 0,.int .i64 0,.int .i64 0,.int .i64 0,.slice none 0 0].toArray 68 (0,0))):=((Za HB2).block _ (lt_of_block (Za X0))).trans (Za X0)
 have hfe:=Za HF
 have D3:=Zb ((Za CR) w2)
 clear C2 hb2 HB1 HTJ X0 CR hjI hjc hj0
 rw[hfe]
 go_wp2_with fail
 refine (Za D3).mono ?_
 rintro e w3 ⟨rfl,hb3⟩
 have HB3:=Zb (Ze (Za HB2) hb3)
 have HO3:=Zb ((Gr.of (S:=fun _=>False) hb3).own (Za HO2) (fun _ _ q=>q))
 have HT3:=Zb ((Za HT2).later hb3)
 have X3:Hid (w3.heap[w.heap.size]? = some (.cells [.int .i64 0,.int .i64 0,.int .i64 0,.int .i64 0,.slice none 0 0].toArray 68 (0,0))):=(hb3.block _ (lt_of_block (Za X2))).trans (Za X2)
 clear hb3 D3 X2 HT2 HB2 hfe
 by_cases hn0:r+f=0
 ·have hxb:=Za HX
  rw[if_pos hn0] at hxb
  simp only[Prod.mk.injEq] at hxb
  obtain⟨rfl,rfl⟩:=hxb
  have hn1:(r+f == 0)=true:=by simp[hn0]
  have z0:=Zd (Za X3) 0 _ rfl
  have z1:=Zd (Za X3) 1 _ rfl
  have z2:=Zd (Za X3) 2 _ rfl
  have z3:=Zd (Za X3) 3 _ rfl
  have z4:=Zd (Za X3) 4 _ rfl
  have y0:=Zh (Za X3) 0
  have y1:=Zh (Za X3) 1
  have y2:=Zh (Za X3) 2
  have y3:=Zh (Za X3) 3
  have y4:=Zh (Za X3) 4
  have zl:=lt_of_block (Za X3)
  have FIN:Hid (∀ W,Gr w3 W (fun q=>q=w.heap.size)→Co w W 9 Xv (.returned (.tuple #[.agg #[.int .i64 0,.int .i64 0,.int .i64 0,.int .i64 0,.slice none 0 0],.int .i64 9]))):=fun W g=>⟨none,0,0,rfl,RowsAt.nil _ _,Xm,g.below (Ze (Za HBX) (Za HB3)) (Ze (Za HBX) (Za HB3)).size (fun q e=>Nat.le_of_eq e.symm)⟩
  clear HX
  go_wp2
  (try simp only[Exit.inBlock,Exit.then])
  refine bodyPost_ret (v:=.tuple #[.agg #[.int .i64 0,.int .i64 0,.int .i64 0,.int .i64 0,.slice none 0 0],.int .i64 9]) ?_ rfl ?_
  ·rw[results_cell_tmp rfl]
   go_simp
  ·exact (Za FIN) _ ((Gr.refl w3 (fun q=>q=w.heap.size)).five w.heap.size (.inl rfl) _ _ _ _ _)
 ·have hn1:(r+f == 0)=false:=by simp[hn0]
  obtain⟨V,hV⟩:∃ V,V=((w3.alloc (.cells #[.int .i64 (r+f),.slice ta tn tc] 101)).alloc (.cells #[.int .i64 h,.slice none 0 0,.slice (some ⟨w3.heap.size,0,none⟩) 1 1] 52)):=⟨_,rfl⟩
  have hbV:Below w3.heap.size w3 V:=by rw[hV];exact Ze (Zf _ _) (Zf _ _)
  have hV0:V.heap[w3.heap.size]? = some (.cells [.int .i64 (r+f),.slice ta tn tc].toArray 101 (0,0)):=by rw[hV];exact ((Zf (w3.alloc (.cells #[.int .i64 (r+f),.slice ta tn tc] 101)) _).block _ (by simp)).trans (heap_alloc_new w3 _)
  have hV1:V.heap[w3.heap.size+1]? = some (.cells [.int .i64 h,.slice none 0 0,.slice (some ⟨w3.heap.size,0,none⟩) 1 1].toArray 52 (0,0)):=by
   rw[hV]
   have q:=heap_alloc_new (w3.alloc (.cells #[.int .i64 (r+f),.slice ta tn tc] 101)) (.cells #[.int .i64 h,.slice none 0 0,.slice (some ⟨w3.heap.size,0,none⟩) 1 1] 52)
   rw[show (w3.alloc (.cells #[.int .i64 (r+f),.slice ta tn tc] 101)).heap.size=w3.heap.size+1 by simp] at q
   exact q
  have OWN:Hid (((w3.alloc (.cells #[.int .i64 (r+f),.slice ta tn tc] 101)).alloc (.cells #[.int .i64 h,.slice none 0 0,.slice (some ⟨w3.heap.size,0,none⟩) 1 1] 52)).ownsRow w3.heap.size 52 3 (.slice (some ⟨w3.heap.size+1,0,none⟩) 1 1) 1 ([[.int .i64 h,.slice none 0 0,.slice (some ⟨w3.heap.size,0,none⟩) 1 1]]:List (List Value)).flatten):=by
   show World.ownsRow _ _ _ _ _ _ _
   rw[←hV]
   exact⟨rfl,.inr ⟨w3.heap.size+1,1,_,rfl,Nat.le_succ _,hV1,Nat.le_refl _,by unfold maxLen;omega,rfl,rfl⟩⟩
  have HBV:Hid (Below w3.heap.size w3 ((w3.alloc (.cells #[.int .i64 (r+f),.slice ta tn tc] 101)).alloc (.cells #[.int .i64 h,.slice none 0 0,.slice (some ⟨w3.heap.size,0,none⟩) 1 1] 52))):=by show Below _ _ _;rw[←hV];exact hbV
  have HV0:Hid (((w3.alloc (.cells #[.int .i64 (r+f),.slice ta tn tc] 101)).alloc (.cells #[.int .i64 h,.slice none 0 0,.slice (some ⟨w3.heap.size,0,none⟩) 1 1] 52)).heap[w3.heap.size]? = some (.cells [.int .i64 (r+f),.slice ta tn tc].toArray 101 (0,0))):=by show _=_;rw[←hV];exact hV0
  obtain⟨z,hz⟩:∃ z,V5 (pr,h,wk,nc,Uj h (r+f) lk :: S.take 3)=z:=⟨_,rfl⟩
  have HZ:=Zb hz
  have HX2:=Za HX
  rw[if_neg hn0,hz] at HX2
  have HX2:=Zb HX2
  clear hV hbV hV0 hV1 hz HX V
  have hjl:(S.take 3).length=j:=(Za HT3).1
  have HOV:Hid (((w3.alloc (.cells #[.int .i64 (r+f),.slice ta tn tc] 101)).alloc (.cells #[.int .i64 h,.slice none 0 0,.slice (some ⟨w3.heap.size,0,none⟩) 1 1] 52)).ownsRow X.heap.size 52 3 (.slice sa sn sc) sn Ks.flatten):=(Gr.of (S:=fun _=>False) (Za HBV)).own (Za HO3) (fun _ _ q=>q)
  have HAK:Hid (∀ W,Below w.heap.size w W→Tr.AllC Tr.txR W (Ks.take j) (S.take 3)):=fun W hW=>by
   have q:=(Za HA1) W hW
   rw[←Za HST]
   refine⟨by rw[List.length_take,List.length_take,q.1],fun i h1 h2=>?_⟩
   rw[List.getElem_take,List.getElem_take]
   exact q.2 i _ _
  have hw3:Below w.heap.size w w3:=Ze (Za HBX) (Za HB3)
  have hAw:=(Za HA1) w3 hw3
  have MR:=Zb (fun v7 w7 hown hgr=>Zdb (h:=h) (n:=r+f) (lk:=lk) (v7:=v7) (K7:=Ks.take j) (w7:=w7) (Tl:=S.take 3) (j:=j) (w0:=w) hw3 (Za HBV) (Za HV0) (Za HD) (Za HSO) hown (Za HAK) hgr hjl)
  have HW:=Zb (Tr.AllC.wid hAw)
  have HO1c:=Zb (Tr.flat_one hAw)
  clear hjl hAw hw3
  go_wp2_with (at_builtin;refine Bm (by rfl) _ _ rfl w3.heap.size (.slice (some ⟨w3.heap.size+1,0,none⟩) 1 1) 1 [[.int .i64 h,.slice none 0 0,.slice (some ⟨w3.heap.size,0,none⟩) 1 1]] rfl (Za OWN) X.heap.size sa sn j sc Ks (Za HOV) (Za HW) (Za HO1c) hjn rfl (by omega) (Za HBV).size ?_;intro v7 w7 hown7 hgrow7;obtain⟨pa,pc,rfl,sp7,hb7,hf7⟩:=(Za MR) v7 w7 hown7 hgrow7;clear hown7 hgrow7)
  obtain⟨Y,hY⟩:∃ Y,Y=w7.alloc (.cells #[.int .i64 pr,.int .i64 h,.int .i64 wk,.int .i64 nc,.slice pa (1+j) pc] 68):=⟨_,rfl⟩
  have hbY:Below w7.heap.size w7 Y:=by rw[hY];exact Zf _ _
  have Y0:Hid (Y.heap[w7.heap.size]? = some (.cells [.int .i64 pr,.int .i64 h,.int .i64 wk,.int .i64 nc,.slice pa (1+j) pc].toArray 68 (0,0))):=by show _=_;rw[hY];exact Xq _ _ _ _ _ _ _
  have hb3Y:=Ze hb7 hbY
  have XY:Hid (Y.heap[w.heap.size]? = some (.cells [.int .i64 0,.int .i64 0,.int .i64 0,.int .i64 0,.slice none 0 0].toArray 68 (0,0))):=(hb3Y.block _ (lt_of_block (Za X3))).trans (Za X3)
  have HBY:=Zb (Ze (Za HBX) (Ze (Za HB3) hb3Y))
  have hp7:=hf7 w7 (Gr.refl _ _) (Ze (Za HBX) (Ze (Za HB3) hb7))
  have CK:=Zb (Kf pr h wk nc pa (1+j) pc (Uj h (r+f) lk :: S.take 3) z Y (hp7.later hbY) (Za HZ))
  have HP:=Zb (And.intro hf7 sp7)
  have HB7Y:=Zb hbY
  have HLT:Hid (w.heap.size<w3.heap.size):=lt_of_block (Za X3)
  clear MR OWN HOV HAK HW HO1c HO3 HO2 HO1 HA1 HBV HV0 HT3 HSJ hf7 hp7 sp7 hb7 hbY hb3Y X3 HB3 HZ
  go_upto_region 8 with fail
  rw[←hY]
  clear hY
  refine (Za CK).mono ?_
  rintro e w8 ⟨rfl,hb8⟩
  have X8:Hid (w8.heap[w.heap.size]? = some (.cells [.int .i64 0,.int .i64 0,.int .i64 0,.int .i64 0,.slice none 0 0].toArray 68 (0,0))):=(hb8.block _ (lt_of_block (Za XY))).trans (Za XY)
  have Y8:Hid (w8.heap[w7.heap.size]? = some (.cells [.int .i64 pr,.int .i64 h,.int .i64 wk,.int .i64 nc,.slice pa (1+j) pc].toArray 68 (0,0))):=(hb8.block _ (lt_of_block (Za Y0))).trans (Za Y0)
  have HB8:=Zb (Ze (Za HBY) hb8)
  have HG8:Hid (∀ W,Gr w8 W (fun q=>q=w.heap.size)→Below w.heap.size w W→TxsAt W pa (1+j) (Uj h (r+f) lk :: S.take 3)):=fun W g hW=>(Za HP).1 W (((Gr.of (Ze (Za HB7Y) hb8)).trans g).mono (fun q _ e=>by have:=Za HLT;have e:q=w.heap.size:=e;omega)) hW
  have HSP:=Zb (Za HP).2
  clear CK hb8 XY Y0 HBY HP HB7Y
  by_cases hz0:z=0
  ·subst hz0
   have hxb:=Za HX2
   rw[if_neg (fun q=>q rfl)] at hxb
   simp only[Prod.mk.injEq] at hxb
   obtain⟨rfl,rfl⟩:=hxb
   have FIN:Hid (∀ W,Gr w8 W (fun q=>q=w.heap.size)→Co w W 0 (pr,h,wk,nc,Uj h (r+f) lk :: S.take 3) (.returned (.tuple #[.agg #[.int .i64 pr,.int .i64 h,.int .i64 wk,.int .i64 nc,.slice pa (1+j) pc],.int .i64 0]))):=fun W g=>⟨pa,1+j,pc,rfl,(Za HG8) W g (g.below (Za HB8) (Za HB8).size (fun q e=>Nat.le_of_eq e.symm)),Za HSP,g.below (Za HB8) (Za HB8).size (fun q e=>Nat.le_of_eq e.symm)⟩
   have z0:=Zd (Za X8) 0 _ rfl
   have z1:=Zd (Za X8) 1 _ rfl
   have z2:=Zd (Za X8) 2 _ rfl
   have z3:=Zd (Za X8) 3 _ rfl
   have z4:=Zd (Za X8) 4 _ rfl
   have y0:=Zh (Za X8) 0
   have y1:=Zh (Za X8) 1
   have y2:=Zh (Za X8) 2
   have y3:=Zh (Za X8) 3
   have y4:=Zh (Za X8) 4
   have zl:=lt_of_block (Za X8)
   have m0:=Zd (Za Y8) 0 _ rfl
   have m1:=Zd (Za Y8) 1 _ rfl
   have m2:=Zd (Za Y8) 2 _ rfl
   have m3:=Zd (Za Y8) 3 _ rfl
   have m4:=Zd (Za Y8) 4 _ rfl
   have ml:=lt_of_block (Za Y8)
   clear HX2
   go_wp2
   (try simp only[Exit.inBlock,Exit.then])
   refine bodyPost_ret (v:=.tuple #[.agg #[.int .i64 pr,.int .i64 h,.int .i64 wk,.int .i64 nc,.slice pa (1+j) pc],.int .i64 0]) ?_ rfl ?_
   ·rw[results_cell_tmp rfl]
    go_simp
   ·exact (Za FIN) _ ((Gr.refl w8 (fun q=>q=w.heap.size)).five w.heap.size (.inl rfl) _ _ _ _ _)
  ·have hzb:(z != 0)=true:=by simp[hz0]
   have hxb:=Za HX2
   rw[if_pos hz0] at hxb
   simp only[Prod.mk.injEq] at hxb
   obtain⟨rfl,rfl⟩:=hxb
   have FIN:Hid (∀ W,Gr w8 W (fun q=>q=w.heap.size)→Co w W x Xv (.returned (.tuple #[.agg #[.int .i64 0,.int .i64 0,.int .i64 0,.int .i64 0,.slice none 0 0],.int .i64 x]))):=fun W g=>⟨none,0,0,rfl,RowsAt.nil _ _,Xm,g.below (Za HB8) (Za HB8).size (fun q e=>Nat.le_of_eq e.symm)⟩
   have z0:=Zd (Za X8) 0 _ rfl
   have z1:=Zd (Za X8) 1 _ rfl
   have z2:=Zd (Za X8) 2 _ rfl
   have z3:=Zd (Za X8) 3 _ rfl
   have z4:=Zd (Za X8) 4 _ rfl
   have y0:=Zh (Za X8) 0
   have y1:=Zh (Za X8) 1
   have y2:=Zh (Za X8) 2
   have y3:=Zh (Za X8) 3
   have y4:=Zh (Za X8) 4
   have zl:=lt_of_block (Za X8)
   clear HX2
   go_wp2
   (try simp only[Exit.inBlock,Exit.then])
   refine bodyPost_ret (v:=.tuple #[.agg #[.int .i64 0,.int .i64 0,.int .i64 0,.int .i64 0,.slice none 0 0],.int .i64 x]) ?_ rfl ?_
   ·rw[results_cell_tmp rfl]
    go_simp
   ·exact (Za FIN) _ ((Gr.refl w8 (fun q=>q=w.heap.size)).five w.heap.size (.inl rfl) _ _ _ _ _)
theorem F7(h h':Int)(ai ao bi bo:Option Addr)(ni ci no co mi di mo eo:Nat)(I I':List InD)(O O':List Zw)(o:Bool)(w:World)(li:ni≤maxLen)(lo:no≤maxLen)
  (hI:InsAt w ai ni I) (hO:OutsAt w ao no O) (hI':InsAt w bi mi I') (hO':OutsAt w bo mo O') (ho:Vm (h,I,O) (h',I',O')=o) :
  Calls Tryz.prog 26 #[.agg #[.int .i64 h,.slice ai ni ci,.slice ao no co],.agg #[.int .i64 h',.slice bi mi di,.slice bo mo eo]] w fun e w'=>e = .returned (.bool o)∧Below w.heap.size w w':=by
 have hb1:=Zf w (.cells #[.int .i64 h,.slice ai ni ci,.slice ao no co] 52)
 have hb2:=Zf (w.alloc (.cells #[.int .i64 h,.slice ai ni ci,.slice ao no co] 52)) (.cells #[.int .i64 h',.slice bi mi di,.slice bo mo eo] 52)
 have hb:=Ze hb1 hb2
 have HB:=Zb hb
 by_cases h1:h=h'
 ·subst h1
  have ho2:(decide (I=I') && decide (O=O'))=o:=by rw[←ho];unfold Vm;simp
  by_cases h2:ni=mi
  ·subst h2
   by_cases h0:ni=0
   ·subst h0
    have e1:I=[]:=List.length_eq_zero_iff.1 hI.1
    have e2:I'=[]:=List.length_eq_zero_iff.1 hI'.1
    have hoo:decide (O=O')=o:=by rw[←ho2,e1,e2];simp
    have EO:=Zb (Gt ao bo no mo co eo O O' o _ lo (hO.later hb) (hO'.later hb) hoo)
    clear ho ho2 hI hI' hO hO' hb hb1 hb2 e1 e2 hoo
    go_enter Tryz.func26,Tryz.ntmps26
    go_wp2
    refine wp_loop_rounds 1 ?_
    rw[rounds_succ]
    go_wp2_with fail
    refine (Za EO).mono ?_
    rintro e w9 ⟨rfl,hb9⟩
    have HB9:=Zb (Ze (Za HB) hb9)
    clear hb9
    go_wp2
    go_ret
    exact⟨rfl,Za HB9⟩
   ·obtain⟨b1,o1,rfl,l1,c1⟩:=hI.2 (by omega)
    obtain⟨b2,o2,rfl,l2,c2⟩:=hI'.2 (by omega)
    exact F6 h b1 o1 b2 o2 ni ci di ao bo no co mo eo I I' O O' o w li lo hI.1 hI'.1 l1 l2 c1 c2 hO hO' ho2
  ·have e:o=false:=by
    rw[←ho2,decide_eq_false (fun e=>h2 (by rw[←hI.1,←hI'.1,e]))];rfl
   subst e
   have g:((ni:Int) != (mi:Int))=true:=by simp;omega
   clear ho ho2 hI hI' hO hO' hb hb1 hb2 h2
   go_enter Tryz.func26,Tryz.ntmps26
   go_wp2
   go_ret
   exact⟨rfl,Za HB⟩
 ·have e:o=false:=by rw[←ho];unfold Vm;simp[h1]
  subst e
  have g:(h != h')=true:=by simp[h1]
  clear ho hI hI' hO hO' hb hb1 hb2
  go_enter Tryz.func26,Tryz.ntmps26
  go_wp2
  go_ret
  exact⟨rfl,Za HB⟩
instance decTx:DecidableEq TxD:=fun a b=>decidable_of_iff (Vm a b=true) (T5 a b)
theorem Ef(t u:TxD):Vm t u=decide (t=u):=by
 by_cases h:t=u
 ·rw[decide_eq_true h];exact (T5 t u).2 h
 ·rw[decide_eq_false h]
  cases q:Vm t u with
  | false=>rfl
  | true=>exact absurd ((T5 t u).1 q) h
theorem Nv(b1 o1 b2 o2 n c d:Nat)(l k:List TxD)(o:Bool)(w:World)(hn:n≤maxLen)(z1:l.length=n)(z2:k.length=n)
  (h1:∀ i (h:i<l.length),TxAt w b1 (o1+i*3) l[i]) (h2:∀ i (h:i<k.length),TxAt w b2 (o2+i*3) k[i]) (ho:decide (l=k)=o) :
  Calls Tryz.prog 25 #[.slice (some ⟨b1,o1,none⟩) n c,.slice (some ⟨b2,o2,none⟩) n d,.func (.func 26) #[] #[]] w fun e w'=>e = .returned (.bool o)∧Below w.heap.size w w':=by
 subst ho
 unfold maxLen at hn
 have H1:=Zb h1
 have H2:=Zb h2
 have Z1:=Zb z1
 have Z2:=Zb z2
 clear h1 h2 z1 z2
 go_enter Tryz.func25,Tryz.ntmps25
 go_wp2
 go_loopw [17] (fun i wr=>∃ j:Nat,j≤n∧i = .int .i64 j∧Below w.heap.size w wr∧Hid (l.take j=k.take j)) (fun i _=>n - (intOf i).toNat)
 case atStart=>exact⟨0,Nat.zero_le _,rfl,Below.refl _ _,rfl⟩
 case round=>
  obtain⟨j,hk,rfl,hb,A⟩:=hrel
  have HB:=Zb hb
  by_cases hlt:j<n
  ·have hl1:j<l.length:=by rw[Za Z1];exact hlt
   have hl2:j<k.length:=by rw[Za Z2];exact hlt
   have g:=TxAt.kept _ _ _ _ _ hb ((Za H1) j hl1)
   have f:=TxAt.kept _ _ _ _ _ hb ((Za H2) j hl2)
   have TS:=Zb (V7 hl1 hl2 (Za A))
   have TU:=Zb (Wn hl1 hl2)
   obtain⟨q,hq⟩:∃ q,l[j]=q:=⟨_,rfl⟩
   obtain⟨r,hr⟩:∃ r,k[j]=r:=⟨_,rfl⟩
   rw[hq] at g
   rw[hr] at f
   rw[hq,hr] at TS TU
   obtain⟨q1,qI,qO⟩:=q
   obtain⟨r1,rI,rO⟩:=r
   obtain⟨g1,⟨qa,qn,qc,g2,gh4,gh5⟩,qb,qm,qd,g3,gh6,gh7⟩:=g
   obtain⟨f1,⟨ra,rn,rc,f2,fh4,fh5⟩,rb,rm,rd,f3,fh6,fh7⟩:=f
   simp only at g1 g2 g3 gh4 gh6 gh5 gh7 f1 f2 f3 fh4 fh6 fh5 fh7
   have lt2:b2<wr.heap.size:=World.block_lt_of_cell? _ _ f1
   have hb2:=Ze (Zf wr (.cells #[.int .i64 q1,.slice qa qn qc,.slice qb qm qd] 52)) (Zf _ (.cells #[.int .i64 r1,.slice ra rn rc,.slice rb rm rd] 52))
   have HB2:=Zb hb2
   have C:Hid (∀ o,decide (((q1,qI,qO):TxD)=(r1,rI,rO))=o→Calls Tryz.prog 26 #[.agg #[.int .i64 q1,.slice qa qn qc,.slice qb qm qd],.agg #[.int .i64 r1,.slice ra rn rc,.slice rb rm rd]] ((wr.alloc (.cells #[.int .i64 q1,.slice qa qn qc,.slice qb qm qd] 52)).alloc (.cells #[.int .i64 r1,.slice ra rn rc,.slice rb rm rd] 52)) fun e w'=>e = .returned (.bool o)∧Below _ _ w'):=
    fun o ho=>F7 q1 r1 qa qb ra rb qn qc qm qd rn rc rm rd qI rI qO rO o _ gh5.len gh7.len (gh4.later hb2) (gh6.later hb2) (fh4.later hb2) (fh6.later hb2) ((Ef _ _).trans ho)
   clear hq hr A hb hb2 gh4 gh6 gh5 gh7 fh4 fh6 fh5 fh7
   by_cases he:((q1,qI,qO):TxD)=(r1,rI,rO)
   ·have T:=Zb ((Za TS) he)
    have C2:=Zb ((Za C) true (decide_eq_true he))
    clear TS TU C he
    go_wp2_with fail
    refine (Za C2).mono ?_
    rintro e w3 ⟨rfl,hb3⟩
    have HB3:=Zb (Ze (Ze (Za HB) (Za HB2)) hb3)
    clear hb3
    go_wp2
    go_roundw
    case rel=>exact⟨j+1,by omega,by go_num,Za HB3,T⟩
    case measure=>simp[intOf];omega
   ·have U:Hid (decide (l=k)=false):=decide_eq_false ((Za TU) he)
    have C2:=Zb ((Za C) false (decide_eq_false he))
    clear TS TU C he
    go_wp2_with fail
    refine (Za C2).mono ?_
    rintro e w3 ⟨rfl,hb3⟩
    have HB3:=Zb (Ze (Ze (Za HB) (Za HB2)) hb3)
    clear hb3
    go_wp2
    go_ret
    exact⟨by rw[Za U];rfl,Za HB3⟩
  ·have U:Hid (decide (l=k)=true):=by
    have h:=Za A
    rw[List.take_of_length_le (by rw[Za Z1];omega),List.take_of_length_le (by rw[Za Z2];omega)] at h
    exact decide_eq_true h
   clear A hb
   go_wp2
   go_ret
   exact⟨by rw[Za U];rfl,Za HB⟩
theorem Nx(a b:Option Addr)(n m c d:Nat)(v:Value)(w:World)(h:n≠m) :
  Calls Tryz.prog 25 #[.slice a n c,.slice b m d,v] w fun e w'=>e = .returned (.bool false)∧w=w':=by
 have g:((n:Int) != (m:Int))=true:=by simp;omega
 clear h
 go_enter Tryz.func25,Tryz.ntmps25
 go_wp2
 go_ret
 exact⟨rfl,rfl⟩
theorem Nw(a b:Option Addr)(c d:Nat)(v:Value)(w:World) :
  Calls Tryz.prog 25 #[.slice a 0 c,.slice b 0 d,v] w fun e w'=>e = .returned (.bool true)∧w=w':=by
 go_enter Tryz.func25,Tryz.ntmps25
 go_wp2
 refine wp_loop_rounds 1 ?_
 rw[rounds_succ]
 go_wp2
 go_ret
 exact⟨rfl,rfl⟩
theorem El(a b:Option Addr)(n m c d:Nat)(l k:List TxD)(o:Bool)(w:World)(hn:n≤maxLen)(hA:RowsAt TxAt 3 w a n l)(hB:RowsAt TxAt 3 w b m k)(ho:decide (l=k)=o) :
  Calls Tryz.prog 25 #[.slice a n c,.slice b m d,.func (.func 26) #[] #[]] w fun e w'=>e = .returned (.bool o)∧Below w.heap.size w w':=by
 by_cases h:n=m
 ·subst h
  by_cases h0:n=0
  ·subst h0
   have e1:l=[]:=List.length_eq_zero_iff.1 hA.1
   have e2:k=[]:=List.length_eq_zero_iff.1 hB.1
   subst e1 e2
   rw[decide_eq_true rfl] at ho
   subst ho
   exact (Nw a b c d _ w).mono fun e w' ⟨h1,h2⟩=>⟨h1,h2 ▸ Below.refl _ _⟩
  ·obtain⟨b1,o1,rfl,_,h1⟩:=hA.2 (by omega)
   obtain⟨b2,o2,rfl,_,h2⟩:=hB.2 (by omega)
   exact Nv b1 o1 b2 o2 n c d l k o w hn hA.1 hB.1 h1 h2 ho
 ·have e:l≠k:=fun e=>h (by rw[←hA.1,←hB.1,e])
  rw[decide_eq_false e] at ho
  subst ho
  exact (Nx a b n m c d _ w h).mono fun e w' ⟨h1,h2⟩=>⟨h1,h2 ▸ Below.refl _ _⟩
theorem Ss(p h k n p' h' k' n':Int)(a b:Option Addr)(m c m' c':Nat)(T U:List TxD)(o:Bool)(w:World)(hm:m≤maxLen)(hT:TxsAt w a m T)(hU:TxsAt w b m' U)(ho:decide (((p,h,k,n,T):Z4)=(p',h',k',n',U))=o) :
  Calls Tryz.prog 30 #[.agg #[.int .i64 p,.int .i64 h,.int .i64 k,.int .i64 n,.slice a m c],.agg #[.int .i64 p',.int .i64 h',.int .i64 k',.int .i64 n',.slice b m' c']] w fun e w'=>e = .returned (.bool o)∧Below w.heap.size w w':=by
 have hb1:=Zf w (.cells #[.int .i64 p,.int .i64 h,.int .i64 k,.int .i64 n,.slice a m c] 68)
 have hb2:=Zf (w.alloc (.cells #[.int .i64 p,.int .i64 h,.int .i64 k,.int .i64 n,.slice a m c] 68)) (.cells #[.int .i64 p',.int .i64 h',.int .i64 k',.int .i64 n',.slice b m' c'] 68)
 have hb:=Ze hb1 hb2
 have HB:=Zb hb
 by_cases e0:p=p'
 rotate_left
 ·have e:o=false:=by rw[←ho];exact decide_eq_false (fun e=>e0 (congrArg (fun z:Z4=>z.1) e))
  subst e
  have g0:(p == p')=false:=by simp[e0]
  clear hT hU ho hb hb1 hb2 e0
  go_enter Tryz.func30,Tryz.ntmps30
  go_wp2
  go_ret
  exact⟨rfl,Za HB⟩
 subst e0
 by_cases e1:h=h'
 rotate_left
 ·have e:o=false:=by rw[←ho];exact decide_eq_false (fun e=>e1 (congrArg (fun z:Z4=>z.2.1) e))
  subst e
  have g1:(h == h')=false:=by simp[e1]
  clear hT hU ho hb hb1 hb2 e1
  go_enter Tryz.func30,Tryz.ntmps30
  go_wp2
  go_ret
  exact⟨rfl,Za HB⟩
 subst e1
 by_cases e2:k=k'
 rotate_left
 ·have e:o=false:=by rw[←ho];exact decide_eq_false (fun e=>e2 (congrArg (fun z:Z4=>z.2.2.1) e))
  subst e
  have g2:(k == k')=false:=by simp[e2]
  clear hT hU ho hb hb1 hb2 e2
  go_enter Tryz.func30,Tryz.ntmps30
  go_wp2
  go_ret
  exact⟨rfl,Za HB⟩
 subst e2
 by_cases e3:n=n'
 rotate_left
 ·have e:o=false:=by rw[←ho];exact decide_eq_false (fun e=>e3 (congrArg (fun z:Z4=>z.2.2.2.1) e))
  subst e
  have g3:(n == n')=false:=by simp[e3]
  clear hT hU ho hb hb1 hb2 e3
  go_enter Tryz.func30,Tryz.ntmps30
  go_wp2
  go_ret
  exact⟨rfl,Za HB⟩
 subst e3
 have C:=Zb (El a b m m' c c' T U o _ hm (hT.later hb) (hU.later hb) (by rw[←ho];simp))
 clear hT hU ho hb hb1 hb2
 go_enter Tryz.func30,Tryz.ntmps30
 go_wp2_with fail
 refine (Za C).mono ?_
 rintro e w2 ⟨rfl,hb2⟩
 have HB2:=Zb (Ze (Za HB) hb2)
 clear hb2
 go_wp2
 go_ret
 exact⟨rfl,Za HB2⟩
theorem Wg(p h k n:Int)(a:Option Addr)(m c:Nat)(T:List TxD)(o:Bool)(w:World)(hm:m≤maxLen)(hT:TxsAt w a m T)(ho:decide (((p,h,k,n,T):Z4)=((0,0,0,0,[]):Z4))=o) :
  Calls Tryz.prog 30 #[.agg #[.int .i64 p,.int .i64 h,.int .i64 k,.int .i64 n,.slice a m c],.agg #[.int .i64 0,.int .i64 0,.int .i64 0,.int .i64 0,.slice none 0 0]] w fun e w'=>e = .returned (.bool o)∧Below w.heap.size w w':=
 Ss p h k n 0 0 0 0 a none m c 0 0 T [] o w hm hT (RowsAt.nil _ _) ho
end Go.Proofs.YtpikejjiignchaaGreatDoor
