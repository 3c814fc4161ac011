import Derived.Test.YtpikejjiignchaaGreatDoorG5
set_option maxHeartbeats 6400000
set_option maxRecDepth 10000
namespace Go.Proofs.YtpikejjiignchaaGreatDoor
open Go.RowKit
theorem Zju(X Y:List Value)(i n c:Nat)(hi:i<n)(h:n+1≤c)(hX:X.length=c*6)(hY:Y.length=6) :
  (laid (laid X ((i+1)*6) ((X.take (n*6)).drop (i*6))) (i*6) Y).take ((n+1)*6)=(X.take (n*6)).take (i*6)++(Y++(X.take (n*6)).drop (i*6)):=by
 have e1:((X.take (n*6)).drop (i*6)).length=n*6 - i*6:=by simp;omega
 obtain⟨Z,hZ⟩:∃ Z,Z=(X.take (n*6)).drop (i*6):=⟨_,rfl⟩
 rw[←hZ] at e1 ⊢
 have e2:(laid X ((i+1)*6) Z).take (i*6)=X.take (i*6):=by
  unfold laid
  rw[List.append_assoc,List.take_append_of_le_length (by simp;omega),List.take_take,Nat.min_eq_left (by omega)]
 have e3:(laid X ((i+1)*6) Z).drop (i*6+6)=Z++X.drop ((i+1)*6+Z.length):=by
  unfold laid
  rw[List.append_assoc,show i*6+6=(i+1)*6 by omega,List.drop_append_of_le_length (by simp;omega),List.drop_of_length_le (by rw[List.length_take];omega),List.nil_append]
 rw[show laid (laid X ((i+1)*6) Z) (i*6) Y=X.take (i*6)++Y++(Z++X.drop ((i+1)*6+Z.length)) by unfold laid at e2 e3 ⊢;rw[hY,e2,e3]]
 rw[←List.append_assoc,List.take_append_of_le_length (by simp[e1,hY];omega),List.take_of_length_le (by simp[e1,hY];omega),List.take_take,Nat.min_eq_left (by omega),List.append_assoc]
theorem N5(K:List CV)(y:CV)(i:Nat):Zj (K.take i++y :: K.drop i)=(Zj K).take (i*6)++(Zj [y]++(Zj K).drop (i*6)):=by
 rw[Vs,Vt,Zu,show y :: K.drop i=[y]++K.drop i from rfl,Zu]
theorem Pr(base g n c i vb:Nat)(K:List CV)(y:CV)(w:World)(hi:i<n)(hroom:n+1≤c)(hz:K.length=n)(h:w.ownsRow base 103 6 (.slice (some ⟨g,0,none⟩) n c) n (Zj K))(hv:w.heap[vb]? = some (.cells (Zj [y]).toArray 103 (0,0)))(hne:vb≠g) :
  Calls Tryz.prog 197 #[.slice (some ⟨g,0,none⟩) n c,.int .i64 i,.slice (some ⟨vb,0,none⟩) 1 1] w fun e w'=>e = .returned (.slice (some ⟨g,0,none⟩) (n+1) c)∧w'.ownsRow base 103 6 (.slice (some ⟨g,0,none⟩) (n+1) c) (n+1) (Zj (K.take i++y :: K.drop i))∧w.grownBy w' (some g):=by
 obtain⟨i0,hi0,hz0,hz1,hz2⟩:=info_parts Tryz.infoCoin
 obtain⟨hlen,h|⟨g',c',cur,hv',hbg,hh,h1,h2,h3,h4⟩⟩:=h
 ·cases h.1
 simp only[Value.slice.injEq,Option.some.injEq,Addr.mk.injEq,and_true,true_and] at hv'
 obtain⟨rfl,rfl⟩:=hv'
 unfold maxLen at h2
 have hcur:cur.toList.length=c*6:=by simpa using h3
 have hsz:(Tryz.prog.info? 103).map (·.size)=some 6:=by rw[hi0];simp[hz1]
 have hov:∀ lb cb,(callFunc 233 #[.slice (some ⟨vb,0,none⟩) 1 1,.slice (some ⟨g,(i+1)*6,none⟩) lb cb]).run Tryz.prog w = .ok (.value (.bool false)) w:=fun lb cb=>by
  rw[run_callFunc_extern Tryz.func233 (by kernel_rfl) (by kernel_rfl) (by kernel_rfl) (e:=Extern.SlicesOverlaps.overlaps #[29,29] #[4]) (by kernel_rfl),
   Lib.run_overlaps_apart w 29 4 103 Tryz.underlying29 6 Tryz.sizeOf103 ⟨vb,0,none⟩ ⟨g,(i+1)*6,none⟩ 1 1 lb cb hne 103 103 6 (c*6) (by simp[World.shape?,hv,Yb]) (by simp[World.shape?,hh,h3]) (by omega) (by simp[World.frozen?,hv]) (by simp[World.frozen?,hv])]
  rfl
 obtain⟨Z,hZ⟩:∃ Z,Z=(cur.toList.take (n*6)).drop (i*6):=⟨_,rfl⟩
 have hZl:Z.length=(n - i)*6:=by rw[hZ];simp;omega
 have hZ1:∀ u∈Z,u.oneCell'=true:=fun u hu=>by
  rw[hZ,h4] at hu
  exact Xe K u (List.mem_of_mem_drop hu)
 obtain⟨W1,hW1⟩:∃ W1,W1=w.drew.setRow g (laid cur.toList ((i+1)*6) Z).toArray:=⟨_,rfl⟩
 have hh1:W1.heap[g]? = some (.cells (laid cur.toList ((i+1)*6) Z).toArray 103 (0,0)):=by rw[hW1];exact setRow_heap w.drew g cur _ 103 (0,0) hh
 have hll:(laid cur.toList ((i+1)*6) Z).length=c*6:=by rw[Uv _ _ _ (by rw[hcur,hZl];omega),hcur]
 have hcp1:∀ ty dc sc,(Builtin.copy_ #[29,29] ty #[.slice (some ⟨g,(i+1)*6,none⟩) (n - i) dc,.slice (some ⟨g,i*6,none⟩) (n+1 - i) sc]).run Tryz.prog w.drew = .ok (goInt (n - i)) W1:=fun ty dc sc=>by
  have:=X3 (P:=Tryz.prog) w.drew 29 29 ty 103 g ((i+1)*6) (n - i) dc ⟨g,i*6,none⟩ (n+1 - i) sc 6 cur 103 Z Tryz.underlying29 hsz hh (by rw[hZl];simp only[Nat.min_def];split <;> omega)
   (fun j u hj=>by
    have ht:j<(n - i)*6:=by rw[←hZl];exact (List.getElem?_eq_some_iff.1 hj).1
    rw[hZ,List.getElem?_drop,List.getElem?_take_of_lt (by omega)] at hj
    rw[Addr.add_lit]
    show w.cell? _=_
    simp only[World.cell?,hh]
    rw[←hj]
    simp) (by rw[hZl,h3];omega) hZ1
  rw[this,hW1]
  congr 1
  simp only[Nat.min_def];split <;> (congr 1;omega)
 have hm:Nat.min 1 (n+1 - i)=1:=by simp only[Nat.min_def];split <;> omega
 have hcp2:∀ ty dc,(Builtin.copy_ #[29,29] ty #[.slice (some ⟨g,i*6,none⟩) (n+1 - i) dc,.slice (some ⟨vb,0,none⟩) 1 1]).run Tryz.prog W1 = .ok (goInt 1) (W1.setRow g (laid (laid cur.toList ((i+1)*6) Z) (i*6) (Zj [y])).toArray):=fun ty dc=>by
  have hv1:W1.heap[vb]? = some (.cells (Zj [y]).toArray 103 (0,0)):=by rw[hW1,setRow_other _ _ _ _ hne];exact hv
  have:=X3 (P:=Tryz.prog) W1 29 29 ty 103 g (i*6) (n+1 - i) dc ⟨vb,0,none⟩ 1 1 6 (laid cur.toList ((i+1)*6) Z).toArray 103 (Zj [y]) Tryz.underlying29 hsz hh1 (by rw[Yb,hm])
   (fun j u hj=>by rw[Addr.add_lit,Nat.zero_add];exact V7 hv1 j u hj) (by rw[Yb,List.size_toArray,hll];omega) (Xe [y])
  rw[this,hm]
  rfl
 have R:Hid ((W1.setRow g (laid (laid cur.toList ((i+1)*6) Z) (i*6) (Zj [y])).toArray).ownsRow base 103 6 (.slice (some ⟨g,0,none⟩) (n+1) c) (n+1) (Zj (K.take i++y :: K.drop i))):=by
  refine⟨by rw[Zv];simp;omega,.inr ⟨g,c,(laid (laid cur.toList ((i+1)*6) Z) (i*6) (Zj [y])).toArray,rfl,hbg,setRow_heap _ g _ _ 103 (0,0) hh1,hroom,by unfold maxLen;omega,?_,?_⟩⟩
  ·rw[List.size_toArray,Uv _ _ _ (by rw[hll,Yb];omega),hll]
  ·show List.take _ (laid _ _ _)=_
   rw[hZ,Zju _ _ i n c hi hroom hcur (Yb y),h4,N5]
 have G:Hid (w.grownBy (W1.setRow g (laid (laid cur.toList ((i+1)*6) Z) (i*6) (Zj [y])).toArray) (some g)):=by
  have e:W1.setRow g (laid (laid cur.toList ((i+1)*6) Z) (i*6) (Zj [y])).toArray=w.drew.setRow g (laid (laid cur.toList ((i+1)*6) Z) (i*6) (Zj [y])).toArray:=by rw[hW1,setRow_setRow]
  rw[e]
  exact⟨rfl,rfl,rfl,by simp[World.setRow],fun k hk hne=>setRow_other w.drew g k _ (fun e=>hne (by rw[e]))⟩
 have hin:i≤n:=by omega
 have hb0:(0:Int)≤(i:Int)+1:=by omega
 have hic:i≤c:=by omega
 have h9:¬((i:Int)=(n:Int)):=by omega
 have hb2:¬(c=i+1):=by omega
 have hb4:¬(c=i):=by omega
 have hw1:IntKind.i64.wrap ((i:Int)+1)=(i:Int)+1:=by rw[IntKind.wrap_i64];omega
 have hw2:IntKind.i64.wrap ((n:Int)+1)=(n:Int)+1:=by rw[IntKind.wrap_i64];omega
 have htn:((i:Int)+1).toNat=i+1:=by omega
 have htn2:((n:Int)+1).toNat=n+1:=by omega
 have hb3:(i:Int)≤(n:Int)+1:=by omega
 have hb5:(i:Int)+1≤(n:Int)+1:=by omega
 have hb6:(n:Int)+1≤(c:Int):=by omega
 have hb7:¬((c:Int)<(n:Int)+1):=by omega
 clear hW1 hh1 hll hh h3 h4 hlen hcur hz hv hZ hZl hZ1
 go_enter Tryz.func197,Tryz.ntmps197
 go_wp2_with (simp only[hov])
 go_region
 go_wp2
 go_ret
 exact⟨rfl,Za R,Za G⟩
theorem Zjt(X Y Z O:List Value)(i n C:Nat)(hi:i<n)(hC:n+1≤C)(hX:X.length=C*6)(hO:X.take (i*6)=O)(hY:Y.length=6)(hZ:Z.length=(n - i)*6) :
  (laid (laid X (i*6) Y) ((i+1)*6) Z).take ((n+1)*6)=O++(Y++Z):=by
 have e2:(laid X (i*6) Y).take ((i+1)*6)=O++Y:=by
  unfold laid
  rw[List.take_append_of_le_length (by simp;omega),List.take_of_length_le (by simp;omega),hO]
 rw[show laid (laid X (i*6) Y) ((i+1)*6) Z=O++Y++Z++(laid X (i*6) Y).drop ((i+1)*6+Z.length) by rw[←e2];rfl]
 have hOl:O.length=i*6:=by rw[←hO,List.length_take];omega
 rw[List.take_append_of_le_length (by simp;omega),List.take_of_length_le (by simp;omega),List.append_assoc]
theorem Hd(base g n c i vb:Nat)(K:List CV)(y:CV)(w:World)(hi:i<n)(hn:n≤4096)(hroom:c<n+1)(hz:K.length=n)(h:w.ownsRow base 103 6 (.slice (some ⟨g,0,none⟩) n c) n (Zj K))(hv:w.heap[vb]? = some (.cells (Zj [y]).toArray 103 (0,0))) :
  Calls Tryz.prog 197 #[.slice (some ⟨g,0,none⟩) n c,.int .i64 i,.slice (some ⟨vb,0,none⟩) 1 1] w fun e w'=>∃ v',e = .returned v'∧w'.ownsRow w.heap.size 103 6 v' (n+1) (Zj (K.take i++y :: K.drop i))∧w.grownBy w' none:=by
 obtain⟨i0,hi0,hz0,hz1,hz2⟩:=info_parts Tryz.infoCoin
 obtain⟨hlen,h|⟨g',c',cur,hv',hbg,hh,h1,h2,h3,h4⟩⟩:=h
 ·cases h.1
 simp only[Value.slice.injEq,Option.some.injEq,Addr.mk.injEq,and_true,true_and] at hv'
 obtain⟨rfl,rfl⟩:=hv'
 unfold maxLen at h2
 have hcur:cur.toList.length=c*6:=by simpa using h3
 have hsz:(Tryz.prog.info? 103).map (·.size)=some 6:=by rw[hi0];simp[hz1]
 have hlt:g<w.heap.size:=lt_of_block hh
 have hltv:vb<w.heap.size:=lt_of_block hv
 obtain⟨k,hk⟩:∃ k,k=n+1 - i:=⟨_,rfl⟩
 have hik:i+k=n+1:=by omega
 obtain⟨O,hO⟩:∃ O,O=Zj (K.take i):=⟨_,rfl⟩
 have hOl:O.length=i*6:=by rw[hO,Zv,List.length_take];omega
 have hcell:∀ j u,(Zj K)[j]? = some u→w.cell? ⟨g,j,none⟩=some u:=fun j u hj=>by
  have hjl:j<n*6:=by rw[←hlen];exact (List.getElem?_eq_some_iff.1 hj).1
  rw[←h4,List.getElem?_take_of_lt hjl] at hj
  simp only[World.cell?,hh]
  simpa using hj
 obtain⟨C,hC⟩:∃ C,C=grownCap w (i+k) c 103:=⟨_,rfl⟩
 have hCge:n+1≤C:=by rw[hC,←hik];exact grownCap_ge w (i+k) c 103
 have hCle:C≤maxLen:=by rw[hC];exact grownCap_le_maxLen w (i+k) c 103 (by unfold maxLen;omega)
 obtain⟨X,hX⟩:∃ X,X=(O.toArray++Builtin.zeroCells zeroC.cells k++Builtin.zeroCells zeroC.cells (C - (i+k))):=⟨_,rfl⟩
 have hXs:X.size=C*6:=by
  rw[hX]
  have:zeroC.cells.size=6:=rfl
  simp only[Array.size_append,List.size_toArray,size_zeroCells,this,hOl]
  omega
 have hXl:X.toList.length=C*6:=by simpa using hXs
 have hXO:X.toList.take (i*6)=O:=by
  rw[hX,←hOl]
  simp
 obtain⟨W0,hW0⟩:∃ W0,W0=w.drew.alloc (.cells X 103):=⟨_,rfl⟩
 have hap:∀ ty,(Builtin.append_ #[29,3] ty #[.slice (some ⟨g,0,none⟩) i c,.int .i64 k]).run Tryz.prog w = .ok (.slice (some ⟨w.heap.size,0,none⟩) (n+1) C) W0:=fun ty=>by
  have:=Lib.run_append_grow_zeros (P:=Tryz.prog) w 29 3 ty 103 i0 zeroC .i64 .i64 Tryz.underlying29 Tryz.underlying3 hi0 hz0 (some ⟨g,0,none⟩) i c O
   (run_firstCells_some (P:=Tryz.prog) w.drew i0.size i ⟨g,0,none⟩ i c O (by rw[hOl,hz1]) (fun j u hj=>by
    rw[Addr.add_lit,Nat.zero_add]
    have hjl:j<i*6:=by rw[←hOl];exact (List.getElem?_eq_some_iff.1 hj).1
    rw[hO,←Vs,List.getElem?_take_of_lt hjl] at hj
    exact hcell j u hj))
   k (by omega) (by rw[hz1];decide) (by omega) (by omega) (by rw[hz2];omega) (growslice_fits (by omega) (by rw[hz2];omega))
  rw[this,hW0,hX,hC,hik]
 have hh0:W0.heap[w.heap.size]? = some (.cells X 103 (0,0)):=by rw[hW0];exact heap_alloc_new w.drew _
 obtain⟨W1,hW1⟩:∃ W1,W1=W0.setRow w.heap.size (laid X.toList (i*6) (Zj [y])).toArray:=⟨_,rfl⟩
 have hh1:W1.heap[w.heap.size]? = some (.cells (laid X.toList (i*6) (Zj [y])).toArray 103 (0,0)):=by rw[hW1];exact setRow_heap W0 _ _ _ 103 (0,0) hh0
 have hl1:(laid X.toList (i*6) (Zj [y])).length=C*6:=by rw[Uv _ _ _ (by rw[hXl,Yb];omega),hXl]
 have hm:Nat.min 1 (n+1 - i)=1:=by simp only[Nat.min_def];split <;> omega
 have hm2:Nat.min (n - i) (n - i)=n - i:=by simp only[Nat.min_def];split <;> omega
 have hcp1:∀ ty dc,(Builtin.copy_ #[29,29] ty #[.slice (some ⟨w.heap.size,i*6,none⟩) (n+1 - i) dc,.slice (some ⟨vb,0,none⟩) 1 1]).run Tryz.prog W0 = .ok (goInt 1) W1:=fun ty dc=>by
  have hv1:W0.heap[vb]? = some (.cells (Zj [y]).toArray 103 (0,0)):=by rw[hW0,Below.heap_alloc w.drew _ vb hltv];exact hv
  have:=X3 (P:=Tryz.prog) W0 29 29 ty 103 w.heap.size (i*6) (n+1 - i) dc ⟨vb,0,none⟩ 1 1 6 X 103 (Zj [y]) Tryz.underlying29 hsz hh0 (by rw[Yb,hm])
   (fun j u hj=>by rw[Addr.add_lit,Nat.zero_add];exact V7 hv1 j u hj) (by rw[Yb,hXs];omega) (Xe [y])
  rw[this,hm,hW1]
  rfl
 obtain⟨Z,hZ⟩:∃ Z,Z=Zj (K.drop i):=⟨_,rfl⟩
 have hZl:Z.length=(n - i)*6:=by rw[hZ,Zv,List.length_drop,hz]
 obtain⟨W2,hW2⟩:∃ W2,W2=W1.drew.setRow w.heap.size (laid (laid X.toList (i*6) (Zj [y])) ((i+1)*6) Z).toArray:=⟨_,rfl⟩
 have hcp2:∀ ty dc sc,(Builtin.copy_ #[29,29] ty #[.slice (some ⟨w.heap.size,(i+1)*6,none⟩) (n - i) dc,.slice (some ⟨g,i*6,none⟩) (n - i) sc]).run Tryz.prog W1.drew = .ok (goInt ((n - i:Nat):Int)) W2:=fun ty dc sc=>by
  have:=X3 (P:=Tryz.prog) W1.drew 29 29 ty 103 w.heap.size ((i+1)*6) (n - i) dc ⟨g,i*6,none⟩ (n - i) sc 6 (laid X.toList (i*6) (Zj [y])).toArray 103 Z Tryz.underlying29 hsz hh1 (by rw[hZl,hm2])
   (fun j u hj=>by
    rw[Addr.add_lit]
    show W1.cell? _=_
    have hb1:W1.heap[g]? = w.heap[g]?:=by rw[hW1,setRow_other _ _ _ _ (by omega),hW0,Below.heap_alloc w.drew _ g hlt];rfl
    rw[World.cell?_of_block (a:=⟨g,i*6+j,none⟩) hb1]
    exact hcell _ u (by rw[hZ,←Vt,List.getElem?_drop] at hj;exact hj)) (by rw[hZl,List.size_toArray,hl1];omega) (fun u hu=>Xe _ u (by rw[hZ] at hu;exact hu))
  rw[this,hm2,hW2]
 have R:Hid (W2.ownsRow w.heap.size 103 6 (.slice (some ⟨w.heap.size,0,none⟩) (n+1) C) (n+1) (Zj (K.take i++y :: K.drop i))):=by
  refine⟨by rw[Zv];simp;omega,.inr ⟨w.heap.size,C,(laid (laid X.toList (i*6) (Zj [y])) ((i+1)*6) Z).toArray,rfl,Nat.le_refl _,by rw[hW2];exact setRow_heap W1.drew _ _ _ 103 (0,0) hh1,hCge,hCle,?_,?_⟩⟩
  ·rw[List.size_toArray,Uv _ _ _ (by rw[hl1,hZl];omega),hl1]
  ·show List.take _ (laid _ _ _)=_
   rw[Zjt X.toList (Zj [y]) Z O i n C hi hCge hXl hXO (Yb y) hZl,N5,Vs,Vt,hO,hZ]
 have G:Hid (w.grownBy W2 none):=by
  refine⟨by rw[hW2,hW1,hW0];rfl,by rw[hW2,hW1,hW0];rfl,by rw[hW2,hW1,hW0];rfl,by rw[hW2,hW1,hW0];simp[World.setRow],fun q hq _=>?_⟩
  rw[hW2,setRow_other _ _ _ _ (by omega)]
  show W1.heap[q]? = _
  rw[hW1,setRow_other _ _ _ _ (by omega),hW0,Below.heap_alloc w.drew _ q hq]
  rfl
 have hin:i≤n:=by omega
 have hic:i≤c:=by omega
 have h9:¬((i:Int)=(n:Int)):=by omega
 have hb0:(0:Int)≤(i:Int)+1:=by omega
 have hb2:¬(C=i+1):=by omega
 have hb4:¬(C=i):=by omega
 have hb8:¬(c=i):=by omega
 have hw1:IntKind.i64.wrap ((i:Int)+1)=(i:Int)+1:=by rw[IntKind.wrap_i64];omega
 have hw2:IntKind.i64.wrap ((n:Int)+1)=(n:Int)+1:=by rw[IntKind.wrap_i64];omega
 have hw3:IntKind.i64.wrap ((n:Int)+1 - (i:Int))=(k:Int):=by rw[IntKind.wrap_i64];omega
 have htn:((i:Int)+1).toNat=i+1:=by omega
 have hb5:(i:Int)+1≤(n:Int)+1:=by omega
 have hb3:(i:Int)≤(n:Int)+1:=by omega
 have hb7:(c:Int)<(n:Int)+1:=by omega
 have HAP:=Zb hap
 clear hap hW0 hW1 hW2 hh0 hh1 hl1 hh h3 h4 hlen hcur hz hv hZ hZl hX hXs hXl hXO hO hOl hC hcell hk
 go_enter Tryz.func197,Tryz.ntmps197
 go_wp2_with (at_builtin;refine Ue _ rfl _ _ 29 3 rfl _ _ rfl rfl ((Za HAP) _) ?_)
 go_wp2
 go_region
 go_wp2
 go_ret
 exact⟨_,rfl,Za R,Za G⟩
theorem Xv{w:World}{base base':Nat}{e:TypeId}{size:Nat}{v:Value}{n:Nat}{xs:List Value}(h:w.ownsRow base' e size v n xs)(hb:base≤base'):w.ownsRow base e size v n xs:=by
 obtain⟨hl,h0|⟨g,cap,cur,hv,hg,r⟩⟩:=h
 ·exact⟨hl,.inl h0⟩
 ·exact⟨hl,.inr ⟨g,cap,cur,hv,Nat.le_trans hb hg,r⟩⟩
theorem Ps{w w':World}{row:Option Nat}(h:w.grownBy w' none):w.grownBy w' row:=⟨h.os,h.tape,h.output,h.size,fun k hk _=>h.block k hk (by simp)⟩
theorem Le(base:Nat)(a:Option Addr)(n c i vb:Nat)(K:List CV)(y:CV)(w:World)(hi:i≤n)(hn:n≤4096)(hz:K.length=n)(hbase:base≤w.heap.size)(h:w.ownsRow base 103 6 (.slice a n c) n (Zj K))(hv:w.heap[vb]? = some (.cells (Zj [y]).toArray 103 (0,0)))
  (hne:(Value.slice a n c).ownBlock≠some vb) :
  Calls Tryz.prog 197 #[.slice a n c,.int .i64 i,.slice (some ⟨vb,0,none⟩) 1 1] w fun e w'=>∃ v',e = .returned v'∧w'.ownsRow base 103 6 v' (n+1) (Zj (K.take i++y :: K.drop i))∧w.grownBy w' (Value.slice a n c).ownBlock∧(v'.ownBlock=(Value.slice a n c).ownBlock∨∀ k,v'.ownBlock=some k→w.heap.size≤k):=by
 have hO:=h
 rcases h.2 with ⟨e,h0⟩|⟨g,c',cur,hv',hbg,hh,h1,h2,h3,h4⟩
 ·simp only[Value.slice.injEq] at e
  obtain⟨rfl,rfl,rfl⟩:=e
  obtain rfl:i=0:=by omega
  have eK:K=[]:=List.length_eq_zero_iff.1 hz
  subst eK
  refine (Uw none 0 0 vb [] y w hn (Nat.le_refl _) (by omega) rfl (fun _=>⟨rfl,rfl⟩) (fun b hb=>by cases hb) hv).mono ?_
  rintro e w' ⟨v',rfl,x,z⟩
  exact⟨v',rfl,Xv x hbase,Ps z,.inr fun k hk=>Yx x k hk⟩
 ·simp only[Value.slice.injEq] at hv'
  obtain⟨rfl,_,rfl⟩:=hv'
  have hgv:vb≠g:=fun e=>hne (by rw[e];rfl)
  by_cases hin:i=n
  ·subst hin
   by_cases hr:i+1≤c
   ·refine (Ld base g i c vb K y w hr hz hO hv).mono ?_
    rintro e w' ⟨rfl,x,z⟩
    exact⟨_,rfl,by rw[←hz,List.take_length,List.drop_length,hz];exact x,z,.inl rfl⟩
   ·refine (Uw (some ⟨g,0,none⟩) i c vb K y w hn h1 (by omega) hz (fun e=>by cases e) (fun b hb j u hj=>?_) hv).mono ?_
    ·cases hb
     rw[Addr.add_lit,Nat.zero_add]
     have hjl:j<i*6:=by rw[←hO.1];exact (List.getElem?_eq_some_iff.1 hj).1
     rw[World.ownsRow.cellAt hO j hjl];exact hj
    ·rintro e w' ⟨v',rfl,x,z⟩
     exact⟨v',rfl,by rw[←hz,List.take_length,List.drop_length,hz];exact Xv x hbase,Ps z,.inr fun k hk=>Yx x k hk⟩
  ·by_cases hr:n+1≤c
   ·refine (Pr base g n c i vb K y w (by omega) hr hz hO hv hgv).mono ?_
    rintro e w' ⟨rfl,x,z⟩
    exact⟨_,rfl,x,z,.inl rfl⟩
   ·refine (Hd base g n c i vb K y w (by omega) hn (by omega) hz hO hv).mono ?_
    rintro e w' ⟨v',rfl,x,z⟩
    exact⟨v',rfl,Xv x hbase,Ps z,.inr fun k hk=>Yx x k hk⟩
structure Gr(w w':World)(S:Nat→Prop):Prop where
 os:w'.os=w.os
 tape:w'.tape=w.tape
 output:w'.output=w.output
 size:w.heap.size≤w'.heap.size
 block:∀ k,k<w.heap.size→¬S k→w'.heap[k]? = w.heap[k]?
theorem Gr.refl(w:World)(S:Nat→Prop):Gr w w S:=⟨rfl,rfl,rfl,Nat.le_refl _,fun _ _ _=>rfl⟩
theorem Gr.of{w w':World}{S:Nat→Prop}(h:Below w.heap.size w w'):Gr w w' S:=⟨h.os,h.tape,h.output,h.size,fun k hk _=>h.block k hk⟩
theorem Gr.on{w w1 w2:World}{S:Nat→Prop}(h:Gr w w1 S)(k:Below w1.heap.size w1 w2):Gr w w2 S:=
 ⟨k.os.trans h.os,k.tape.trans h.tape,k.output.trans h.output,Nat.le_trans h.size k.size,fun i hi hn=>(k.block i (Nat.lt_of_lt_of_le hi h.size)).trans (h.block i hi hn)⟩
theorem Gr.trans{w w1 w2:World}{S:Nat→Prop}(h:Gr w w1 S)(k:Gr w1 w2 S):Gr w w2 S:=
 ⟨k.os.trans h.os,k.tape.trans h.tape,k.output.trans h.output,Nat.le_trans h.size k.size,fun i hi hn=>(k.block i (Nat.lt_of_lt_of_le hi h.size) hn).trans (h.block i hi hn)⟩
theorem Gr.mono{w w1:World}{S T:Nat→Prop}(h:Gr w w1 S)(hs:∀ k,k<w.heap.size→S k→T k):Gr w w1 T:=
 ⟨h.os,h.tape,h.output,h.size,fun i hi hn=>h.block i hi (fun q=>hn (hs i hi q))⟩
theorem Gr.grown{w w1 w2:World}{S:Nat→Prop}{row:Option Nat}(h:Gr w w1 S)(g:w1.grownBy w2 row)(hr:∀ k,row=some k→S k∨w.heap.size≤k):Gr w w2 S:=
 ⟨g.os.trans h.os,g.tape.trans h.tape,g.output.trans h.output,Nat.le_trans h.size g.size,fun i hi hn=>(g.block i (Nat.lt_of_lt_of_le hi h.size) (fun e=>by
  rcases hr i e.symm with q|q
  ·exact hn q
  ·omega)).trans (h.block i hi hn)⟩
theorem Gr.set{w w1:World}{S:Nat→Prop}(h:Gr w w1 S){p:Addr}(hp:S p.block∨w.heap.size≤p.block)(u:Value):Gr w (w1.setCell p u) S:=
 ⟨h.os,h.tape,h.output,by simpa[World.setCell] using h.size,fun i hi hn=>(Below.heap_setCell w1 p u i (fun e=>by
  subst e
  rcases hp with q|q
  ·exact hn q
  ·omega)).trans (h.block i hi hn)⟩
theorem Gr.one{w w1:World}{S:Nat→Prop}(h:Gr w w1 S)(b i:Nat)(hb:S b∨w.heap.size≤b)(u:Value):Gr w (w1.setCell ⟨b,i,none⟩ u) S:=h.set (p:=⟨b,i,none⟩) hb u
theorem Gr.six{w w1:World}{S:Nat→Prop}(h:Gr w w1 S)(b:Nat)(hb:S b∨w.heap.size≤b)(a0 a1 a2 a3 a4 a5:Value):Gr w ((((((w1.setCell ⟨b,0,none⟩ a0).setCell ⟨b,1,none⟩ a1).setCell ⟨b,2,none⟩ a2).setCell ⟨b,3,none⟩ a3).setCell ⟨b,4,none⟩ a4).setCell ⟨b,5,none⟩ a5) S:=
 (((((h.one b 0 hb a0).one b 1 hb a1).one b 2 hb a2).one b 3 hb a3).one b 4 hb a4).one b 5 hb a5
theorem Gr.new{w w1:World}{S:Nat→Prop}(h:Gr w w1 S)(o:Obj):Gr w (w1.alloc o) S:=h.on (Zg _ _)
theorem Gr.draw{w w1:World}{S:Nat→Prop}(h:Gr w w1 S):Gr w w1.drew S:=⟨h.os,h.tape,h.output,h.size,h.block⟩
theorem Gr.below{w0 w w':World}{S:Nat→Prop}{B:Nat}(h:Gr w w' S)(hb:Below B w0 w)(hB:B≤w.heap.size)(hs:∀ k,S k→B≤k):Below B w0 w':=
 ⟨h.os.trans hb.os,h.tape.trans hb.tape,h.output.trans hb.output,Nat.le_trans hb.size h.size,fun k hk=>(h.block k (by omega) (fun q=>by have:=hs k q;omega)).trans (hb.block k hk)⟩
theorem Gr.own{w w':World}{S:Nat→Prop}(h:Gr w w' S){base:Nat}{e:TypeId}{size:Nat}{v:Value}{n:Nat}{xs:List Value}(ho:w.ownsRow base e size v n xs)(hn:∀ k,v.ownBlock=some k→¬S k):w'.ownsRow base e size v n xs:=by
 obtain⟨hl,h0|⟨g,cap,cur,hv,hg,hh,r⟩⟩:=ho
 ·exact⟨hl,.inl h0⟩
 ·exact⟨hl,.inr ⟨g,cap,cur,hv,hg,(h.block g (lt_of_block hh) (hn g (by rw[hv];rfl))).trans hh,r⟩⟩
theorem Gr.heap{w w':World}{S:Nat→Prop}(h:Gr w w' S){b:Nat}{o:Obj}(ho:w.heap[b]? = some o)(hn:¬S b):w'.heap[b]? = some o:=(h.block b (lt_of_block ho) hn).trans ho
theorem Zd{w:World}{b:Nat}{X:List Value}{t:TypeId}(h:w.heap[b]? = some (.cells X.toArray t (0,0)))(j:Nat)(u:Value)(hj:X[j]? = some u):w.cell? ⟨b,j,none⟩=some u:=V7 h j u hj
theorem Zi{w:World}{b:Nat}{X:Array Value}{t:TypeId}(h:w.heap[b]? = some (.cells X t (0,0)))(j:Nat):w.frozen? ⟨b,j,none⟩=false:=by simp[World.frozen?,h]
structure Pu(w0 w:World)(p:Nat)(v:Value)(K:List CV):Prop where
 bel:Below w0.heap.size w0 w
 ge:w0.heap.size≤p
 box:w.heap[p]? = some (.cells #[v] 221 (0,0))
 own:w.ownsRow w0.heap.size 103 6 v K.length (Zj K)
 ne:v.ownBlock≠some p
 lk:∀ x∈K,LkAt w0 x
def PuS(p:Nat)(v:Value):Nat→Prop:=fun k=>k=p∨v.ownBlock=some k
theorem Pu.coins{w0 w:World}{p:Nat}{v:Value}{K:List CV}(h:Pu w0 w p v K):∃ a c,v = .slice a K.length c∧CoinsAt w a K.length (K.map (·.1))∧SlOk a K.length c:=
 Z5 h.own (fun x hx=>(h.lk x hx).later h.bel)
theorem Pu.lt{w0 w:World}{p:Nat}{v:Value}{K:List CV}(h:Pu w0 w p v K):p<w.heap.size:=lt_of_block h.box
theorem Pu.kept{w0 w w':World}{p:Nat}{v:Value}{K:List CV}(h:Pu w0 w p v K)(hb:Below w.heap.size w w'):Pu w0 w' p v K:=
 ⟨Ze h.bel (hb.mono h.bel.size |> fun q=>⟨q.os,q.tape,q.output,q.size,hb.block⟩),h.ge,(hb.block p h.lt).trans h.box,(Gr.of (S:=fun _=>False) hb).own h.own (fun _ _ q=>q),h.ne,h.lk⟩
theorem Zez(a:Option Addr)(n c:Nat)(L:List Zf)(w:World)(hn:n≤4096)(h:CoinsAt w a n L)(hs:SlOk a n c) :
  Calls Tryz.prog 140 #[.slice a n c] w fun e w'=>∃ p v,∃ K:List CV,e = .returned (.pointer (some ⟨p,0,none⟩))∧K.map (·.1)=L∧Pu w w' p v K:=by
 have C:=Zb (R5 a n c L w hn h hs)
 clear h hs
 go_enter Tryz.func140,Tryz.ntmps140
 go_wp2_with fail
 refine (Za C).mono ?_
 rintro e w2 ⟨v,K,rfl,hK,hl,ho,hb⟩
 obtain⟨a',c',rfl,_,_⟩:=Z5 ho (fun x hx=>(hl x hx).later hb)
 obtain⟨n',hn'⟩:∃ n',K.length=n':=⟨_,rfl⟩
 rw[hn'] at ho ⊢
 have P:Hid (Pu w (w2.alloc (.cells #[.slice a' n' c'] 221)) w2.heap.size (.slice a' n' c') K):=by
  refine⟨hb.alloc hb.size _,hb.size,heap_alloc_new w2 _,by rw[hn'];exact ho.alloc _,fun e=>?_,hl⟩
  have:=(ho.lt _ e).2
  omega
 have HK:=Zb hK
 clear hK hl ho hb hn'
 go_wp2
 go_ret
 exact⟨w2.heap.size,_,K,rfl,Za HK,Za P⟩
theorem Nl(x:Zf)(a:Option Addr)(n c:Nat)(p:PtD)(z:Int)(w:World)(hz:He (pt x) p=z) :
  Calls Tryz.prog 229 #[cnV x a n c,.agg #[.int .i64 p.1,.int .i64 p.2]] w fun e w'=>e = .returned (.int .i64 z)∧Below w.heap.size w w':=by
 unfold cnV
 have HB:=Zb (Ze (Zg w (.cells #[.int .i64 x.1,.int .i64 x.2.1,.int .i64 (cv x),.slice a n c,.int .i64 (ch x),.bool (cr x)] 103)) (Zg _ (.cells #[.int .i64 p.1,.int .i64 p.2] 99)))
 have C:=Zb (fun w=>Tl (pt x) p z w hz)
 unfold pt at C
 clear hz
 go_enter Tryz.func229,Tryz.ntmps229
 go_wp2_with fail
 refine ((Za C) _).mono ?_
 rintro e w2 ⟨rfl,hb2⟩
 have HB2:=Zb (Ze (Za HB) hb2)
 clear hb2
 go_wp2
 go_ret
 exact⟨rfl,Za HB2⟩
theorem Zdn{L:List Zf}(h:Srt L)(p:PtD)(i:Nat)(hi:i≤L.length)(h1:∀ t (ht:t<L.length),t<i→lt (pt L[t]) p=true)(h2:∀ t (ht:t<L.length),i≤t→lt (pt L[t]) p=false):pos p L=i:=by
 obtain⟨e1,_⟩:=Ul (p:=p) h
 have hl:=Zgm p L
 rcases Nat.lt_trichotomy (pos p L) i with q|q|q
 ·have:=h1 (pos p L) (by omega) q
  have hm:L[pos p L]'(by omega)∈L.drop (pos p L):=by rw[List.drop_eq_getElem_cons (by omega)];exact List.mem_cons_self ..
  rw[(Ul (p:=p) h).2,List.mem_filter] at hm
  rw[this] at hm
  exact absurd hm.2 (by decide)
 ·exact q
 ·have:=h2 i (by omega) (Nat.le_refl _)
  have hm:L[i]'(by omega)∈L.take (pos p L):=by
   rw[List.mem_take_iff_getElem]
   exact⟨i,by omega,rfl⟩
  rw[e1,List.mem_filter,this] at hm
  exact absurd hm.2 (by decide)
theorem Ai{L:List Zf}(h:Srt L)(p:PtD)(i j:Nat)(hi:i<L.length)(hj:j<L.length)(hij:i≤j)(hl:lt (pt L[j]) p=true):lt (pt L[i]) p=true:=by
 rcases Nat.lt_or_ge i j with q|q
 ·exact lt_trans (List.pairwise_iff_getElem.1 h i j hi hj q) hl
 ·obtain rfl:i=j:=by omega
  exact hl
theorem Zim(b off n c:Nat)(L:List Zf)(p:PtD)(k:Nat)(f:Bool)(w:World)(hs:Srt L)(hn:n≤4611686018427387903)(hz:L.length=n)(hc:∀ i (h:i<L.length),CoinAt w b (off+i*6) L[i])
  (hk:pos p L=k) (hf:Xy p L=f) :
  Calls Tryz.prog 228 #[.slice (some ⟨b,off,none⟩) n c,.agg #[.int .i64 p.1,.int .i64 p.2],.func (.func 229) #[] #[]] w fun e w'=>e = .returned (.tuple #[.int .i64 k,.bool f])∧Below w.heap.size w w':=by
 have HS:=Zb hs
 have HC:=Zb hc
 have HZ:=Zb hz
 have HK:=Zb hk
 have HF:=Zb hf
 clear hs hc hz hk hf
 obtain⟨X,hX⟩:∃ X,X=w.alloc (.cells #[.int .i64 p.1,.int .i64 p.2] 99):=⟨_,rfl⟩
 obtain⟨n0,n1⟩:=Yg w (.int .i64 p.1) (.int .i64 p.2) 99
 rw[←hX] at n0 n1
 have hbX:Below w.heap.size w X:=by rw[hX];exact Zg _ _
 have HBX:=Zb hbX
 have N0:=Zb n0
 have N1:=Zb n1
 clear n0 n1 hbX
 go_enter Tryz.func228,Tryz.ntmps228
 go_wp2
 rw[←hX]
 clear hX
 go_loopw [9,10] (fun s9 s10 wr=>∃ lo hi:Nat,s9 = .int .i64 lo∧s10 = .int .i64 hi∧lo≤hi∧hi≤n∧Hid ((∀ t (ht:t<L.length),t<lo→lt (pt L[t]) p=true)∧(∀ t (ht:t<L.length),hi≤t→lt (pt L[t]) p=false))∧Below X.heap.size X wr) (fun s9 s10 _=>(intOf s10).toNat - (intOf s9).toNat)
 case atStart=>exact⟨0,n,rfl,rfl,Nat.zero_le _,Nat.le_refl _,(⟨fun t _ h=>absurd h (by omega),fun t ht h=>absurd ht (by rw[Za HZ];omega)⟩:(∀ t (ht:t<L.length),t<0→lt (pt L[t]) p=true)∧(∀ t (ht:t<L.length),n≤t→lt (pt L[t]) p=false)),Below.refl _ _⟩
 case round=>
  obtain⟨lo,hi,rfl,rfl,hlh,hin,I,hb⟩:=hrel
  have HB:=Zb hb
  have m0:=Zc hb (Za N0)
  have m1:=Zc hb (Za N1)
  have hsz:=World.block_lt_of_cell? _ _ m0
  by_cases hlt:lo<hi
  ·obtain⟨m,hm⟩:∃ m:Nat,m=(lo+hi) / 2:=⟨_,rfl⟩
   have hmI:((lo:Int)+(hi:Int)) / 2=(m:Int):=by omega
   have hmn:m<n:=by omega
   have hmn2:(m:Int)<(n:Int):=by omega
   have hml:m<L.length:=by rw[Za HZ];exact hmn
   have hin:=CoinAt.kept _ _ _ _ _ (Ze (Za HBX) hb) ((Za HC) m hml)
   have I1:Hid (lt (pt L[m]) p=true→(∀ t (ht:t<L.length),t<m+1→lt (pt L[t]) p=true)∧(∀ t (ht:t<L.length),hi≤t→lt (pt L[t]) p=false)):=fun h=>⟨fun t ht h2=>Ai (Za HS) p t m ht hml (by omega) h,(Za I).2⟩
   have I2:Hid (lt (pt L[m]) p=false→(∀ t (ht:t<L.length),t<lo→lt (pt L[t]) p=true)∧(∀ t (ht:t<L.length),m≤t→lt (pt L[t]) p=false)):=fun h=>⟨(Za I).1,fun t ht h2=>by
    rw[←Bool.not_eq_true]
    intro q
    rw[Ai (Za HS) p m t hml ht h2 q] at h
    exact Bool.noConfusion h⟩
   obtain⟨x,hx⟩:∃ x,L[m]=x:=⟨_,rfl⟩
   rw[hx] at hin I1 I2
   obtain⟨a,l,d,g1,g2,g3,g4,g5,g6,_,_⟩:=hin.val
   obtain⟨z,hz⟩:∃ z,He (pt x) p=z:=⟨_,rfl⟩
   have C:=Zb (fun w=>Nl x a l d p z w hz)
   unfold cnV at C
   have hz2:z<0↔lt (pt x) p=true:=by rw[←hz];exact Fm
   have hml2:lo≤m:=by omega
   have hmh:m<hi:=by omega
   have HM:=Zb hm
   clear hin hx hz I hb hm
   by_cases hz0:z<0
   ·have J:=Zb ((Za I1) (hz2.1 hz0))
    clear I1 I2 hz2
    go_wp2_with fail
    go_region_held3 (fun w'=>Below wr.heap.size wr w'∧w'.cell? ⟨w.heap.size,0,none⟩=some (.int .i64 p.1)∧w'.cell? ⟨w.heap.size,1,none⟩=some (.int .i64 p.2)∧w'.cell? ⟨b,off+m*6,none⟩=some (.int .i64 x.1)∧w'.cell? ⟨b,off+m*6+1,none⟩=some (.int .i64 x.2.1)∧w'.cell? ⟨b,off+m*6+2,none⟩=some (.int .i64 (cv x))∧w'.cell? ⟨b,off+m*6+3,none⟩=some (.slice a l d)∧w'.cell? ⟨b,off+m*6+4,none⟩=some (.int .i64 (ch x))∧w'.cell? ⟨b,off+m*6+5,none⟩=some (.bool (cr x)))
     (first
     | exact⟨Zh _,m0,m1,g1,g2,g3,g4,g5,g6⟩
     | (go_split_ands;refine⟨Ze (by assumption) hbc,Zc hbc (by assumption),Zc hbc (by assumption),Zc hbc (by assumption),Zc hbc (by assumption),Zc hbc (by assumption),Zc hbc (by assumption),Zc hbc (by assumption),Zc hbc (by assumption)⟩))
     (first|(go_at_call 229;refine ((Za C) _).mono ?_;rintro e w' ⟨rfl,hbc⟩))
    rename_i hH
    have HH:=Zb (Ze (Za HB) hH.1)
    clear hH
    go_wp2
    go_roundw
    case rel=>exact⟨m+1,hi,by go_num,rfl,by omega,by omega,J,Za HH⟩
    case measure=>simp[intOf];omega
   ·have J:=Zb ((Za I2) (by rw[←Bool.not_eq_true];intro q;exact hz0 (hz2.2 q)))
    clear I1 I2 hz2
    go_wp2_with fail
    go_region_held3 (fun w'=>Below wr.heap.size wr w'∧w'.cell? ⟨w.heap.size,0,none⟩=some (.int .i64 p.1)∧w'.cell? ⟨w.heap.size,1,none⟩=some (.int .i64 p.2)∧w'.cell? ⟨b,off+m*6,none⟩=some (.int .i64 x.1)∧w'.cell? ⟨b,off+m*6+1,none⟩=some (.int .i64 x.2.1)∧w'.cell? ⟨b,off+m*6+2,none⟩=some (.int .i64 (cv x))∧w'.cell? ⟨b,off+m*6+3,none⟩=some (.slice a l d)∧w'.cell? ⟨b,off+m*6+4,none⟩=some (.int .i64 (ch x))∧w'.cell? ⟨b,off+m*6+5,none⟩=some (.bool (cr x)))
     (first
     | exact⟨Zh _,m0,m1,g1,g2,g3,g4,g5,g6⟩
     | (go_split_ands;refine⟨Ze (by assumption) hbc,Zc hbc (by assumption),Zc hbc (by assumption),Zc hbc (by assumption),Zc hbc (by assumption),Zc hbc (by assumption),Zc hbc (by assumption),Zc hbc (by assumption),Zc hbc (by assumption)⟩))
     (first|(go_at_call 229;refine ((Za C) _).mono ?_;rintro e w' ⟨rfl,hbc⟩))
    rename_i hH
    have HH:=Zb (Ze (Za HB) hH.1)
    clear hH
    go_wp2
    go_roundw
    case rel=>exact⟨lo,m,rfl,by go_num,by omega,by omega,J,Za HH⟩
    case measure=>simp[intOf];omega
  ·have e:lo=hi:=by omega
   subst e
   have ek:k=lo:=by rw[←Za HK];exact Zdn (Za HS) p lo (by rw[Za HZ];exact hin) (fun t ht h=>(Za I).1 t ht h) (fun t ht h=>(Za I).2 t ht h)
   subst ek
   have hf:=Cb (p:=p) (Za HS)
   rw[Za HF,Za HK,Za HZ] at hf
   by_cases hkn:k<n
   ·have hkl:k<L.length:=by rw[Za HZ];exact hkn
    have hkn2:(k:Int)<(n:Int):=by omega
    have hin2:=CoinAt.kept _ _ _ _ _ (Ze (Za HBX) hb) ((Za HC) k hkl)
    rw[List.getElem?_eq_getElem hkl,Option.map_some] at hf
    obtain⟨x,hx⟩:∃ x,L[k]=x:=⟨_,rfl⟩
    rw[hx] at hin2 hf
    obtain⟨a,l,d,g1,g2,g3,g4,g5,g6,_,_⟩:=hin2.val
    obtain⟨z,hz⟩:∃ z,He (pt x) p=z:=⟨_,rfl⟩
    have C:=Zb (fun w=>Nl x a l d p z w hz)
    unfold cnV at C
    have hg:decide ((k:Int)<(n:Int))=true:=decide_eq_true hkn2
    have hfz:Hid (f=decide (z=0)):=by
     show _=_
     rw[hf,decide_eq_true hkn,Bool.true_and,←hz]
     exact decide_eq_decide.2 (by rw[Option.some.injEq,Zkg])
    clear hin2 hx hz hf hb I
    by_cases hz0:z=0
    ·subst hz0
     have F:Hid (f=true):=by show _=_;rw[Za hfz];rfl
     clear hfz
     go_wp2_with fail
     go_region_held3 (fun w'=>Below wr.heap.size wr w'∧w'.cell? ⟨w.heap.size,0,none⟩=some (.int .i64 p.1)∧w'.cell? ⟨w.heap.size,1,none⟩=some (.int .i64 p.2)∧w'.cell? ⟨b,off+k*6,none⟩=some (.int .i64 x.1)∧w'.cell? ⟨b,off+k*6+1,none⟩=some (.int .i64 x.2.1)∧w'.cell? ⟨b,off+k*6+2,none⟩=some (.int .i64 (cv x))∧w'.cell? ⟨b,off+k*6+3,none⟩=some (.slice a l d)∧w'.cell? ⟨b,off+k*6+4,none⟩=some (.int .i64 (ch x))∧w'.cell? ⟨b,off+k*6+5,none⟩=some (.bool (cr x)))
      (first
      | exact⟨Zh _,m0,m1,g1,g2,g3,g4,g5,g6⟩
      | (go_split_ands;refine⟨Ze (by assumption) hbc,Zc hbc (by assumption),Zc hbc (by assumption),Zc hbc (by assumption),Zc hbc (by assumption),Zc hbc (by assumption),Zc hbc (by assumption),Zc hbc (by assumption),Zc hbc (by assumption)⟩))
      (first|(go_at_call 229;refine ((Za C) _).mono ?_;rintro e w' ⟨rfl,hbc⟩))
     rename_i hH
     have HH:=Zb (Ze (Za HB) hH.1)
     clear hH
     go_wp2
     go_ret2
     exact⟨by rw[Za F];rfl,Ze (Za HBX) (Za HH)⟩
    ·have F:Hid (f=false):=by show _=_;rw[Za hfz];exact decide_eq_false hz0
     have gz:(z == 0)=false:=by simp[hz0]
     clear hfz
     go_wp2_with fail
     go_region_held3 (fun w'=>Below wr.heap.size wr w'∧w'.cell? ⟨w.heap.size,0,none⟩=some (.int .i64 p.1)∧w'.cell? ⟨w.heap.size,1,none⟩=some (.int .i64 p.2)∧w'.cell? ⟨b,off+k*6,none⟩=some (.int .i64 x.1)∧w'.cell? ⟨b,off+k*6+1,none⟩=some (.int .i64 x.2.1)∧w'.cell? ⟨b,off+k*6+2,none⟩=some (.int .i64 (cv x))∧w'.cell? ⟨b,off+k*6+3,none⟩=some (.slice a l d)∧w'.cell? ⟨b,off+k*6+4,none⟩=some (.int .i64 (ch x))∧w'.cell? ⟨b,off+k*6+5,none⟩=some (.bool (cr x)))
      (first
      | exact⟨Zh _,m0,m1,g1,g2,g3,g4,g5,g6⟩
      | (go_split_ands;refine⟨Ze (by assumption) hbc,Zc hbc (by assumption),Zc hbc (by assumption),Zc hbc (by assumption),Zc hbc (by assumption),Zc hbc (by assumption),Zc hbc (by assumption),Zc hbc (by assumption),Zc hbc (by assumption)⟩))
      (first|(go_at_call 229;refine ((Za C) _).mono ?_;rintro e w' ⟨rfl,hbc⟩))
     rename_i hH
     have HH:=Zb (Ze (Za HB) hH.1)
     clear hH
     go_wp2
     go_ret2
     exact⟨by rw[Za F];rfl,Ze (Za HBX) (Za HH)⟩
   ·have F:Hid (f=false):=by show _=_;rw[hf,decide_eq_false hkn,Bool.false_and]
    have hg:decide ((k:Int)<(n:Int))=false:=decide_eq_false (by omega)
    clear hf hb I
    go_wp2_with fail
    go_quiet (fail)
    go_wp2
    go_ret2
    exact⟨by rw[Za F];rfl,Ze (Za HBX) (Ze (Za HB) (P6 _ _))⟩
theorem Zin(a:Option Addr)(c:Nat)(p:PtD)(v:Value)(w:World) :
  Calls Tryz.prog 228 #[.slice a 0 c,.agg #[.int .i64 p.1,.int .i64 p.2],v] w fun e w'=>e = .returned (.tuple #[.int .i64 0,.bool false])∧Below w.heap.size w w':=by
 have HB:=Zb (Zg w (.cells #[.int .i64 p.1,.int .i64 p.2] 99))
 go_enter Tryz.func228,Tryz.ntmps228
 go_wp2
 refine wp_loop_rounds 1 ?_
 rw[rounds_succ]
 go_wp2_with fail
 go_quiet (fail)
 go_wp2
 go_ret2
 exact⟨rfl,Ze (Za HB) (P6 _ _)⟩
theorem Zkk(a:Option Addr)(n c:Nat)(L:List Zf)(p:PtD)(k:Nat)(f:Bool)(w:World)(hs:Srt L)(hn:n≤4611686018427387903)(h:CoinsAt w a n L)(hk:pos p L=k)(hf:Xy p L=f) :
  Calls Tryz.prog 228 #[.slice a n c,.agg #[.int .i64 p.1,.int .i64 p.2],.func (.func 229) #[] #[]] w fun e w'=>e = .returned (.tuple #[.int .i64 k,.bool f])∧Below w.heap.size w w':=by
 obtain⟨hl,hc⟩:=h
 by_cases h2:n=0
 ·subst h2
  have e:L=[]:=List.length_eq_zero_iff.1 hl
  subst e
  subst hk hf
  exact Zin a c p _ w
 ·obtain⟨b,off,rfl,_,hcell⟩:=hc (by omega)
  exact Zim b off n c L p k f w hs hn hl hcell hk hf
theorem Rj(a:Option Addr)(n c:Nat)(L:List Zf)(p:PtD)(k:Nat)(f:Bool)(w:World)(hs:Srt L)(hn:n≤4611686018427387903)(h:CoinsAt w a n L)(hk:pos p L=k)(hf:Xy p L=f) :
  Calls Tryz.prog 194 #[.slice a n c,.agg #[.int .i64 p.1,.int .i64 p.2]] w fun e w'=>e = .returned (.tuple #[.int .i64 k,.bool f])∧Below w.heap.size w w':=by
 have hb:=Zg w (.cells #[.int .i64 p.1,.int .i64 p.2] 99)
 have HB:=Zb hb
 have C:=Zb (Zkk a n c L p k f _ hs hn (h.later hb) hk hf)
 clear hs h hk hf hb
 go_enter Tryz.func194,Tryz.ntmps194
 go_wp2_with fail
 refine (Za C).mono ?_
 rintro e w2 ⟨rfl,hb2⟩
 have HB2:=Zb (Ze (Za HB) hb2)
 clear hb2
 go_wp2
 go_ret2
 exact⟨rfl,Za HB2⟩
theorem Zw{fn:Func}{p u:Tmp}{ty:TypeId}(h:fn.results=#[.cell p ty,.tmp u])(tmps:Array Value)(P:Program)(w:World) :
  (results fn tmps).run P w =
   ((asAddr (tmps.getD p undef)).run P w).andThen fun a w₁=>((loadVar ty a).run P w₁).andThen fun x w₂=>.ok (.tuple #[x,tmps.getD u undef]) w₂:=by
 simp only[results,h]
 simp[Sem.run_bind,Result.andThen]
theorem Et(w0 w:World)(p:Nat)(v:Value)(K:List CV)(q:PtD)(h:Pu w0 w p v K)(hs:Srt (K.map (·.1)))(hn:K.length≤4096)(hf:Xy q (K.map (·.1))=false) :
  Calls Tryz.prog 169 #[.pointer (some ⟨p,0,none⟩),.agg #[.int .i64 q.1,.int .i64 q.2]] w fun e w'=>e = .returned (.tuple #[zeroC,.bool false])∧Below w.heap.size w w':=by
 obtain⟨a,c,rfl,hC,hS⟩:=h.coins
 obtain⟨n,hn'⟩:∃ n,K.length=n:=⟨_,rfl⟩
 obtain⟨k,hk⟩:∃ k,pos q (K.map (·.1))=k:=⟨_,rfl⟩
 have hbox:=h.box
 rw[hn'] at hC hbox hn
 obtain⟨X,hX⟩:∃ X,X=(w.alloc (.cells #[.int .i64 q.1,.int .i64 q.2] 99)).alloc (.cells #[.int .i64 0,.int .i64 0,.int .i64 0,.slice none 0 0,.int .i64 0,.bool false] 103):=⟨_,rfl⟩
 have hbX:Below w.heap.size w X:=by rw[hX];exact Ze (Zg _ _) (Zg _ _)
 have hX1:X.heap[w.heap.size+1]? = some (.cells zeroCs.toArray 103 (0,0)):=by
  rw[hX]
  have:=heap_alloc_new (w.alloc (.cells #[.int .i64 q.1,.int .i64 q.2] 99)) (.cells zeroCs.toArray 103)
  rw[show (w.alloc (.cells #[.int .i64 q.1,.int .i64 q.2] 99)).heap.size=w.heap.size+1 by simp] at this
  exact this
 have x0:X.cell? ⟨w.heap.size,0,none⟩=some (.int .i64 q.1):=by rw[hX];exact Zc (Zg _ _) (Yg w _ _ _).1
 have x1:X.cell? ⟨w.heap.size,1,none⟩=some (.int .i64 q.2):=by rw[hX];exact Zc (Zg _ _) (Yg w _ _ _).2
 have xp:X.cell? ⟨p,0,none⟩=some (.slice a n c):=Zc hbX (Zd (X:=[.slice a n c]) hbox 0 _ rfl)
 have PL:=Zb (fun w' (hb:Below X.heap.size X w')=>Rj a n c (K.map (·.1)) q k false w' hs (by omega) ((hC.later hbX).later hb) hk hf)
 have HBX:=Zb hbX
 have HX1:=Zb hX1
 clear hk hf hC hS hs hbox hbX hX1 h hn'
 go_enter Tryz.func169,Tryz.ntmps169
 go_wp2_with fail
 rw[←hX]
 clear hX
 go_region_held3 (fun w'=>Below X.heap.size X w'∧w'.cell? ⟨w.heap.size,0,none⟩=some (.int .i64 q.1)∧w'.cell? ⟨w.heap.size,1,none⟩=some (.int .i64 q.2)∧w'.cell? ⟨p,0,none⟩=some (.slice a n c))
  (first
  | exact⟨Zh _,x0,x1,xp⟩
  | (go_split_ands;refine⟨Ze (by assumption) hbc,Zc hbc (by assumption),Zc hbc (by assumption),Zc hbc (by assumption)⟩))
  (first|(go_at_call 194;go_split_ands;refine ((Za PL) _ (by assumption)).mono ?_;rintro e w' ⟨rfl,hbc⟩))
 rename_i hH
 have hh:=(hH.1.block _ (lt_of_block (Za HX1))).trans (Za HX1)
 have HB:=Zb (Ze (Za HBX) hH.1)
 have f0:=Zi hh 0
 have f1:=Zi hh 1
 have f2:=Zi hh 2
 have f3:=Zi hh 3
 have f4:=Zi hh 4
 have f5:=Zi hh 5
 have c0:=Zd hh 0 _ rfl
 have c1:=Zd hh 1 _ rfl
 have c2:=Zd hh 2 _ rfl
 have c3:=Zd hh 3 _ rfl
 have c4:=Zd hh 4 _ rfl
 have c5:=Zd hh 5 _ rfl
 clear hh hH
 go_wp2
 (try simp only[Exit.inBlock,Exit.then])
 refine bodyPost_ret (v:=.tuple #[zeroC,.bool false]) ?_ rfl ⟨rfl,?_⟩
 ·rw[Zw rfl]
  unfold zeroC
  go_simp
 ·exact ((((((Za HB).setCell (Nat.le_succ _) _).setCell (Nat.le_succ _) _).setCell (Nat.le_succ _) _).setCell (Nat.le_succ _) _).setCell (Nat.le_succ _) _).setCell (Nat.le_succ _) _
theorem Rp{w:World}{p:Nat}{v u:Value}{t:TypeId}(h:w.heap[p]? = some (.cells #[v] t (0,0))):(w.setCell ⟨p,0,none⟩ u).heap[p]? = some (.cells #[u] t (0,0)):=by
 rw[setCell_eq_setRow w p 0 #[v] t (0,0) u h]
 exact setRow_heap w p _ _ t _ h
theorem Zjq(K:List CV)(k:Nat)(h:k<K.length):(K.map (·.1))[k]'(by simpa using h)=K[k].1:=by simp
theorem Qn(w:World)(a b c d e f:Value)(t:TypeId):(w.alloc (.cells #[a,b,c,d,e,f] t)).heap[w.heap.size]? = some (.cells [a,b,c,d,e,f].toArray t (0,0)):=heap_alloc_new w _
theorem Es(w0 w:World)(p:Nat)(v:Value)(K:List CV)(q:PtD)(h:Pu w0 w p v K)(hs:Srt (K.map (·.1)))(hn:K.length≤4096)(hf:Xy q (K.map (·.1))=true) :
  Calls Tryz.prog 169 #[.pointer (some ⟨p,0,none⟩),.agg #[.int .i64 q.1,.int .i64 q.2]] w fun e w'=>∃ (x:CV) (v':Value) (K':List CV),e = .returned (.tuple #[cnV x.1 x.2.1 x.2.2.1 x.2.2.2,.bool true])∧Wz q (K.map (·.1))=some (x.1,K'.map (·.1))∧x∈K∧(∀ y∈K',y∈K)∧K'.length+1=K.length ∧
   Pu w0 w' p v' K'∧Gr w w' (PuS p v)∧v'.ownBlock=v.ownBlock:=by
 have hO:=h.own
 obtain⟨k,hk⟩:∃ k,pos q (K.map (·.1))=k:=⟨_,rfl⟩
 have hp:=Cb (p:=q) hs
 rw[hf,hk] at hp
 have hp2:=Eq.symm hp
 rw[Bool.and_eq_true,decide_eq_true_eq,decide_eq_true_eq,List.length_map] at hp2
 obtain⟨hkl,hke⟩:=hp2
 have hke2:pt ((K.map (·.1))[k]'(by simpa using hkl))=q:=by
  rw[List.getElem?_eq_getElem (by simpa using hkl),Option.map_some,Option.some.injEq] at hke;exact hke
 have hT:=Zfg (p:=q) hs (by rw[hk];simpa using hkl) (by simp only[hk];exact hke2)
 simp only[hk] at hT
 rw[Zjq K k hkl,←List.map_take,←List.map_drop,←List.map_append] at hT
 obtain⟨a,c,rfl,hC,hS⟩:=h.coins
 obtain⟨g,rfl⟩:∃ g,a=some ⟨g,0,none⟩:=by
  rcases hO.2 with ⟨_,e⟩|⟨g,_,_,e,_⟩
  ·omega
  ·simp only[Value.slice.injEq] at e;exact⟨g,e.1⟩
 obtain⟨n,hn'⟩:∃ n,K.length=n:=⟨_,rfl⟩
 have hbox:=h.box
 have hgp:g≠p:=fun e=>h.ne (by rw[e];rfl)
 have hbg:w0.heap.size≤g:=Yx hO g rfl
 obtain⟨x,hx⟩:∃ x,K[k]=x:=⟨_,rfl⟩
 have hxm:x∈K:=by rw[←hx];exact List.getElem_mem hkl
 obtain⟨f0,f1,f2,f3,f4,f5⟩:=Qw K k hkl
 rw[hx] at f0 f1 f2 f3 f4 f5 hT
 rw[hn'] at hC hbox hn hkl hO
 have cg:∀ j u,j<n*6→(Zj K)[j]? = some u→w.cell? ⟨g,j,none⟩=some u:=fun j u hj hu=>by rw[World.ownsRow.cellAt hO j hj];exact hu
 obtain⟨X,hX⟩:∃ X,X=(w.alloc (.cells #[.int .i64 q.1,.int .i64 q.2] 99)).alloc (.cells #[.int .i64 0,.int .i64 0,.int .i64 0,.slice none 0 0,.int .i64 0,.bool false] 103):=⟨_,rfl⟩
 have hbX:Below w.heap.size w X:=by rw[hX];exact Ze (Zg _ _) (Zg _ _)
 have hX1:X.heap[w.heap.size+1]? = some (.cells zeroCs.toArray 103 (0,0)):=by
  rw[hX]
  have:=heap_alloc_new (w.alloc (.cells #[.int .i64 q.1,.int .i64 q.2] 99)) (.cells zeroCs.toArray 103)
  rw[show (w.alloc (.cells #[.int .i64 q.1,.int .i64 q.2] 99)).heap.size=w.heap.size+1 by simp] at this
  exact this
 have x0:X.cell? ⟨w.heap.size,0,none⟩=some (.int .i64 q.1):=by rw[hX];exact Zc (Zg _ _) (Yg w _ _ _).1
 have x1:X.cell? ⟨w.heap.size,1,none⟩=some (.int .i64 q.2):=by rw[hX];exact Zc (Zg _ _) (Yg w _ _ _).2
 have xp:X.cell? ⟨p,0,none⟩=some (.slice (some ⟨g,0,none⟩) n c):=Zc hbX (Zd (X:=[.slice (some ⟨g,0,none⟩) n c]) hbox 0 _ rfl)
 have PL:=Zb (fun w' (hb:Below X.heap.size X w')=>Rj (some ⟨g,0,none⟩) n c (K.map (·.1)) q k true w' hs (by omega) ((hC.later hbX).later hb) hk hf)
 have D0:=Zb (cg _ _ (by omega) f0)
 have D1:=Zb (cg _ _ (by omega) f1)
 have D2:=Zb (cg _ _ (by omega) f2)
 have D3:=Zb (cg _ _ (by omega) f3)
 have D4:=Zb (cg _ _ (by omega) f4)
 have D5:=Zb (cg _ _ (by omega) f5)
 have HBX:=Zb hbX
 have HX1:=Zb hX1
 have HO:=Zb hO
 have HT:=Zb hT
 have HP:=Zb h
 have HBOX:=Zb hbox
 have HXM:=Zb hxm
 have HN':=Zb hn'
 have hpw:p<w.heap.size:=h.lt
 have hgw:g<w.heap.size:=(hO.lt g rfl).2
 clear hk hf hC hS hs hbox hbX hX1 h hO hT hke hke2 hp f0 f1 f2 f3 f4 f5 cg hx hxm hn'
 go_enter Tryz.func169,Tryz.ntmps169
 go_wp2_with fail
 rw[←hX]
 clear hX
 go_region_held3 (fun w'=>Below X.heap.size X w'∧w'.cell? ⟨w.heap.size,0,none⟩=some (.int .i64 q.1)∧w'.cell? ⟨w.heap.size,1,none⟩=some (.int .i64 q.2)∧w'.cell? ⟨p,0,none⟩=some (.slice (some ⟨g,0,none⟩) n c))
  (first
  | exact⟨Zh _,x0,x1,xp⟩
  | (go_split_ands;refine⟨Ze (by assumption) hbc,Zc hbc (by assumption),Zc hbc (by assumption),Zc hbc (by assumption)⟩))
  (first|(go_at_call 194;go_split_ands;refine ((Za PL) _ (by assumption)).mono ?_;rintro e w' ⟨rfl,hbc⟩))
 rename_i hH
 have hb2:=Ze (Za HBX) hH.1
 have hh2:=(hH.1.block _ (lt_of_block (Za HX1))).trans (Za HX1)
 have d0:=Zc hb2 (Za D0)
 have d1:=Zc hb2 (Za D1)
 have d2:=Zc hb2 (Za D2)
 have d3:=Zc hb2 (Za D3)
 have d4:=Zc hb2 (Za D4)
 have d5:=Zc hb2 (Za D5)
 have xp2:=hH.2.2.2
 have hpl:=World.block_lt_of_cell? _ _ xp2
 have hkI:(k:Int)<(n:Int):=by omega
 have hw1:IntKind.i64.wrap ((k:Int)+1)=(k:Int)+1:=by rw[IntKind.wrap_i64];omega
 obtain⟨Y,hY⟩:∃ Y,Y=w'.alloc (.cells #[.int .i64 x.1.1,.int .i64 x.1.2.1,.int .i64 (cv x.1),.slice x.2.1 x.2.2.1 x.2.2.2,.int .i64 (ch x.1),.bool (cr x.1)] 103):=⟨_,rfl⟩
 have hbY:Below w'.heap.size w' Y:=by rw[hY];exact Zg _ _
 have hy:Y.heap[w'.heap.size]? = some (.cells [.int .i64 x.1.1,.int .i64 x.1.2.1,.int .i64 (cv x.1),.slice x.2.1 x.2.2.1 x.2.2.2,.int .i64 (ch x.1),.bool (cr x.1)].toArray 103 (0,0)):=by rw[hY];exact Qn _ _ _ _ _ _ _ _
 have hOY:Y.ownsRow w0.heap.size 103 6 (.slice (some ⟨g,0,none⟩) n c) n (Zj K):=(Gr.of (S:=fun _=>False) (Ze hb2 hbY)).own (Za HO) (fun _ _ q=>q)
 have DEL:=Mq w0.heap.size g n c k (k+1) K Y hkl rfl (Za HN') hOY
 rw[show ((k+1:Nat):Int)=(k:Int)+1 by omega] at DEL
 have HDEL:=Zb DEL
 have yp:=Zc hbY xp2
 have hpl2:=World.block_lt_of_cell? _ _ yp
 have HBY:=Zb (Ze hb2 hbY)
 have HHY:=Zb ((hbY.block _ (lt_of_block hh2)).trans hh2)
 have HY6:=Zb hy
 have hsw:w.heap.size+1<w'.heap.size:=lt_of_block hh2
 clear hH hbc hb2 hh2 xp x0 x1 hbY hy hOY DEL
 go_wp2_with fail
 rw[←hY]
 clear hY
 go_wp2_with fail
 refine (Za HDEL).mono ?_
 rintro e w4 ⟨rfl,hown4,hgr4⟩
 have hp4:=(hgr4.block p (by omega) (by simp;exact fun e=>hgp e.symm)).trans (((Za HBY).block p hpw).trans (Za HBOX))
 have hz4:=(hgr4.block (w.heap.size+1) (lt_of_block (Za HHY)) (by simp;omega)).trans (Za HHY)
 have hy4:=(hgr4.block w'.heap.size (lt_of_block (Za HY6)) (by simp;omega)).trans (Za HY6)
 have p4:=Zd (X:=[.slice (some ⟨g,0,none⟩) n c]) hp4 0 _ rfl
 have p4f:=Zi hp4 0
 have e0:=Zd hy4 0 _ rfl
 have e1:=Zd hy4 1 _ rfl
 have e2:=Zd hy4 2 _ rfl
 have e3:=Zd hy4 3 _ rfl
 have e4:=Zd hy4 4 _ rfl
 have e5:=Zd hy4 5 _ rfl
 have z0:=Zd hz4 0 _ rfl
 have z1:=Zd hz4 1 _ rfl
 have z2:=Zd hz4 2 _ rfl
 have z3:=Zd hz4 3 _ rfl
 have z4:=Zd hz4 4 _ rfl
 have z5:=Zd hz4 5 _ rfl
 have y0:=Zi hz4 0
 have y1:=Zi hz4 1
 have y2:=Zi hz4 2
 have y3:=Zi hz4 3
 have y4:=Zi hz4 4
 have y5:=Zi hz4 5
 have n1:¬(w'.heap.size=p):=by omega
 have n2:¬(p=w'.heap.size):=by omega
 have n3:¬(w.heap.size+1=p):=by omega
 have n4:¬(p=w.heap.size+1):=by omega
 have n5:¬(w'.heap.size=w.heap.size+1):=by omega
 have n6:¬(w.heap.size+1=w'.heap.size):=by omega
 have GA:Hid (Gr w w4 (PuS p (.slice (some ⟨g,0,none⟩) n c))):=(Gr.of (Za HBY)).grown hgr4 (fun k hk=>.inl (.inr hk))
 have GS:Hid (∀ k,PuS p (.slice (some ⟨g,0,none⟩) n c) k→w0.heap.size≤k):=fun k hk=>by
  rcases hk with rfl|hk
  ·exact (Za HP).ge
  ·cases hk;exact hbg
 have GO:Hid (∀ k,(Value.slice (some ⟨g,0,none⟩) (n - 1) c).ownBlock=some k→¬(k=p∨k=w.heap.size+1)):=fun k hk=>by
  cases hk
  rintro (e|e)
  ·exact hgp e
  ·have e2:g=w.heap.size+1:=e
   omega
 have HO4:=Zb hown4
 have HP4:=Zb hp4
 have hlt4:=lt_of_block hy4
 have hlt4p:p<w4.heap.size:=lt_of_block hp4
 clear hgr4 hown4 hp4 hz4 hy4 d0 d1 d2 d3 d4 d5 yp xp2
 go_wp2
 (try simp only[Exit.inBlock,Exit.then])
 refine bodyPost_ret (v:=.tuple #[cnV x.1 x.2.1 x.2.2.1 x.2.2.2,.bool true]) ?_ rfl ⟨x,.slice (some ⟨g,0,none⟩) (n - 1) c,K.take k++K.drop (k+1),rfl,Za HT,Za HXM,?_,?_,?_,?_,rfl⟩
 ·rw[Zw rfl]
  unfold cnV
  go_simp
 ·exact fun y hy=>(List.mem_append.1 hy).elim List.mem_of_mem_take List.mem_of_mem_drop
 ·have:=Za HN'
  simp only[List.length_append,List.length_take,List.length_drop]
  omega
 ·have hl:(K.take k++K.drop (k+1)).length=n - 1:=by
   have:=Za HN'
   simp only[List.length_append,List.length_take,List.length_drop]
   omega
  have hp:=Za HP
  refine⟨?_,hp.ge,?_,?_,fun e=>hgp (by cases e;rfl),fun y hy=>hp.lk y ((List.mem_append.1 hy).elim List.mem_of_mem_take List.mem_of_mem_drop)⟩
  ·exact (((Za GA).one p 0 (.inl (.inl rfl)) _).six (w.heap.size+1) (.inr (Nat.le_succ _)) _ _ _ _ _ _).below hp.bel hp.bel.size (Za GS)
  ·exact ((Gr.refl _ (fun k=>k=w.heap.size+1)).six (w.heap.size+1) (.inl rfl) _ _ _ _ _ _).heap (Rp (Za HP4)) n4
  ·rw[hl]
   exact (((Gr.refl w4 (fun k=>k=p∨k=w.heap.size+1)).one p 0 (.inl (.inl rfl)) _).six (w.heap.size+1) (.inl (.inr rfl)) _ _ _ _ _ _).own (Za HO4) (Za GO)
 ·exact ((Za GA).one p 0 (.inl (.inl rfl)) _).six (w.heap.size+1) (.inr (Nat.le_succ _)) _ _ _ _ _ _
abbrev Zk:=Int×Int×Int×Int×List TxD
def TxAt(w:World)(b o:Nat)(t:TxD):Prop:=
 w.cell? ⟨b,o,none⟩=some (.int .i64 t.1)∧(∃ a n c,w.cell? ⟨b,o+1,none⟩=some (.slice a n c)∧InsAt w a n t.2.1∧SlOk a n c)∧(∃ a n c,w.cell? ⟨b,o+2,none⟩=some (.slice a n c)∧OutsAt w a n t.2.2∧SlOk a n c)
theorem TxAt.kept:Dm TxAt:=fun _ _ _ _ _ hb h=>by
 obtain⟨h1,⟨a,n,c,h2,h3,h4⟩,a',n',c',h5,h6,h7⟩:=h
 exact⟨Zc hb h1,⟨a,n,c,Zc hb h2,h3.later hb,h4⟩,a',n',c',Zc hb h5,h6.later hb,h7⟩
def TxsAt(w:World)(a:Option Addr)(len:Nat)(l:List TxD):Prop:=RowsAt TxAt 3 w a len l
theorem TxsAt.later{w w':World}{a:Option Addr}{len:Nat}{l:List TxD}(h:TxsAt w a len l)(hb:Below w.heap.size w w'):TxsAt w' a len l:=RowsAt.later TxAt.kept h hb
def Xx(p h k n:Int):Bool:=(decide (0≤p) && decide (p≤120)) && ((decide (1≤h) && decide (h≤1000)) && ((decide (1≤k) && decide (k≤1000)) && (decide (0≤n) && decide (n≤1000000000))))
def Uh(t:TxD)(i h:Int):Bool:=if 0<i then !decide (t.2.1.length=0) else decide (t.2.1.length=0) && decide (t.1=h)
def Yr(h:Int):Nat→List TxD→Int
 | _,[]=>0
 | i,t :: r=>if Zo t≠0 then Zo t else if Uh t i h=false then 4 else Yr h (i+1) r
def Xb(b:Zk):Int:=if Xx b.1 b.2.1 b.2.2.1 b.2.2.2.1=false then 3 else if 4<b.2.2.2.2.length then 2 else if b.2.2.2.2.length=0 then 4 else Yr b.2.1 0 b.2.2.2.2
theorem Cw(h:Int)(T:List TxD)(k:Nat)(hk:k<T.length):Yr h k (T.drop k)=if Zo T[k]≠0 then Zo T[k] else if Uh T[k] k h=false then 4 else Yr h (k+1) (T.drop (k+1)):=by
 rw[List.drop_eq_getElem_cons hk];rfl
theorem Db(h:Int)(T:List TxD)(k:Nat)(hk:T.length≤k):Yr h k (T.drop k)=0:=by
 rw[List.drop_of_length_le hk];rfl
theorem Yd(w:World)(a b c d e:Value)(t:TypeId):(w.alloc (.cells #[a,b,c,d,e] t)).heap[w.heap.size]? = some (.cells [a,b,c,d,e].toArray t (0,0)):=heap_alloc_new w _
theorem Ys{fn:Func}{p:Tmp}{ty:TypeId}(h:fn.results=#[.cell p ty])(tmps:Array Value)(P:Program)(w:World) :
  (results fn tmps).run P w=((asAddr (tmps.getD p undef)).run P w).andThen fun a w₁=>(loadVar ty a).run P w₁:=by
 simp only[results,h]
 simp[Sem.run_bind,Result.andThen]
end Go.Proofs.YtpikejjiignchaaGreatDoor
