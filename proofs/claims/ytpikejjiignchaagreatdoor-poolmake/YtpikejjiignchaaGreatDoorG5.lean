import Derived.Test.YtpikejjiignchaaGreatDoorG4
set_option maxHeartbeats 3200000
set_option maxRecDepth 10000
namespace Go.Proofs.YtpikejjiignchaaGreatDoor
open Go.RowKit
theorem Tryz.zeroCoin(w:World):(zeroValue 103).run Tryz.prog w = .ok zeroC w:=by
 obtain⟨i0,hi,hz0,_,_⟩:=info_parts Tryz.infoCoin
 simp[zeroValue,typeInfo,hi,hz0]
def zeroCs:List Value:=[.int .i64 0,.int .i64 0,.int .i64 0,.slice none 0 0,.int .i64 0,.bool false]
theorem Zav:(Builtin.zeroCells zeroC.cells 1).toList=zeroCs:=by kernel_rfl
theorem Fq:∀ v∈zeroCs,v.oneCell'=true:=by
 intro v hv
 simp only[zeroCs,List.mem_cons,List.not_mem_nil,or_false] at hv
 rcases hv with rfl|rfl|rfl|rfl|rfl|rfl <;> rfl
theorem Zdy(X Z:List Value)(i n:Nat)(hi:i<n)(hX:n*6≤X.length) :
  (laid (laid X (i*6) ((X.take (n*6)).drop ((i+1)*6))) ((n - 1)*6) Z).take ((n - 1)*6)=(X.take (n*6)).take (i*6)++(X.take (n*6)).drop ((i+1)*6):=by
 have e1:((X.take (n*6)).drop ((i+1)*6)).length=(n - 1)*6 - i*6:=by simp;omega
 unfold laid
 rw[List.append_assoc,List.take_append_of_le_length (by simp;omega),List.take_of_length_le (by simp;omega)]
 rw[e1,show i*6+((n - 1)*6 - i*6)=(n - 1)*6 by omega,List.take_append_of_le_length (by rw[List.length_append,e1];simp;omega),List.take_of_length_le (by rw[List.length_append,e1];simp;omega),List.take_take,Nat.min_eq_left (by omega)]
theorem Ki(base g n c i j:Nat)(K:List CV)(w:World)(hi:i<n)(hj:j=i+1)(hz:K.length=n)(h:w.ownsRow base 103 6 (.slice (some ⟨g,0,none⟩) n c) n (Zj K)) :
  Calls Tryz.prog 136 #[.slice (some ⟨g,0,none⟩) n c,.int .i64 i,.int .i64 j] w fun e w'=>e = .returned (.slice (some ⟨g,0,none⟩) (n - 1) c)∧w'.ownsRow base 103 6 (.slice (some ⟨g,0,none⟩) (n - 1) c) (n - 1) (Zj (K.take i++K.drop (i+1)))∧w.grownBy w' (some g):=by
 obtain⟨i0,hi0,hz0,hz1,hz2⟩:=info_parts Tryz.infoCoin
 obtain⟨hlen,h|⟨g',c',cur,hv,hbg,hh,h1,h2,h3,h4⟩⟩:=h
 ·cases h.1
 simp only[Value.slice.injEq,Option.some.injEq,Addr.mk.injEq,and_true,true_and] at hv
 obtain⟨rfl,rfl⟩:=hv
 unfold maxLen at h2
 have hcur:cur.toList.length=c*6:=by simpa using h3
 obtain⟨news,hnews⟩:∃ news,news=(cur.toList.take (n*6)).drop ((i+1)*6):=⟨_,rfl⟩
 have hnl:news.length=(n - j)*6:=by rw[hnews];simp;omega
 have hone:∀ u∈news,u.oneCell'=true:=fun u hu=>by
  rw[hnews,h4] at hu
  exact Y6 K u (List.mem_of_mem_drop hu)
 obtain⟨A,hA,hsrc⟩:∃ A:Addr,(if c=j then some (⟨g,0,none⟩:Addr) else some ⟨g,j*6,none⟩)=some A∧Hid (∀ t u,news[t]? = some u→w.drew.cell? (A.add t)=some u):=by
  by_cases hc:c=j
  ·refine⟨⟨g,0,none⟩,by simp[hc],fun t u hu=>?_⟩
   have h0:news.length=0:=by rw[hnl];omega
   rw[List.length_eq_zero_iff.1 h0] at hu
   simp at hu
  ·refine⟨⟨g,j*6,none⟩,by simp[hc],fun t u hu=>?_⟩
   have ht:t<(n - j)*6:=by rw[←hnl];exact (List.getElem?_eq_some_iff.1 hu).1
   rw[hnews,List.getElem?_drop,List.getElem?_take_of_lt (by omega)] at hu
   rw[Addr.add_lit]
   show w.cell? _=_
   simp only[World.cell?,hh]
   rw[←hu,←hj]
   simp
 have h5:i*6+news.length≤cur.size:=by rw[hnl,h3];omega
 obtain⟨W1,hW1⟩:∃ W1,W1=w.drew.setRow g (laid cur.toList (i*6) news).toArray:=⟨_,rfl⟩
 have hh1:W1.heap[g]? = some (.cells (laid cur.toList (i*6) news).toArray 103 (0,0)):=by rw[hW1];exact setRow_heap w.drew g cur _ 103 (0,0) hh
 have hll:(laid cur.toList (i*6) news).length=c*6:=by rw[Ue _ _ _ (by simpa using h5),hcur]
 have hcl:∀ ty d,(Builtin.clear_ #[29] ty #[.slice (some ⟨g,(n - 1)*6,none⟩) 1 d]).run Tryz.prog W1 = .ok (.tuple #[]) (W1.setRow g (laid (laid cur.toList (i*6) news) ((n - 1)*6) zeroCs).toArray):=fun ty d=>by
  have:=Gn (P:=Tryz.prog) W1 29 103 ty zeroC Tryz.underlying29 Tryz.zeroCoin g ((n - 1)*6) 1 d 6 (laid cur.toList (i*6) news).toArray 103 zeroCs (by decide) Zav hh1 rfl (by simp[hll];omega) Fq
  simpa using this
 have hsn:i+(n - j)=n - 1:=by omega
 have R:Hid (W1.setRow g (laid (laid cur.toList (i*6) news) ((n - 1)*6) zeroCs).toArray |>.ownsRow base 103 6 (.slice (some ⟨g,0,none⟩) (n - 1) c) (n - 1) (Zj (K.take i++K.drop (i+1)))):=by
  refine⟨by rw[Zy];simp;omega,.inr ⟨g,c,(laid (laid cur.toList (i*6) news) ((n - 1)*6) zeroCs).toArray,rfl,hbg,setRow_heap _ g _ _ 103 (0,0) hh1,by omega,by unfold maxLen;omega,?_,?_⟩⟩
  ·rw[List.size_toArray,Ue _ _ _ (by rw[hll];simp[zeroCs];omega),hll]
  ·rw[hnews]
   show List.take _ (laid _ _ _)=_
   rw[Zdy cur.toList zeroCs i n hi (by rw[hcur];omega),h4,Zu,Vd,Ve]
 have G:Hid (w.grownBy (W1.setRow g (laid (laid cur.toList (i*6) news) ((n - 1)*6) zeroCs).toArray) (some g)):=by
  have e:W1.setRow g (laid (laid cur.toList (i*6) news) ((n - 1)*6) zeroCs).toArray=w.drew.setRow g (laid (laid cur.toList (i*6) news) ((n - 1)*6) zeroCs).toArray:=by rw[hW1,setRow_setRow]
  rw[e]
  refine⟨rfl,rfl,rfl,by simp[World.setRow],fun k hk hne=>?_⟩
  exact setRow_other w.drew g k _ (fun e=>hne (by rw[e]))
 have HCL:=Zb hcl
 have HW:=Zb hW1
 have hH1:=Zb hone
 have hH2:=Zb hnl
 have hH3:=Zb hh
 have hH5:=Zb h5
 have hic:i≤c:=by omega
 have hjc:j≤c:=by omega
 have hjn:j≤n:=by omega
 have hij:¬(i=j):=by omega
 have hne:¬(c=i+(n - j)):=by omega
 have hle:i+(n - j)≤n:=by omega
 have hle2:(i:Int)+((n - j:Nat):Int)≤(n:Int):=by omega
 have hij2:((i:Int) == (j:Int))=false:=by simp;omega
 clear hcl hW1 hone hnl hh h5 hh1 hll hnews h3 h4 hlen hcur hj hz
 go_enter Tryz.func136,Tryz.ntmps136
 go_wp2_with fail
 go_region_law (refine Rd rfl (.tmp 22) (.tmp 25) 29 rfl 103 i0 6 Tryz.underlying29 hi0 hz1 g i c (by simp[Act.eval,Act.put]) A (n - j) (c - j) news (by simp[Act.eval,Act.put]) (Za hH2) (Za hsrc) (Za hH1) (by omega) cur 103 (Za hH3) (Za hH5) ?_;rw[←Za HW])
 have hcl2:∀ ty d,(Builtin.clear_ #[29] ty #[.slice (some ⟨g,(n - 1)*6,none⟩) (n - (n - 1)) d]).run Tryz.prog W1 = .ok (.tuple #[]) (W1.setRow g (laid (laid cur.toList (i*6) news) ((n - 1)*6) zeroCs).toArray):=fun ty d=>by
  rw[show n - (n - 1)=1 by omega];exact (Za HCL) ty d
 go_wp2
 go_ret
 exact⟨rfl,Za R,Za G⟩
theorem Ya(y:CV):(Zj [y]).length=6:=Zy [y]
theorem Vr{w:World}{b:Nat}{X:List Value}{t:TypeId}(h:w.heap[b]? = some (.cells X.toArray t (0,0)))(j:Nat)(u:Value)(hj:X[j]? = some u):w.cell? ⟨b,j,none⟩=some u:=by
 simp only[World.cell?,h]
 simpa using hj
theorem Uf(ao:Option Addr)(n c vb:Nat)(K:List CV)(y:CV)(w:World)(hn:n≤4096)(hnc:n≤c)(hroom:c<n+1)(hz:K.length=n)(hnone:ao=none→n=0∧c=0)
  (hc:∀ b,ao=some b→∀ j u,(Zj K)[j]? = some u→w.cell? (b.add j)=some u) (hv:w.heap[vb]? = some (.cells (Zj [y]).toArray 103 (0,0))) :
  Calls Tryz.prog 197 #[.slice ao n c,.int .i64 n,.slice (some ⟨vb,0,none⟩) 1 1] w fun e w'=>∃ v',e = .returned v'∧w'.ownsRow w.heap.size 103 6 v' (n+1) (Zj (K++[y]))∧w.grownBy w' none:=by
 obtain⟨i0,hi0,hz0,hz1,hz2⟩:=info_parts Tryz.infoCoin
 have HC:=Zb hc
 have HZ:Hid ((Zj K).length=n*6):=by show _=_;rw[Zy,hz]
 have HN:=Zb hnone
 have HV:Hid (∀ j u,(Zj [y])[j]? = some u→w.cell? ((⟨vb,0,none⟩:Addr).add j)=some u):=fun j u hj=>by
  rw[Addr.add_lit,Nat.zero_add];exact Vr hv j u hj
 have H1:Hid ((Zj [y]).length=1*6):=Ya y
 clear hc hz hnone hv
 go_enter Tryz.func197,Tryz.ntmps197
 go_wp2_with (at_builtin;refine wpList_append_grows _ rfl _ _ 29 rfl 103 i0 zeroC 6 64 Tryz.underlying29 hi0 hz0 hz1 hz2 rfl (by decide) ao n c (Zj K) rfl (Za HN) (Za HZ) (Za HC) ⟨vb,0,none⟩ 1 1 (Zj [y]) rfl (Za H1) (Za HV) (Y6 [y]) hroom (by unfold maxLen;omega) (by omega) ?_;intro v2 w3 hown3 hgrow3)
 have HW:Hid (w3.ownsRow w.heap.size 103 6 v2 (n+1) (Zj (K++[y]))):=by rw[Zu];exact hown3
 have HG:=Zb hgrow3
 clear hown3 hgrow3
 go_wp2
 go_ret
 exact⟨v2,rfl,Za HW,Za HG⟩
theorem R6{P:Program}(w:World)(t ty e:TypeId)(i:TypeInfo)(size:Nat)(h1:P.underlying t=some (.slice e))(h2:P.info? e=some i)(h4:i.size=size)
  (b n cap:Nat) (ad:Addr) (m c:Nat) (news:List Value) (hn:news.length=m*size) (hc:∀ j u,news[j]? = some u→w.cell? (ad.add j)=some u) (h1c:∀ u∈news,u.oneCell'=true)
  (hroom:n+m≤cap) (cur:Array Value) (te:TypeId) (hrow:w.heap[b]? = some (.cells cur te (0,0))) (hfit:n*size+news.length≤cur.size) :
  (Builtin.append_ #[t,t] ty #[.slice (some ⟨b,0,none⟩) n cap,.slice (some ad) m c]).run P w = .ok (.slice (some ⟨b,0,none⟩) (n+m) cap) (w.setRow b (laid cur.toList (n*size) news).toArray):=by
 subst h4
 have hfc:=run_firstCells_some (P:=P) w i.size m ad m c news hn hc
 have hst:=run_storeCells_at P b (n*i.size) te news 0 cur w hrow (by simpa using hfit) h1c
 simp only[Nat.add_zero] at hst
 simp[Builtin.append_,run_underlying h1,sizeOf,typeInfo,h2,Builtin.lenOf,hroom,hfc,Addr.add_lit,hst,laid]
theorem Zfx(X Y:List Value)(n c:Nat)(h:n+1≤c)(hX:X.length=c*6)(hY:Y.length=6):(laid X (n*6) Y).take ((n+1)*6)=X.take (n*6)++Y:=by
 unfold laid
 rw[List.take_append_of_le_length (by simp;omega),List.take_of_length_le (by simp;omega)]
theorem Ha(base g n c vb:Nat)(K:List CV)(y:CV)(w:World)(hroom:n+1≤c)(hz:K.length=n)(h:w.ownsRow base 103 6 (.slice (some ⟨g,0,none⟩) n c) n (Zj K))(hv:w.heap[vb]? = some (.cells (Zj [y]).toArray 103 (0,0))) :
  Calls Tryz.prog 197 #[.slice (some ⟨g,0,none⟩) n c,.int .i64 n,.slice (some ⟨vb,0,none⟩) 1 1] w fun e w'=>e = .returned (.slice (some ⟨g,0,none⟩) (n+1) c)∧w'.ownsRow base 103 6 (.slice (some ⟨g,0,none⟩) (n+1) c) (n+1) (Zj (K++[y]))∧w.grownBy w' (some g):=by
 obtain⟨i0,hi0,hz0,hz1,hz2⟩:=info_parts Tryz.infoCoin
 obtain⟨hlen,h|⟨g',c',cur,hv',hbg,hh,h1,h2,h3,h4⟩⟩:=h
 ·cases h.1
 simp only[Value.slice.injEq,Option.some.injEq,Addr.mk.injEq,and_true,true_and] at hv'
 obtain⟨rfl,rfl⟩:=hv'
 unfold maxLen at h2
 have hcur:cur.toList.length=c*6:=by simpa using h3
 have HR:Hid (∀ ty,(Builtin.append_ #[29,29] ty #[.slice (some ⟨g,0,none⟩) n c,.slice (some ⟨vb,0,none⟩) 1 1]).run Tryz.prog w = .ok (.slice (some ⟨g,0,none⟩) (n+1) c) (w.setRow g (laid cur.toList (n*6) (Zj [y])).toArray)):=fun ty=>
  R6 w 29 ty 103 i0 6 Tryz.underlying29 hi0 hz1 g n c ⟨vb,0,none⟩ 1 1 (Zj [y]) (Ya y) (fun j u hj=>by rw[Addr.add_lit,Nat.zero_add];exact Vr hv j u hj) (Y6 [y]) hroom cur 103 hh (by rw[Ya,h3];omega)
 have R:Hid ((w.setRow g (laid cur.toList (n*6) (Zj [y])).toArray).ownsRow base 103 6 (.slice (some ⟨g,0,none⟩) (n+1) c) (n+1) (Zj (K++[y]))):=by
  refine⟨by rw[Zy];simp;omega,.inr ⟨g,c,(laid cur.toList (n*6) (Zj [y])).toArray,rfl,hbg,setRow_heap _ g _ _ 103 (0,0) hh,hroom,by unfold maxLen;omega,?_,?_⟩⟩
  ·rw[List.size_toArray,Ue _ _ _ (by rw[hcur,Ya];omega),hcur]
  ·show List.take _ (laid _ _ _)=_
   rw[Zfx _ _ n c hroom hcur (Ya y),h4,Zu]
 have G:Hid (w.grownBy (w.setRow g (laid cur.toList (n*6) (Zj [y])).toArray) (some g)):=
  ⟨rfl,rfl,rfl,by simp[World.setRow],fun k hk hne=>setRow_other w g k _ (fun e=>hne (by rw[e]))⟩
 clear hh h3 h4 hlen hcur hz hv
 go_enter Tryz.func197,Tryz.ntmps197
 go_wp2_with (at_builtin;refine Vv _ rfl _ _ 29 29 rfl _ _ rfl rfl ((Za HR) _) ?_)
 go_wp2
 go_ret
 exact⟨rfl,Za R,Za G⟩
theorem Zfw(X Y:List Value)(i n c:Nat)(hi:i<n)(h:n+1≤c)(hX:X.length=c*6)(hY:Y.length=6) :
  (laid (laid X ((i+1)*6) ((X.take (n*6)).drop (i*6))) (i*6) Y).take ((n+1)*6)=(X.take (n*6)).take (i*6)++(Y++(X.take (n*6)).drop (i*6)):=by
 have e1:((X.take (n*6)).drop (i*6)).length=n*6 - i*6:=by simp;omega
 obtain⟨Z,hZ⟩:∃ Z,Z=(X.take (n*6)).drop (i*6):=⟨_,rfl⟩
 rw[←hZ] at e1 ⊢
 have e2:(laid X ((i+1)*6) Z).take (i*6)=X.take (i*6):=by
  unfold laid
  rw[List.append_assoc,List.take_append_of_le_length (by simp;omega),List.take_take,Nat.min_eq_left (by omega)]
 have e3:(laid X ((i+1)*6) Z).drop (i*6+6)=Z++X.drop ((i+1)*6+Z.length):=by
  unfold laid
  rw[List.append_assoc,show i*6+6=(i+1)*6 by omega,List.drop_append_of_le_length (by simp;omega),List.drop_of_length_le (by rw[List.length_take];omega),List.nil_append]
 rw[show laid (laid X ((i+1)*6) Z) (i*6) Y=X.take (i*6)++Y++(Z++X.drop ((i+1)*6+Z.length)) by unfold laid at e2 e3 ⊢;rw[hY,e2,e3]]
 rw[←List.append_assoc,List.take_append_of_le_length (by simp[e1,hY];omega),List.take_of_length_le (by simp[e1,hY];omega),List.take_take,Nat.min_eq_left (by omega),List.append_assoc]
theorem Lo(K:List CV)(y:CV)(i:Nat):Zj (K.take i++y :: K.drop i)=(Zj K).take (i*6)++(Zj [y]++(Zj K).drop (i*6)):=by
 rw[Vd,Ve,Zu,show y :: K.drop i=[y]++K.drop i from rfl,Zu]
theorem Se(base g n c i vb:Nat)(K:List CV)(y:CV)(w:World)(hi:i<n)(hroom:n+1≤c)(hz:K.length=n)(h:w.ownsRow base 103 6 (.slice (some ⟨g,0,none⟩) n c) n (Zj K))(hv:w.heap[vb]? = some (.cells (Zj [y]).toArray 103 (0,0)))(hne:vb≠g) :
  Calls Tryz.prog 197 #[.slice (some ⟨g,0,none⟩) n c,.int .i64 i,.slice (some ⟨vb,0,none⟩) 1 1] w fun e w'=>e = .returned (.slice (some ⟨g,0,none⟩) (n+1) c)∧w'.ownsRow base 103 6 (.slice (some ⟨g,0,none⟩) (n+1) c) (n+1) (Zj (K.take i++y :: K.drop i))∧w.grownBy w' (some g):=by
 obtain⟨i0,hi0,hz0,hz1,hz2⟩:=info_parts Tryz.infoCoin
 obtain⟨hlen,h|⟨g',c',cur,hv',hbg,hh,h1,h2,h3,h4⟩⟩:=h
 ·cases h.1
 simp only[Value.slice.injEq,Option.some.injEq,Addr.mk.injEq,and_true,true_and] at hv'
 obtain⟨rfl,rfl⟩:=hv'
 unfold maxLen at h2
 have hcur:cur.toList.length=c*6:=by simpa using h3
 have hsz:(Tryz.prog.info? 103).map (·.size)=some 6:=by rw[hi0];simp[hz1]
 have hov:∀ lb cb,(callFunc 233 #[.slice (some ⟨vb,0,none⟩) 1 1,.slice (some ⟨g,(i+1)*6,none⟩) lb cb]).run Tryz.prog w = .ok (.value (.bool false)) w:=fun lb cb=>by
  rw[run_callFunc_extern Tryz.func233 (by kernel_rfl) (by kernel_rfl) (by kernel_rfl) (e:=Extern.SlicesOverlaps.overlaps #[29,29] #[4]) (by kernel_rfl),
   Lib.run_overlaps_apart w 29 4 103 Tryz.underlying29 6 Tryz.sizeOf103 ⟨vb,0,none⟩ ⟨g,(i+1)*6,none⟩ 1 1 lb cb hne 103 103 6 (c*6) (by simp[World.shape?,hv,Ya]) (by simp[World.shape?,hh,h3]) (by omega) (by simp[World.frozen?,hv]) (by simp[World.frozen?,hv])]
  rfl
 obtain⟨Z,hZ⟩:∃ Z,Z=(cur.toList.take (n*6)).drop (i*6):=⟨_,rfl⟩
 have hZl:Z.length=(n - i)*6:=by rw[hZ];simp;omega
 have hZ1:∀ u∈Z,u.oneCell'=true:=fun u hu=>by
  rw[hZ,h4] at hu
  exact Y6 K u (List.mem_of_mem_drop hu)
 obtain⟨W1,hW1⟩:∃ W1,W1=w.drew.setRow g (laid cur.toList ((i+1)*6) Z).toArray:=⟨_,rfl⟩
 have hh1:W1.heap[g]? = some (.cells (laid cur.toList ((i+1)*6) Z).toArray 103 (0,0)):=by rw[hW1];exact setRow_heap w.drew g cur _ 103 (0,0) hh
 have hll:(laid cur.toList ((i+1)*6) Z).length=c*6:=by rw[Ue _ _ _ (by rw[hcur,hZl];omega),hcur]
 have hcp1:∀ ty dc sc,(Builtin.copy_ #[29,29] ty #[.slice (some ⟨g,(i+1)*6,none⟩) (n - i) dc,.slice (some ⟨g,i*6,none⟩) (n+1 - i) sc]).run Tryz.prog w.drew = .ok (goInt (n - i)) W1:=fun ty dc sc=>by
  have:=Vh (P:=Tryz.prog) w.drew 29 29 ty 103 g ((i+1)*6) (n - i) dc ⟨g,i*6,none⟩ (n+1 - i) sc 6 cur 103 Z Tryz.underlying29 hsz hh (by rw[hZl];simp only[Nat.min_def];split <;> omega)
   (fun j u hj=>by
    have ht:j<(n - i)*6:=by rw[←hZl];exact (List.getElem?_eq_some_iff.1 hj).1
    rw[hZ,List.getElem?_drop,List.getElem?_take_of_lt (by omega)] at hj
    rw[Addr.add_lit]
    show w.cell? _=_
    simp only[World.cell?,hh]
    rw[←hj]
    simp) (by rw[hZl,h3];omega) hZ1
  rw[this,hW1]
  congr 1
  simp only[Nat.min_def];split <;> (congr 1;omega)
 have hm:Nat.min 1 (n+1 - i)=1:=by simp only[Nat.min_def];split <;> omega
 have hcp2:∀ ty dc,(Builtin.copy_ #[29,29] ty #[.slice (some ⟨g,i*6,none⟩) (n+1 - i) dc,.slice (some ⟨vb,0,none⟩) 1 1]).run Tryz.prog W1 = .ok (goInt 1) (W1.setRow g (laid (laid cur.toList ((i+1)*6) Z) (i*6) (Zj [y])).toArray):=fun ty dc=>by
  have hv1:W1.heap[vb]? = some (.cells (Zj [y]).toArray 103 (0,0)):=by rw[hW1,setRow_other _ _ _ _ hne];exact hv
  have:=Vh (P:=Tryz.prog) W1 29 29 ty 103 g (i*6) (n+1 - i) dc ⟨vb,0,none⟩ 1 1 6 (laid cur.toList ((i+1)*6) Z).toArray 103 (Zj [y]) Tryz.underlying29 hsz hh1 (by rw[Ya,hm])
   (fun j u hj=>by rw[Addr.add_lit,Nat.zero_add];exact Vr hv1 j u hj) (by rw[Ya,List.size_toArray,hll];omega) (Y6 [y])
  rw[this,hm]
  rfl
 have R:Hid ((W1.setRow g (laid (laid cur.toList ((i+1)*6) Z) (i*6) (Zj [y])).toArray).ownsRow base 103 6 (.slice (some ⟨g,0,none⟩) (n+1) c) (n+1) (Zj (K.take i++y :: K.drop i))):=by
  refine⟨by rw[Zy];simp;omega,.inr ⟨g,c,(laid (laid cur.toList ((i+1)*6) Z) (i*6) (Zj [y])).toArray,rfl,hbg,setRow_heap _ g _ _ 103 (0,0) hh1,hroom,by unfold maxLen;omega,?_,?_⟩⟩
  ·rw[List.size_toArray,Ue _ _ _ (by rw[hll,Ya];omega),hll]
  ·show List.take _ (laid _ _ _)=_
   rw[hZ,Zfw _ _ i n c hi hroom hcur (Ya y),h4,Lo]
 have G:Hid (w.grownBy (W1.setRow g (laid (laid cur.toList ((i+1)*6) Z) (i*6) (Zj [y])).toArray) (some g)):=by
  have e:W1.setRow g (laid (laid cur.toList ((i+1)*6) Z) (i*6) (Zj [y])).toArray=w.drew.setRow g (laid (laid cur.toList ((i+1)*6) Z) (i*6) (Zj [y])).toArray:=by rw[hW1,setRow_setRow]
  rw[e]
  exact⟨rfl,rfl,rfl,by simp[World.setRow],fun k hk hne=>setRow_other w.drew g k _ (fun e=>hne (by rw[e]))⟩
 have hin:i≤n:=by omega
 have hb0:(0:Int)≤(i:Int)+1:=by omega
 have hic:i≤c:=by omega
 have h9:¬((i:Int)=(n:Int)):=by omega
 have hb2:¬(c=i+1):=by omega
 have hb4:¬(c=i):=by omega
 have hw1:IntKind.i64.wrap ((i:Int)+1)=(i:Int)+1:=by rw[IntKind.wrap_i64];omega
 have hw2:IntKind.i64.wrap ((n:Int)+1)=(n:Int)+1:=by rw[IntKind.wrap_i64];omega
 have htn:((i:Int)+1).toNat=i+1:=by omega
 have htn2:((n:Int)+1).toNat=n+1:=by omega
 have hb3:(i:Int)≤(n:Int)+1:=by omega
 have hb5:(i:Int)+1≤(n:Int)+1:=by omega
 have hb6:(n:Int)+1≤(c:Int):=by omega
 have hb7:¬((c:Int)<(n:Int)+1):=by omega
 clear hW1 hh1 hll hh h3 h4 hlen hcur hz hv hZ hZl hZ1
 go_enter Tryz.func197,Tryz.ntmps197
 go_wp2_with (simp only[hov])
 go_region
 go_wp2
 go_ret
 exact⟨rfl,Za R,Za G⟩
theorem Zfv(X Y Z O:List Value)(i n C:Nat)(hi:i<n)(hC:n+1≤C)(hX:X.length=C*6)(hO:X.take (i*6)=O)(hY:Y.length=6)(hZ:Z.length=(n - i)*6) :
  (laid (laid X (i*6) Y) ((i+1)*6) Z).take ((n+1)*6)=O++(Y++Z):=by
 have e2:(laid X (i*6) Y).take ((i+1)*6)=O++Y:=by
  unfold laid
  rw[List.take_append_of_le_length (by simp;omega),List.take_of_length_le (by simp;omega),hO]
 rw[show laid (laid X (i*6) Y) ((i+1)*6) Z=O++Y++Z++(laid X (i*6) Y).drop ((i+1)*6+Z.length) by rw[←e2];rfl]
 have hOl:O.length=i*6:=by rw[←hO,List.length_take];omega
 rw[List.take_append_of_le_length (by simp;omega),List.take_of_length_le (by simp;omega),List.append_assoc]
theorem Py(base g n c i vb:Nat)(K:List CV)(y:CV)(w:World)(hi:i<n)(hn:n≤4096)(hroom:c<n+1)(hz:K.length=n)(h:w.ownsRow base 103 6 (.slice (some ⟨g,0,none⟩) n c) n (Zj K))(hv:w.heap[vb]? = some (.cells (Zj [y]).toArray 103 (0,0))) :
  Calls Tryz.prog 197 #[.slice (some ⟨g,0,none⟩) n c,.int .i64 i,.slice (some ⟨vb,0,none⟩) 1 1] w fun e w'=>∃ v',e = .returned v'∧w'.ownsRow w.heap.size 103 6 v' (n+1) (Zj (K.take i++y :: K.drop i))∧w.grownBy w' none:=by
 obtain⟨i0,hi0,hz0,hz1,hz2⟩:=info_parts Tryz.infoCoin
 obtain⟨hlen,h|⟨g',c',cur,hv',hbg,hh,h1,h2,h3,h4⟩⟩:=h
 ·cases h.1
 simp only[Value.slice.injEq,Option.some.injEq,Addr.mk.injEq,and_true,true_and] at hv'
 obtain⟨rfl,rfl⟩:=hv'
 unfold maxLen at h2
 have hcur:cur.toList.length=c*6:=by simpa using h3
 have hsz:(Tryz.prog.info? 103).map (·.size)=some 6:=by rw[hi0];simp[hz1]
 have hlt:g<w.heap.size:=lt_of_block hh
 have hltv:vb<w.heap.size:=lt_of_block hv
 obtain⟨k,hk⟩:∃ k,k=n+1 - i:=⟨_,rfl⟩
 have hik:i+k=n+1:=by omega
 obtain⟨O,hO⟩:∃ O,O=Zj (K.take i):=⟨_,rfl⟩
 have hOl:O.length=i*6:=by rw[hO,Zy,List.length_take];omega
 have hcell:∀ j u,(Zj K)[j]? = some u→w.cell? ⟨g,j,none⟩=some u:=fun j u hj=>by
  have hjl:j<n*6:=by rw[←hlen];exact (List.getElem?_eq_some_iff.1 hj).1
  rw[←h4,List.getElem?_take_of_lt hjl] at hj
  simp only[World.cell?,hh]
  simpa using hj
 obtain⟨C,hC⟩:∃ C,C=grownCap w (i+k) c 103:=⟨_,rfl⟩
 have hCge:n+1≤C:=by rw[hC,←hik];exact grownCap_ge w (i+k) c 103
 have hCle:C≤maxLen:=by rw[hC];exact grownCap_le_maxLen w (i+k) c 103 (by unfold maxLen;omega)
 obtain⟨X,hX⟩:∃ X,X=(O.toArray++Builtin.zeroCells zeroC.cells k++Builtin.zeroCells zeroC.cells (C - (i+k))):=⟨_,rfl⟩
 have hXs:X.size=C*6:=by
  rw[hX]
  have:zeroC.cells.size=6:=rfl
  simp only[Array.size_append,List.size_toArray,size_zeroCells,this,hOl]
  omega
 have hXl:X.toList.length=C*6:=by simpa using hXs
 have hXO:X.toList.take (i*6)=O:=by
  rw[hX,←hOl]
  simp
 obtain⟨W0,hW0⟩:∃ W0,W0=w.drew.alloc (.cells X 103):=⟨_,rfl⟩
 have hap:∀ ty,(Builtin.append_ #[29,3] ty #[.slice (some ⟨g,0,none⟩) i c,.int .i64 k]).run Tryz.prog w = .ok (.slice (some ⟨w.heap.size,0,none⟩) (n+1) C) W0:=fun ty=>by
  have:=Lib.run_append_grow_zeros (P:=Tryz.prog) w 29 3 ty 103 i0 zeroC .i64 .i64 Tryz.underlying29 Tryz.underlying3 hi0 hz0 (some ⟨g,0,none⟩) i c O
   (run_firstCells_some (P:=Tryz.prog) w.drew i0.size i ⟨g,0,none⟩ i c O (by rw[hOl,hz1]) (fun j u hj=>by
    rw[Addr.add_lit,Nat.zero_add]
    have hjl:j<i*6:=by rw[←hOl];exact (List.getElem?_eq_some_iff.1 hj).1
    rw[hO,←Vd,List.getElem?_take_of_lt hjl] at hj
    exact hcell j u hj))
   k (by omega) (by rw[hz1];decide) (by omega) (by omega) (by rw[hz2];omega) (growslice_fits (by omega) (by rw[hz2];omega))
  rw[this,hW0,hX,hC,hik]
 have hh0:W0.heap[w.heap.size]? = some (.cells X 103 (0,0)):=by rw[hW0];exact heap_alloc_new w.drew _
 obtain⟨W1,hW1⟩:∃ W1,W1=W0.setRow w.heap.size (laid X.toList (i*6) (Zj [y])).toArray:=⟨_,rfl⟩
 have hh1:W1.heap[w.heap.size]? = some (.cells (laid X.toList (i*6) (Zj [y])).toArray 103 (0,0)):=by rw[hW1];exact setRow_heap W0 _ _ _ 103 (0,0) hh0
 have hl1:(laid X.toList (i*6) (Zj [y])).length=C*6:=by rw[Ue _ _ _ (by rw[hXl,Ya];omega),hXl]
 have hm:Nat.min 1 (n+1 - i)=1:=by simp only[Nat.min_def];split <;> omega
 have hm2:Nat.min (n - i) (n - i)=n - i:=by simp only[Nat.min_def];split <;> omega
 have hcp1:∀ ty dc,(Builtin.copy_ #[29,29] ty #[.slice (some ⟨w.heap.size,i*6,none⟩) (n+1 - i) dc,.slice (some ⟨vb,0,none⟩) 1 1]).run Tryz.prog W0 = .ok (goInt 1) W1:=fun ty dc=>by
  have hv1:W0.heap[vb]? = some (.cells (Zj [y]).toArray 103 (0,0)):=by rw[hW0,Below.heap_alloc w.drew _ vb hltv];exact hv
  have:=Vh (P:=Tryz.prog) W0 29 29 ty 103 w.heap.size (i*6) (n+1 - i) dc ⟨vb,0,none⟩ 1 1 6 X 103 (Zj [y]) Tryz.underlying29 hsz hh0 (by rw[Ya,hm])
   (fun j u hj=>by rw[Addr.add_lit,Nat.zero_add];exact Vr hv1 j u hj) (by rw[Ya,hXs];omega) (Y6 [y])
  rw[this,hm,hW1]
  rfl
 obtain⟨Z,hZ⟩:∃ Z,Z=Zj (K.drop i):=⟨_,rfl⟩
 have hZl:Z.length=(n - i)*6:=by rw[hZ,Zy,List.length_drop,hz]
 obtain⟨W2,hW2⟩:∃ W2,W2=W1.drew.setRow w.heap.size (laid (laid X.toList (i*6) (Zj [y])) ((i+1)*6) Z).toArray:=⟨_,rfl⟩
 have hcp2:∀ ty dc sc,(Builtin.copy_ #[29,29] ty #[.slice (some ⟨w.heap.size,(i+1)*6,none⟩) (n - i) dc,.slice (some ⟨g,i*6,none⟩) (n - i) sc]).run Tryz.prog W1.drew = .ok (goInt ((n - i:Nat):Int)) W2:=fun ty dc sc=>by
  have:=Vh (P:=Tryz.prog) W1.drew 29 29 ty 103 w.heap.size ((i+1)*6) (n - i) dc ⟨g,i*6,none⟩ (n - i) sc 6 (laid X.toList (i*6) (Zj [y])).toArray 103 Z Tryz.underlying29 hsz hh1 (by rw[hZl,hm2])
   (fun j u hj=>by
    rw[Addr.add_lit]
    show W1.cell? _=_
    have hb1:W1.heap[g]? = w.heap[g]?:=by rw[hW1,setRow_other _ _ _ _ (by omega),hW0,Below.heap_alloc w.drew _ g hlt];rfl
    rw[World.cell?_of_block (a:=⟨g,i*6+j,none⟩) hb1]
    exact hcell _ u (by rw[hZ,←Ve,List.getElem?_drop] at hj;exact hj)) (by rw[hZl,List.size_toArray,hl1];omega) (fun u hu=>Y6 _ u (by rw[hZ] at hu;exact hu))
  rw[this,hm2,hW2]
 have R:Hid (W2.ownsRow w.heap.size 103 6 (.slice (some ⟨w.heap.size,0,none⟩) (n+1) C) (n+1) (Zj (K.take i++y :: K.drop i))):=by
  refine⟨by rw[Zy];simp;omega,.inr ⟨w.heap.size,C,(laid (laid X.toList (i*6) (Zj [y])) ((i+1)*6) Z).toArray,rfl,Nat.le_refl _,by rw[hW2];exact setRow_heap W1.drew _ _ _ 103 (0,0) hh1,hCge,hCle,?_,?_⟩⟩
  ·rw[List.size_toArray,Ue _ _ _ (by rw[hl1,hZl];omega),hl1]
  ·show List.take _ (laid _ _ _)=_
   rw[Zfv X.toList (Zj [y]) Z O i n C hi hCge hXl hXO (Ya y) hZl,Lo,Vd,Ve,hO,hZ]
 have G:Hid (w.grownBy W2 none):=by
  refine⟨by rw[hW2,hW1,hW0];rfl,by rw[hW2,hW1,hW0];rfl,by rw[hW2,hW1,hW0];rfl,by rw[hW2,hW1,hW0];simp[World.setRow],fun q hq _=>?_⟩
  rw[hW2,setRow_other _ _ _ _ (by omega)]
  show W1.heap[q]? = _
  rw[hW1,setRow_other _ _ _ _ (by omega),hW0,Below.heap_alloc w.drew _ q hq]
  rfl
 have hin:i≤n:=by omega
 have hic:i≤c:=by omega
 have h9:¬((i:Int)=(n:Int)):=by omega
 have hb0:(0:Int)≤(i:Int)+1:=by omega
 have hb2:¬(C=i+1):=by omega
 have hb4:¬(C=i):=by omega
 have hb8:¬(c=i):=by omega
 have hw1:IntKind.i64.wrap ((i:Int)+1)=(i:Int)+1:=by rw[IntKind.wrap_i64];omega
 have hw2:IntKind.i64.wrap ((n:Int)+1)=(n:Int)+1:=by rw[IntKind.wrap_i64];omega
 have hw3:IntKind.i64.wrap ((n:Int)+1 - (i:Int))=(k:Int):=by rw[IntKind.wrap_i64];omega
 have htn:((i:Int)+1).toNat=i+1:=by omega
 have hb5:(i:Int)+1≤(n:Int)+1:=by omega
 have hb3:(i:Int)≤(n:Int)+1:=by omega
 have hb7:(c:Int)<(n:Int)+1:=by omega
 have HAP:=Zb hap
 clear hap hW0 hW1 hW2 hh0 hh1 hl1 hh h3 h4 hlen hcur hz hv hZ hZl hX hXs hXl hXO hO hOl hC hcell hk
 go_enter Tryz.func197,Tryz.ntmps197
 go_wp2_with (at_builtin;refine Vv _ rfl _ _ 29 3 rfl _ _ rfl rfl ((Za HAP) _) ?_)
 go_wp2
 go_region
 go_wp2
 go_ret
 exact⟨_,rfl,Za R,Za G⟩
theorem Wv{w:World}{base base':Nat}{e:TypeId}{size:Nat}{v:Value}{n:Nat}{xs:List Value}(h:w.ownsRow base' e size v n xs)(hb:base≤base'):w.ownsRow base e size v n xs:=by
 obtain⟨hl,h0|⟨g,cap,cur,hv,hg,r⟩⟩:=h
 ·exact⟨hl,.inl h0⟩
 ·exact⟨hl,.inr ⟨g,cap,cur,hv,Nat.le_trans hb hg,r⟩⟩
theorem Sf{w w':World}{row:Option Nat}(h:w.grownBy w' none):w.grownBy w' row:=⟨h.os,h.tape,h.output,h.size,fun k hk _=>h.block k hk (by simp)⟩
theorem Hb(base:Nat)(a:Option Addr)(n c i vb:Nat)(K:List CV)(y:CV)(w:World)(hi:i≤n)(hn:n≤4096)(hz:K.length=n)(hbase:base≤w.heap.size)(h:w.ownsRow base 103 6 (.slice a n c) n (Zj K))(hv:w.heap[vb]? = some (.cells (Zj [y]).toArray 103 (0,0)))
  (hne:(Value.slice a n c).ownBlock≠some vb) :
  Calls Tryz.prog 197 #[.slice a n c,.int .i64 i,.slice (some ⟨vb,0,none⟩) 1 1] w fun e w'=>∃ v',e = .returned v'∧w'.ownsRow base 103 6 v' (n+1) (Zj (K.take i++y :: K.drop i))∧w.grownBy w' (Value.slice a n c).ownBlock∧(v'.ownBlock=(Value.slice a n c).ownBlock∨∀ k,v'.ownBlock=some k→w.heap.size≤k):=by
 have hO:=h
 rcases h.2 with ⟨e,h0⟩|⟨g,c',cur,hv',hbg,hh,h1,h2,h3,h4⟩
 ·simp only[Value.slice.injEq] at e
  obtain⟨rfl,rfl,rfl⟩:=e
  obtain rfl:i=0:=by omega
  have eK:K=[]:=List.length_eq_zero_iff.1 hz
  subst eK
  refine (Uf none 0 0 vb [] y w hn (Nat.le_refl _) (by omega) rfl (fun _=>⟨rfl,rfl⟩) (fun b hb=>by cases hb) hv).mono ?_
  rintro e w' ⟨v',rfl,x,z⟩
  exact⟨v',rfl,Wv x hbase,Sf z,.inr fun k hk=>Yk x k hk⟩
 ·simp only[Value.slice.injEq] at hv'
  obtain⟨rfl,_,rfl⟩:=hv'
  have hgv:vb≠g:=fun e=>hne (by rw[e];rfl)
  by_cases hin:i=n
  ·subst hin
   by_cases hr:i+1≤c
   ·refine (Ha base g i c vb K y w hr hz hO hv).mono ?_
    rintro e w' ⟨rfl,x,z⟩
    exact⟨_,rfl,by rw[←hz,List.take_length,List.drop_length,hz];exact x,z,.inl rfl⟩
   ·refine (Uf (some ⟨g,0,none⟩) i c vb K y w hn h1 (by omega) hz (fun e=>by cases e) (fun b hb j u hj=>?_) hv).mono ?_
    ·cases hb
     rw[Addr.add_lit,Nat.zero_add]
     have hjl:j<i*6:=by rw[←hO.1];exact (List.getElem?_eq_some_iff.1 hj).1
     rw[World.ownsRow.cellAt hO j hjl];exact hj
    ·rintro e w' ⟨v',rfl,x,z⟩
     exact⟨v',rfl,by rw[←hz,List.take_length,List.drop_length,hz];exact Wv x hbase,Sf z,.inr fun k hk=>Yk x k hk⟩
  ·by_cases hr:n+1≤c
   ·refine (Se base g n c i vb K y w (by omega) hr hz hO hv hgv).mono ?_
    rintro e w' ⟨rfl,x,z⟩
    exact⟨_,rfl,x,z,.inl rfl⟩
   ·refine (Py base g n c i vb K y w (by omega) hn (by omega) hz hO hv).mono ?_
    rintro e w' ⟨v',rfl,x,z⟩
    exact⟨v',rfl,Wv x hbase,Sf z,.inr fun k hk=>Yk x k hk⟩
structure Gr(w w':World)(S:Nat→Prop):Prop where
 os:w'.os=w.os
 tape:w'.tape=w.tape
 output:w'.output=w.output
 size:w.heap.size≤w'.heap.size
 block:∀ k,k<w.heap.size→¬S k→w'.heap[k]? = w.heap[k]?
theorem Gr.refl(w:World)(S:Nat→Prop):Gr w w S:=⟨rfl,rfl,rfl,Nat.le_refl _,fun _ _ _=>rfl⟩
theorem Gr.of{w w':World}{S:Nat→Prop}(h:Below w.heap.size w w'):Gr w w' S:=⟨h.os,h.tape,h.output,h.size,fun k hk _=>h.block k hk⟩
theorem Gr.on{w w1 w2:World}{S:Nat→Prop}(h:Gr w w1 S)(k:Below w1.heap.size w1 w2):Gr w w2 S:=
 ⟨k.os.trans h.os,k.tape.trans h.tape,k.output.trans h.output,Nat.le_trans h.size k.size,fun i hi hn=>(k.block i (Nat.lt_of_lt_of_le hi h.size)).trans (h.block i hi hn)⟩
theorem Gr.trans{w w1 w2:World}{S:Nat→Prop}(h:Gr w w1 S)(k:Gr w1 w2 S):Gr w w2 S:=
 ⟨k.os.trans h.os,k.tape.trans h.tape,k.output.trans h.output,Nat.le_trans h.size k.size,fun i hi hn=>(k.block i (Nat.lt_of_lt_of_le hi h.size) hn).trans (h.block i hi hn)⟩
theorem Gr.mono{w w1:World}{S T:Nat→Prop}(h:Gr w w1 S)(hs:∀ k,k<w.heap.size→S k→T k):Gr w w1 T:=
 ⟨h.os,h.tape,h.output,h.size,fun i hi hn=>h.block i hi (fun q=>hn (hs i hi q))⟩
theorem Gr.grown{w w1 w2:World}{S:Nat→Prop}{row:Option Nat}(h:Gr w w1 S)(g:w1.grownBy w2 row)(hr:∀ k,row=some k→S k∨w.heap.size≤k):Gr w w2 S:=
 ⟨g.os.trans h.os,g.tape.trans h.tape,g.output.trans h.output,Nat.le_trans h.size g.size,fun i hi hn=>(g.block i (Nat.lt_of_lt_of_le hi h.size) (fun e=>by
  rcases hr i e.symm with q|q
  ·exact hn q
  ·omega)).trans (h.block i hi hn)⟩
theorem Gr.set{w w1:World}{S:Nat→Prop}(h:Gr w w1 S){p:Addr}(hp:S p.block∨w.heap.size≤p.block)(u:Value):Gr w (w1.setCell p u) S:=
 ⟨h.os,h.tape,h.output,by simpa[World.setCell] using h.size,fun i hi hn=>(Below.heap_setCell w1 p u i (fun e=>by
  subst e
  rcases hp with q|q
  ·exact hn q
  ·omega)).trans (h.block i hi hn)⟩
theorem Gr.one{w w1:World}{S:Nat→Prop}(h:Gr w w1 S)(b i:Nat)(hb:S b∨w.heap.size≤b)(u:Value):Gr w (w1.setCell ⟨b,i,none⟩ u) S:=h.set (p:=⟨b,i,none⟩) hb u
theorem Gr.six{w w1:World}{S:Nat→Prop}(h:Gr w w1 S)(b:Nat)(hb:S b∨w.heap.size≤b)(a0 a1 a2 a3 a4 a5:Value):Gr w ((((((w1.setCell ⟨b,0,none⟩ a0).setCell ⟨b,1,none⟩ a1).setCell ⟨b,2,none⟩ a2).setCell ⟨b,3,none⟩ a3).setCell ⟨b,4,none⟩ a4).setCell ⟨b,5,none⟩ a5) S:=
 (((((h.one b 0 hb a0).one b 1 hb a1).one b 2 hb a2).one b 3 hb a3).one b 4 hb a4).one b 5 hb a5
theorem Gr.new{w w1:World}{S:Nat→Prop}(h:Gr w w1 S)(o:Obj):Gr w (w1.alloc o) S:=h.on (Zf _ _)
theorem Gr.draw{w w1:World}{S:Nat→Prop}(h:Gr w w1 S):Gr w w1.drew S:=⟨h.os,h.tape,h.output,h.size,h.block⟩
theorem Gr.below{w0 w w':World}{S:Nat→Prop}{B:Nat}(h:Gr w w' S)(hb:Below B w0 w)(hB:B≤w.heap.size)(hs:∀ k,S k→B≤k):Below B w0 w':=
 ⟨h.os.trans hb.os,h.tape.trans hb.tape,h.output.trans hb.output,Nat.le_trans hb.size h.size,fun k hk=>(h.block k (by omega) (fun q=>by have:=hs k q;omega)).trans (hb.block k hk)⟩
theorem Gr.own{w w':World}{S:Nat→Prop}(h:Gr w w' S){base:Nat}{e:TypeId}{size:Nat}{v:Value}{n:Nat}{xs:List Value}(ho:w.ownsRow base e size v n xs)(hn:∀ k,v.ownBlock=some k→¬S k):w'.ownsRow base e size v n xs:=by
 obtain⟨hl,h0|⟨g,cap,cur,hv,hg,hh,r⟩⟩:=ho
 ·exact⟨hl,.inl h0⟩
 ·exact⟨hl,.inr ⟨g,cap,cur,hv,hg,(h.block g (lt_of_block hh) (hn g (by rw[hv];rfl))).trans hh,r⟩⟩
theorem Gr.heap{w w':World}{S:Nat→Prop}(h:Gr w w' S){b:Nat}{o:Obj}(ho:w.heap[b]? = some o)(hn:¬S b):w'.heap[b]? = some o:=(h.block b (lt_of_block ho) hn).trans ho
theorem Zd{w:World}{b:Nat}{X:List Value}{t:TypeId}(h:w.heap[b]? = some (.cells X.toArray t (0,0)))(j:Nat)(u:Value)(hj:X[j]? = some u):w.cell? ⟨b,j,none⟩=some u:=Vr h j u hj
theorem Zh{w:World}{b:Nat}{X:Array Value}{t:TypeId}(h:w.heap[b]? = some (.cells X t (0,0)))(j:Nat):w.frozen? ⟨b,j,none⟩=false:=by simp[World.frozen?,h]
structure Pu(w0 w:World)(p:Nat)(v:Value)(K:List CV):Prop where
 bel:Below w0.heap.size w0 w
 ge:w0.heap.size≤p
 box:w.heap[p]? = some (.cells #[v] 221 (0,0))
 own:w.ownsRow w0.heap.size 103 6 v K.length (Zj K)
 ne:v.ownBlock≠some p
 lk:∀ x∈K,LkAt w0 x
def PuS(p:Nat)(v:Value):Nat→Prop:=fun k=>k=p∨v.ownBlock=some k
theorem Pu.coins{w0 w:World}{p:Nat}{v:Value}{K:List CV}(h:Pu w0 w p v K):∃ a c,v = .slice a K.length c∧CoinsAt w a K.length (K.map (·.1))∧SlOk a K.length c:=
 Z3 h.own (fun x hx=>(h.lk x hx).later h.bel)
theorem Pu.lt{w0 w:World}{p:Nat}{v:Value}{K:List CV}(h:Pu w0 w p v K):p<w.heap.size:=lt_of_block h.box
theorem Pu.kept{w0 w w':World}{p:Nat}{v:Value}{K:List CV}(h:Pu w0 w p v K)(hb:Below w.heap.size w w'):Pu w0 w' p v K:=
 ⟨Ze h.bel (hb.mono h.bel.size |> fun q=>⟨q.os,q.tape,q.output,q.size,hb.block⟩),h.ge,(hb.block p h.lt).trans h.box,(Gr.of (S:=fun _=>False) hb).own h.own (fun _ _ q=>q),h.ne,h.lk⟩
theorem Zba(a:Option Addr)(n c:Nat)(L:List Zg)(w:World)(hn:n≤4096)(h:CoinsAt w a n L)(hs:SlOk a n c) :
  Calls Tryz.prog 140 #[.slice a n c] w fun e w'=>∃ p v,∃ K:List CV,e = .returned (.pointer (some ⟨p,0,none⟩))∧K.map (·.1)=L∧Pu w w' p v K:=by
 have C:=Zb (Ra a n c L w hn h hs)
 clear h hs
 go_enter Tryz.func140,Tryz.ntmps140
 go_wp2_with fail
 refine (Za C).mono ?_
 rintro e w2 ⟨v,K,rfl,hK,hl,ho,hb⟩
 obtain⟨a',c',rfl,_,_⟩:=Z3 ho (fun x hx=>(hl x hx).later hb)
 obtain⟨n',hn'⟩:∃ n',K.length=n':=⟨_,rfl⟩
 rw[hn'] at ho ⊢
 have P:Hid (Pu w (w2.alloc (.cells #[.slice a' n' c'] 221)) w2.heap.size (.slice a' n' c') K):=by
  refine⟨hb.alloc hb.size _,hb.size,heap_alloc_new w2 _,by rw[hn'];exact ho.alloc _,fun e=>?_,hl⟩
  have:=(ho.lt _ e).2
  omega
 have HK:=Zb hK
 clear hK hl ho hb hn'
 go_wp2
 go_ret
 exact⟨w2.heap.size,_,K,rfl,Za HK,Za P⟩
end Go.Proofs.YtpikejjiignchaaGreatDoor
