import Derived.Test.YtmomfkikogbdeaaGreatDoorG42
set_option maxHeartbeats 12800000
set_option maxRecDepth 10000
namespace Go.Proofs.YtmomfkikogbdeaaGreatDoor
open Go.RowKit
def Q5:Nat→Int
 | 0=>0
 | n+1=>Q5 n+(rwD ((n:Int)+1)).1
def Sb:Nat→List Int
 | 0=>[]
 | n+1=>Sb n++[(rwD ((n:Int)+1)).1]
theorem Ld(h:Int):0≤(rwD h).1∧(rwD h).1≤64:=by
 unfold rwD
 split
 ·have:=T8 ((h - 1).toNat / 8)
  simp only
  omega
 ·simp
theorem Zhy{h:Int}(h1:1≤h)(h2:h≤1000):(rwD h).2=0:=by
 unfold rwD
 rw[if_pos (by simp;omega)]
theorem Re:∀ n,0≤Q5 n∧Q5 n≤64*n
 | 0=>by simp[Q5]
 | n+1=>by
  have h1:=Re n
  have h2:=Ld ((n:Int)+1)
  unfold Q5
  omega
theorem Q7:∀ n,(Sb n).length=n
 | 0=>rfl
 | n+1=>by rw[Sb,List.length_append,Q7 n];rfl
theorem Nv:∀ (n i:Nat) (hi:i<(Sb n).length),(Sb n)[i]=(rwD ((i:Int)+1)).1
 | n+1,i,hi=>by
  have hl:=Q7 n
  have hi':i<n+1:=by rw[Q7] at hi;exact hi
  by_cases e:i<n
  ·simp only[Sb]
   rw[List.getElem_append_left (by omega)]
   exact Nv n i (by omega)
  ·have e:i=n:=by omega
   subst e
   simp only[Sb]
   rw[List.getElem_append_right (by omega)]
   simp[hl]
theorem Ci:∀ (l:List Int) (s x t:Int),sm s l=(t,0)→0≤x→x≤1000000000→t+x≤1000000000→sm s (l++[x])=(t+x,0)
 | [],s,x,t,h,h1,h2,h3=>by
  simp only[sm,Prod.mk.injEq,and_true] at h
  subst h
  simp[sm,h1,h2,h3]
 | y :: l,s,x,t,h,h1,h2,h3=>by
  simp only[List.cons_append,sm] at h ⊢
  split at h
  ·rename_i q
   rw[if_pos q]
   split at h
   ·rename_i q2
    rw[if_pos q2]
    exact Ci l _ x t h h1 h2 h3
   ·simp at h
  ·simp at h
theorem Cj:∀ n:Nat,n≤1000→sm 0 (Sb n)=(Q5 n,0)
 | 0,_=>rfl
 | n+1,hn=>by
  have h1:=Ld ((n:Int)+1)
  have h2:=Re n
  rw[Sb,Q5]
  exact Ci _ _ _ _ (Cj n (by omega)) (by omega) (by omega) (by omega)
def FilS(B p:Nat)(f:Nat→Int)(w wr:World)(k:Nat):Prop:=
 ∃ xs:List Value,wr.ownsRow B 3 1 (.slice (some ⟨B,0,none⟩) p p) p xs∧(∀ j,j<k→xs[j]? = some (.int .i64 (f j)))∧Below B w wr
theorem FilS.later{B p:Nat}{f:Nat→Int}{w wr w':World}{k:Nat}(h:FilS B p f w wr k)(hB:B≤wr.heap.size)(hb:Below wr.heap.size wr w'):FilS B p f w w' k:=by
 obtain⟨xs,ho,hf,hw⟩:=h
 exact⟨xs,(Gr.of hb:Gr wr w' (fun _=>False)).own ho (fun _ _ q=>q),hf,hw.trans (hb.mono hB)⟩
theorem FilS.step{B p:Nat}{f:Nat→Int}{w wr:World}{k:Nat}(h:FilS B p f w wr k)(hk:k<p){x:Int}(hx:x=f k):FilS B p f w (wr.setCell ⟨B,k,none⟩ (.int .i64 x)) (k+1):=by
 obtain⟨xs,ho,hf,hb⟩:=h
 have hl:xs.length=p:=by simpa using ho.1
 refine⟨xs.set k (.int .i64 x),(ho.stored k _).1,fun j hj=>?_,hb.setCell (Nat.le_refl _) _⟩
 by_cases e:j=k
 ·subst e;simp[hl,hk,hx]
 ·rw[List.getElem?_set_ne (by omega)];exact hf j (by omega)
theorem FilS.old{B p:Nat}{f:Nat→Int}{w wr:World}{k:Nat}(h:FilS B p f w wr k)(hk:k<p):∃ v,wr.cell? ⟨B,k,none⟩=some v:=by
 obtain⟨xs,ho,_,_⟩:=h
 have hl:xs.length=p:=by simpa using ho.1
 exact⟨xs[k]'(by omega),by rw[ho.cellAt k (by omega)];simp[hl,hk]⟩
theorem FilS.free{B p:Nat}{f:Nat→Int}{w wr:World}{k:Nat}(h:FilS B p f w wr k)(j:Nat):wr.frozen? ⟨B,j,none⟩=false:=by
 obtain⟨xs,ho,_,_⟩:=h
 exact ho.frozenAt j
theorem FilS.row{B n:Nat}{w wr:World}(h:FilS B n (fun i=>(rwD ((i:Int)+1)).1) w wr n)(hn:n≤1000):RowAt wr (some ⟨B,0,none⟩) n (Sb n):=by
 obtain⟨xs,ho,hf,_⟩:=h
 have hl:xs.length=n:=by simpa using ho.1
 refine⟨Q7 n,by unfold maxLen;omega,fun _=>⟨B,0,rfl,fun i hi=>?_⟩⟩
 have hi':i<(Sb n).length:=by rw[Q7];exact hi
 have e:(Sb n).getD i 0=(rwD ((i:Int)+1)).1:=by
  rw[List.getD_eq_getElem?_getD,List.getElem?_eq_getElem hi',Option.getD_some]
  exact Nv n i hi'
 rw[e,Nat.zero_add,ho.cellAt i (by omega)]
 exact hf i hi
theorem Ej(n:Nat)(w:World)(h2:n≤1000) :
  Calls Tryz.prog 41 #[.int .i64 n] w fun e w'=>e = .returned (.tuple #[.int .i64 (Q5 n),.int .i64 0])∧Below w.heap.size w w':=by
 obtain⟨i0,hi,hz0,hz1,hz2⟩:=info_parts Tryz.infoInt
 go_enter Tryz.func41,Tryz.ntmps41
 go_wp2_with (first|(go_at_call 103;refine (Xu _ _ _ _ (by omega) (by omega)).mono ?_;rintro e w' ⟨rfl,rfl⟩)|(at_make;refine wpList_make_full _ rfl _ _ 25 rfl w.heap.size 3 i0 (.int .i64 0) 1 Tryz.underlying25 hi hz0 hz1 .i64 .i64 _ _ n rfl rfl rfl rfl (by rw[hz2];omega) (by unfold maxLen;omega) (Nat.le_refl _) ?_;intro w0 hown0 hgrow0))
 have hst:FilS w.heap.size n (fun i=>(rwD ((i:Int)+1)).1) w w0 0:=⟨_,hown0,fun j hj=>absurd hj (by omega),(Below.refl _ _).grown hgrow0 (Nat.le_refl _) (fun k h=>by cases h)⟩
 clear hown0 hgrow0
 have HST:=Zb hst
 clear hst
 go_loopw [14] (fun i wr=>∃ k:Nat,k≤n∧i = .int .i64 k∧Hid (FilS w.heap.size n (fun i=>(rwD ((i:Int)+1)).1) w wr k)) (fun i _=>n - (intOf i).toNat)
 case atStart=>exact⟨0,Nat.zero_le _,rfl,HST⟩
 case round=>
  obtain⟨k,hk,rfl,HF⟩:=hrel
  clear HST
  by_cases hlt:k<n
  ·obtain⟨r,hr⟩:∃ r,(rwD ((k:Int)+1)).1=r:=⟨_,rfl⟩
   have HR:=Zb (Sa ((k:Int)+1) r 0 wr (Prod.ext hr (Zhy (by omega) (by omega))))
   have HRR:=Zb hr
   clear hr
   go_wp2_with fail
   refine (Za HR).mono ?_
   rintro e w' ⟨rfl,hb⟩
   have hf:=(Za HF).later ((Za HF).choose_spec.2.2.size) hb
   obtain⟨v,hold⟩:=hf.old hlt
   have hfree:=hf.free k
   have hl:=World.block_lt_of_cell? _ _ hold
   have HF2:=Zb (hf.step hlt (Za HRR).symm)
   clear HR hb hf HF
   go_wp2_with fail
   go_roundw
   case rel=>exact⟨k+1,by omega,by go_num,HF2⟩
   case measure=>simp[intOf];omega
  ·have e:k=n:=by omega
   subst e
   clear hk hlt
   have HS:=Zb (Cf (some ⟨w.heap.size,0,none⟩) k k (Sb k) wr ((Za HF).row h2))
   have hsm:=Cj k h2
   rw[hsm] at HS
   clear hsm
   go_wp2_with fail
   refine (Za HS).mono ?_
   rintro e w' ⟨rfl,rfl⟩
   have HB:=Zb ((Za HF).choose_spec.2.2)
   clear HS HF
   go_wp2
   go_ret2
   exact⟨rfl,Za HB⟩
theorem Zis{N:List Int}{T:List Zk}(hc:Tr.chkTr N T=0)(x:Int):0≤(Tr.fnd x N T).2.1∧(Tr.fnd x N T).2.1≤1000:=by
 have ok:=Tr.TrOk.of hc
 by_cases e:x∈N
 ·have:=Ht (ok.chk _ (Tr.fnd_at ok.len e))
  omega
 ·rw[Tr.fnd_out ok.len e]
  exact⟨Int.le_refl _,by decide⟩
theorem Ek{h:Int}(h0:0≤h):Q5 (h+1).toNat=Q5 h.toNat+(rwD (h+1)).1:=by
 obtain⟨n,rfl⟩:=Int.eq_ofNat_of_zero_le h0
 show Q5 (((n:Int)+1).toNat)=Q5 ((n:Int).toNat)+_
 have e1:((n:Int)+1).toNat=n+1:=by omega
 have e2:((n:Int)).toNat=n:=by omega
 rw[e1,e2,Q5]
def Zhe(N:List Int)(T:List Zk)(β : Int→List Zh)(x:Int):Prop:=Z6 (β x)∧Zo (β x)≤Q5 (Tr.fnd x N T).2.1.toNat
theorem Zej{K:List ByteArray}{N:List Int}{T:List Zk}(hc:Tr.chkTr N T=0):∀ (n k:Nat) (β γ : Int→List Zh),N.length - k=n→k≤N.length→Zq K (N.drop k) (T.drop k) β = (0,γ) →
  (∀ x,(x=0∨x∈N.take k)→Zhe N T β x)→∀ x,(x=0∨x∈N)→Zhe N T γ x
 | 0,k,β,γ,hn,hk,h,hi=>by
  rw[Zek (by omega)] at h
  simp only[Prod.mk.injEq,true_and] at h
  subst h
  have e:k=N.length:=by omega
  subst e
  rw[List.take_length] at hi
  exact hi
 | n+1,k,β,γ,hn,hk,h,hi=>by
  have ok:=Tr.TrOk.of hc
  have h1:k<N.length:=by omega
  have h2:k<T.length:=by rw[←ok.len];exact h1
  rw[Zhj h1 h2] at h
  split at h
  ·simp at h
  split at h
  ·rename_i q
   exact absurd (congrArg Prod.fst h) q
  rename_i q
  have q:=Decidable.not_not.1 q
  refine Zej hc n (k+1) _ γ (by omega) (by omega) h (fun x hx=>?_)
  obtain⟨a1,a2⟩:=Tr.ahead hc k h1 h2
  obtain⟨c,M,S,hcon⟩:∃ c M S,Wf K (β T[k].1) T[k]=(c,M,S):=⟨_,_,_,rfl⟩
  rw[hcon] at q ⊢
  have q:c=0:=q
  subst q
  obtain⟨_,r2,_,_,_,r6,_⟩:=Mn hcon
  by_cases e:x=N[k]
  ·have hu:Xq β N[k] M x=M:=by unfold Xq;rw[if_pos e]
   unfold Zhe
   rw[hu,e,a1]
   refine⟨r2,?_⟩
   have p1:=(hi T[k].1 a2).2
   have p2:=ok.hgt N[k] (List.getElem_mem h1)
   rw[a1] at p2
   have p3:=(Zis hc T[k].1).1
   rw[p2,Ek p3,←p2]
   omega
  ·have hu:Xq β N[k] M x = β x:=by unfold Xq;rw[if_neg e]
   unfold Zhe
   rw[hu]
   refine hi x ?_
   rcases hx with hx|hx
   ·exact .inl hx
   ·right
    rw[List.take_succ_eq_append_getElem h1,List.mem_append] at hx
    rcases hx with hx|hx
    ·exact hx
    ·exact absurd (by simpa using hx) e
theorem Zde{K:List ByteArray}{N:List Int}{T:List Zk}{P:List TxD}{tip:Int}(h:opE K N T P tip=0):Zy ((Zq K N T noB).2 tip)=0∧Zo ((Zq K N T noB).2 tip)≤Q5 (Ya N T tip).toNat∧0≤Ya N T tip∧Ya N T tip≤1000∧(tip=0→Ya N T tip=0)∧(tip≠0→(Tr.blockE N T tip).2=0):=by
 obtain⟨_,h2,h3,_⟩:=Yf h
 obtain⟨hc,ht⟩:=Yh h2
 have ok:=Tr.TrOk.of hc
 have R0:Z6 []:=(Zz []).1 (by kernel_rfl)
 have hS:=Zej hc (K:=K) N.length 0 noB (Zq K N T noB).2 (by omega) (Nat.zero_le _) (by
  rw[List.drop_zero,List.drop_zero]
  exact Prod.ext h3 rfl) (fun x _=>⟨R0,by
   have:=(Re (Tr.fnd x N T).2.1.toNat).1
   simpa[noB,Zo] using this⟩) tip ht
 have hb:=Jx h2
 have e:Ya N T tip=(Tr.fnd tip N T).2.1:=by
  unfold Ya Tr.blockE
  rw[if_neg (fun q=>q hc)]
  split
  ·rfl
  ·rename_i q
   rw[Tr.fnd_out ok.len (by simpa using q)]
 refine⟨(Zz _).2 hS.1,by rw[e];exact hS.2,hb.2.1,hb.2.2,fun e0=>?_,fun e0=>?_⟩
 ·rw[e,e0,Tr.fnd_out ok.len ok.zero];rfl
 ·unfold Tr.blockE
  rw[if_neg (fun q=>q hc)]
  have hm:tip∈N:=by
   rcases ht with q|q
   ·exact absurd q e0
   ·exact q
  rw[if_pos (by simpa using hm)]
theorem Gv(ka:Option Addr)(kn kc:Nat)(K:List ByteArray)(na ba pa:Option Addr)(nn nc bn bc pn pc:Nat)(N:List Int)(T:List Zk)(P:List TxD)(tip:Int)(w:World)(hE:Env w)(hK:Bk.TextsAt w ka kn K)(hN:Tr.IntsAt w na nn N)(hT:Tr.BlksAt w ba bn T)(hP:TxsAt w pa pn P)(sN:SlOk na nn nc)(sT:SlOk ba bn bc)(sP:SlOk pa pn pc)(hp:pn≤2513169434916)(hq:∀ t∈P,Tr.TxSmall t) :
  Calls Tryz.prog 9 #[.agg #[.slice ka kn kc],.agg #[.slice na nn nc,.slice ba bn bc,.slice pa pn pc,.int .i64 tip]] w fun e w'=>e = .returned (.bool true)∧Below w.heap.size w w':=by
 obtain⟨X,hX⟩:∃ X,X=Z9 w [.cells #[.slice ka kn kc] 24,.cells #[.slice na nn nc,.slice ba bn bc,.slice pa pn pc,.int .i64 tip] 67]:=⟨_,rfl⟩
 have hX':X=(w.alloc (.cells #[.slice ka kn kc] 24)).alloc (.cells #[.slice na nn nc,.slice ba bn bc,.slice pa pn pc,.int .i64 tip] 67):=hX
 have hbX:Below w.heap.size w X:=by rw[hX];exact Zp _ _
 have x0:X.heap[w.heap.size]? = some (.cells [.slice ka kn kc].toArray 24 (0,0)):=by rw[hX];exact Zm _ w 0 _ rfl
 have x1:X.heap[w.heap.size+1]? = some (.cells [.slice na nn nc,.slice ba bn bc,.slice pa pn pc,.int .i64 tip].toArray 67 (0,0)):=by rw[hX];exact Zm _ w 1 _ rfl
 obtain⟨x,hx⟩:∃ x,opE K N T P tip=x:=⟨_,rfl⟩
 obtain⟨C,hC⟩:∃ C,(if x=0 then (Zq K N T noB).2 tip else [])=C:=⟨_,rfl⟩
 have C1:=Zb (U9 ka kn kc K na ba pa nn nc bn bc pn pc N T P tip x X (hE.later hbX) (hK.later hbX) (hN.later hbX) (hT.later hbX) (hP.later hbX) sN sT sP hp hq hx C hC)
 have HNS:Hid (x=0→Zy C=0∧Zo C≤Q5 (Ya N T tip).toNat∧0≤Ya N T tip∧Ya N T tip≤1000∧(tip=0→Ya N T tip=0)∧(tip≠0→(Tr.blockE N T tip).2=0)):=fun e=>by
  have:=Zde (hx.trans e)
  rw[if_pos e] at hC
  rw[hC] at this
  exact this
 have CB:=Zb (fun V (hv:Below X.heap.size X V) y z (hy:Tr.blockE N T tip=(y,z))=>Tr.block_is na ba nn nc bn bc N T tip y z V (hN.later (Zf hbX hv)) (hT.later (Zf hbX hv)) sN sT hy)
 have HE:Hid (∀ V,Below X.heap.size X V→Env V):=fun V hv=>hE.later (Zf hbX hv)
 have HX1:=Zb x1
 have HBX:=Zb hbX
 have t0:=Zd x0 0 _ rfl
 have t1:=Zd x1 0 _ rfl
 have t2:=Zd x1 1 _ rfl
 have t3:=Zd x1 2 _ rfl
 have t4:=Zd x1 3 _ rfl
 have tl:=lt_of_block x0
 have tl1:=lt_of_block x1
 clear hE hK hN hT hP sN sT sP hp hq hx hC hbX x0 x1 hX
 go_enter Tryz.func9,Tryz.ntmps9
 go_wp2_with fail
 rw[←hX']
 clear hX'
 (try go_wp2_with fail)
 refine (Za C1).mono ?_
 rintro e w1 ⟨ca,cn,cc,rfl,hcc,-,hb1⟩
 have HB1:=Zb hb1
 have HCC:=Zb hcc
 have D2:=Zb (W9 w1 ((Za HE) w1 hb1))
 clear hb1 hcc C1 t0 t1 t2 t3 t4 tl tl1
 by_cases h0:x=0
 ·subst h0
  obtain⟨n1,n2,n3,n4,n5,n6⟩:=(Za HNS) rfl
  clear HNS
  have HN1:=Zb n1
  have HN2:=Zb n2
  have HN3:=Zb n3
  have HN4:=Zb n4
  have HN5:=Zb n5
  have HN6:=Zb n6
  clear n1 n2 n3 n4 n5 n6
  go_wp2_with fail
  refine (Za D2).mono ?_
  rintro e w2 ⟨rfl,hb2⟩
  have hbx2:=Zf (Za HB1) hb2
  have HB2:=Zb hbx2
  have HC2:=Zb ((Za HCC).later hb2)
  have y1:=(hbx2.block _ (lt_of_block (Za HX1))).trans (Za HX1)
  have t1:=Zd y1 0 _ rfl
  have t2:=Zd y1 1 _ rfl
  have t3:=Zd y1 2 _ rfl
  have t4:=Zd y1 3 _ rfl
  have tl1:=lt_of_block y1
  have n1:=Za HN1
  have n2:=Za HN2
  have n3:=Za HN3
  have n4:=Za HN4
  have n5:=Za HN5
  have n6:=Za HN6
  obtain⟨hn,hhn⟩:∃ n:Nat,Ya N T tip=n:=Int.eq_ofNat_of_zero_le n3
  have e2:(Ya N T tip).toNat=hn:=by omega
  rw[e2] at n2
  obtain⟨s,hs⟩:∃ s,Zo C=s:=⟨_,rfl⟩
  obtain⟨M,hM⟩:∃ M,Q5 hn=M:=⟨_,rfl⟩
  rw[hs,hM] at n2
  have CT:=Zb (fun V (hv:Below w2.heap.size w2 V)=>Nh ca cn cc C 0 s V ((Za HC2).later hv) n1 ((if_pos rfl).trans hs))
  have CS:=Zb (fun V=>Ej hn V (by omega))
  rw[hM] at CS
  clear hb2 hbx2 y1 D2 HB1 HCC HE n1 n3 n4 hs hM e2 HC2 HN1 HN2 HN3 HN4 HN5 HN6
  by_cases e0:tip=0
  ·have hz:(hn:Int)=0:=by rw[←hhn];exact n5 e0
   rw[hz] at CS
   subst e0
   have D3:=Zb ((Za CT) w2 (Below.refl _ _))
   clear hz n5 n6 hhn CB CT
   go_wp2_with fail
   refine (Za D3).mono ?_
   rintro e w3 ⟨rfl,hb3⟩
   have D4:=Zb ((Za CS) w3)
   have HB3:=Zb (Zf (Za HB2) hb3)
   clear hb3 D3 CS t1 t2 t3 t4 tl1
   go_wp2_with fail
   refine (Za D4).mono ?_
   rintro e w4 ⟨rfl,hb4⟩
   have HB4:=Zb (Zf (Za HBX) (Zf (Za HB3) hb4))
   clear hb4 D4
   go_wp2
   go_ret
   exact⟨rfl,Za HB4⟩
  ·have gt:(tip != 0)=true:=by simp[e0]
   have hz:=n6 e0
   obtain⟨⟨⟨q1,q2,q3,q4,qL⟩,y⟩,hy⟩:∃ r,Tr.blockE N T tip=r:=⟨_,rfl⟩
   have hy0:y=0:=by rw[hy] at hz;exact hz
   subst hy0
   have hq2:q2=(hn:Int):=by rw[←hhn];unfold Ya;rw[hy]
   subst hq2
   have D3:=Zb ((Za CB) w2 (Za HB2) _ _ hy)
   clear hz n5 n6 hhn hy CB
   go_wp2_with fail
   refine (Za D3).mono ?_
   rintro e w3 ⟨ta,tn,tc,rfl,-,-,hb3⟩
   obtain⟨V,hV⟩:∃ V,V=w3.alloc (.cells #[.int .i64 q1,.int .i64 (hn:Int),.int .i64 q3,.int .i64 q4,.slice ta tn tc] 39):=⟨_,rfl⟩
   have hbV:Below w3.heap.size w3 V:=by rw[hV];exact Zi _ _
   have D4:=Zb ((Za CT) V (Zf hb3 hbV))
   have HBV:=Zb (Zf (Za HB2) (Zf hb3 hbV))
   have v0:V.heap[w3.heap.size]? = some (.cells [.int .i64 q1,.int .i64 (hn:Int),.int .i64 q3,.int .i64 q4,.slice ta tn tc].toArray 39 (0,0)):=by rw[hV];exact heap_alloc_new w3 _
   have v1:=Zd v0 1 _ rfl
   have vl:=lt_of_block v0
   clear hb3 hbV D3 CT t1 t2 t3 t4 tl1 v0
   go_upto_region 10 with fail
   rw[←hV]
   clear hV v1 vl
   go_wp2_with fail
   refine (Za D4).mono ?_
   rintro e w4 ⟨rfl,hb4⟩
   have D5:=Zb ((Za CS) w4)
   have HB4:=Zb (Zf (Za HBV) hb4)
   clear hb4 D4 CS
   go_wp2_with fail
   refine (Za D5).mono ?_
   rintro e w5 ⟨rfl,hb5⟩
   have HB5:=Zb (Zf (Za HBX) (Zf (Za HB4) hb5))
   clear hb5 D5
   go_wp2
   go_ret
   exact⟨rfl,Za HB5⟩
 ·have gx:(x != 0)=true:=by simp[h0]
  go_wp2_with fail
  refine (Za D2).mono ?_
  rintro e w2 ⟨rfl,hb2⟩
  have HB2:=Zb (Zf (Za HB1) hb2)
  have D3:=Zb (W9 w2 ((Za HE) w2 (Za HB2)))
  clear hb2 D2 HNS HE CB HCC
  go_wp2_with fail
  refine (Za D3).mono ?_
  rintro e w3 ⟨rfl,hb3⟩
  have HB3:=Zb (Zf (Za HBX) (Zf (Za HB2) hb3))
  clear hb3 D3
  go_wp2
  go_ret
  exact⟨rfl,Za HB3⟩
end Go.Proofs.YtmomfkikogbdeaaGreatDoor
