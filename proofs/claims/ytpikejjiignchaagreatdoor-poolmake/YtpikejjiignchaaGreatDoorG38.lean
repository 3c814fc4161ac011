import Derived.Test.YtpikejjiignchaaGreatDoorG37
set_option maxHeartbeats 1600000
set_option maxRecDepth 10000
namespace Go.Proofs.YtpikejjiignchaaGreatDoor.Tr
open Go.RowKit
theorem Pc(a:Option Addr)(n c:Nat)(L:List Int)(s x:Int)(w:World)(hn:n≤maxLen)(h:IntsAt w a n L)(hx:Qn s L 0=x) :
  Calls Tryz.prog 13 #[.slice a n c,.int .i64 s] w fun e w'=>e = .returned (.int .i64 x)∧w=w':=by
 have HL:=Zb h
 have HZ:=Zb h.1
 have HX:Hid (Qn s (L.drop 0) 0=x):=hx
 unfold maxLen at hn
 clear h hx
 go_enter Tryz.func13,Tryz.ntmps13
 go_wp2
 go_loopw [8] (fun i wr=>∃ j:Nat,j≤n∧i = .int .i64 j∧w=wr∧Hid (Qn s (L.drop j) j=x)) (fun i _=>n - (intOf i).toNat)
 case atStart=>exact⟨0,Nat.zero_le _,rfl,rfl,HX⟩
 case round=>
  obtain⟨j,hk,rfl,rfl,A⟩:=hrel
  clear HX
  by_cases hlt:j<n
  ·have h1:j<L.length:=by rw[Za HZ];exact hlt
   obtain⟨b,off,rfl,hbl,hc⟩:=(Za HL).2 (by omega)
   have f1:=hc j h1
   have ST:=Zb (Zfz s L j h1)
   obtain⟨t,ht⟩:∃ t,L[j]=t:=⟨_,rfl⟩
   rw[ht] at f1 ST
   clear ht hc
   by_cases e:s=t
   ·subst e
    have R:Hid ((j:Int)=x):=by show _=_;rw[←Za A,Za ST,if_pos rfl]
    clear A ST
    go_wp2
    go_ret
    exact⟨by rw[Za R];rfl,rfl⟩
   ·have R:Hid (Qn s (L.drop (j+1)) (j+1)=x):=by show _=_;rw[←Za A,Za ST,if_neg e]
    have g:(s == t)=false:=by simp[e]
    clear A ST e
    go_wp2
    go_roundw
    case rel=>exact⟨j+1,by omega,by go_num,(by trivial),R⟩
    case measure=>simp[intOf];omega
  ·have R:Hid (x = -1):=by show _=_;rw[←Za A,Zdh s L j (by rw[Za HZ];omega)]
   clear A
   go_wp2
   go_ret
   exact⟨by rw[Za R];rfl,rfl⟩
theorem Hn(a:Option Addr)(n c:Nat)(L:List Int)(s:Int)(o:Bool)(w:World)(hn:n≤maxLen)(h:IntsAt w a n L)(ho:decide (s∈L)=o) :
  Calls Tryz.prog 12 #[.slice a n c,.int .i64 s] w fun e w'=>e = .returned (.bool o)∧w=w':=by
 obtain⟨x,hx⟩:∃ x,Qn s L 0=x:=⟨_,rfl⟩
 have C:=Zb (Pc a n c L s x w hn h hx)
 have HO:Hid (decide (0≤x)=o):=by show _=_;rw[←hx,Dt,ho]
 clear hn h ho hx
 go_enter Tryz.func12,Tryz.ntmps12
 go_wp2_with fail
 refine (Za C).mono ?_
 rintro e w1 ⟨rfl,rfl⟩
 go_wp2
 go_ret
 exact⟨by rw[←Za HO];rfl,rfl⟩
theorem Zdk(a b:Option Addr)(n c m d:Nat)(L:List Int)(s:Int)(o:Bool)(w:World)(hn:n≤maxLen)(h:IntsAt w a n L)(ho:decide (s∈L)=o) :
  Calls Tryz.prog 76 #[.agg #[.slice a n c,.slice b m d],.int .i64 s] w fun e w'=>e = .returned (.bool o)∧Below w.heap.size w w':=by
 have hb:=Zf w (.cells #[.slice a n c,.slice b m d] 28)
 have C:=Zb (Hn a n c L s o _ hn (h.later hb) ho)
 have HB:=Zb hb
 clear h ho hb
 go_enter Tryz.func76,Tryz.ntmps76
 go_wp2_with fail
 refine (Za C).mono ?_
 rintro e w1 ⟨rfl,rfl⟩
 go_wp2
 go_ret
 exact⟨rfl,Za HB⟩
def Bf(x:Z4)(a:Option Addr)(n c:Nat):Value:=.agg #[.int .i64 x.1,.int .i64 x.2.1,.int .i64 x.2.2.1,.int .i64 x.2.2.2.1,.slice a n c]
theorem Zgc(a b:Option Addr)(n c d:Nat)(N:List Int)(T:List Z4)(s:Int)(x:Z4)(w:World)(hn:n≤maxLen)(h:IntsAt w a n N)(hT:BlksAt w b n T)(hx:fnd s N T=x) :
  Calls Tryz.prog 119 #[.agg #[.slice a n c,.slice b n d],.int .i64 s] w fun e w'=>∃ ta tn tc,e = .returned (Bf x ta tn tc)∧TxsAt w ta tn x.2.2.2.2∧SlOk ta tn tc∧Below w.heap.size w w':=by
 unfold Bf
 obtain⟨X,hX⟩:∃ X,X=(w.alloc (.cells #[.slice a n c,.slice b n d] 28)).alloc (.cells #[.int .i64 0,.int .i64 0,.int .i64 0,.int .i64 0,.slice none 0 0] 68):=⟨_,rfl⟩
 have hbX:Below w.heap.size w X:=by rw[hX];exact Ze (Zf _ _) (Zf _ _)
 have x0:X.cell? ⟨w.heap.size,0,none⟩=some (.slice a n c):=by rw[hX];exact Zc (Zf _ _) (Yd w _ _ _).1
 have x1:X.cell? ⟨w.heap.size,1,none⟩=some (.slice b n d):=by rw[hX];exact Zc (Zf _ _) (Yd w _ _ _).2
 have hX1:X.heap[w.heap.size+1]? = some (.cells [.int .i64 0,.int .i64 0,.int .i64 0,.int .i64 0,.slice none 0 0].toArray 68 (0,0)):=by
  rw[hX]
  have:=Xq (w.alloc (.cells #[.slice a n c,.slice b n d] 28)) (.int .i64 0) (.int .i64 0) (.int .i64 0) (.int .i64 0) (.slice none 0 0) 68
  rw[show (w.alloc (.cells #[.slice a n c,.slice b n d] 28)).heap.size=w.heap.size+1 by simp] at this
  exact this
 have z0:=Zd hX1 0 _ rfl
 have z1:=Zd hX1 1 _ rfl
 have z2:=Zd hX1 2 _ rfl
 have z3:=Zd hX1 3 _ rfl
 have z4:=Zd hX1 4 _ rfl
 have y0:=Zh hX1 0
 have y1:=Zh hX1 1
 have y2:=Zh hX1 2
 have y3:=Zh hX1 3
 have y4:=Zh hX1 4
 have xl:=lt_of_block hX1
 obtain⟨k,hk⟩:∃ k,Qn s N 0=k:=⟨_,rfl⟩
 have C:=Zb (Pc a n c N s k X hn (h.later hbX) hk)
 have HBX:=Zb hbX
 have HT:=Zb hT
 rcases Du s N T 0 (by rw[h.1,hT.1]) with ⟨h1,_,h3⟩|⟨i,hi,h1,_,h3⟩
 ·rw[hx] at h3
  obtain rfl:k = -1:=by rw[←hk,h1]
  subst h3
  clear h hT hx hX1 hbX hk h1
  unfold Xv
  simp only
  go_enter Tryz.func119,Tryz.ntmps119
  go_wp2_with fail
  rw[←hX]
  clear hX
  refine (Za C).mono ?_
  rintro e w1 ⟨rfl,rfl⟩
  go_wp2
  (try simp only[Exit.inBlock,Exit.then])
  refine bodyPost_ret (v:=.agg #[.int .i64 0,.int .i64 0,.int .i64 0,.int .i64 0,.slice none 0 0]) ?_ rfl ⟨none,0,0,rfl,RowsAt.nil _ _,⟨Nat.le_refl _,Nat.zero_le _,fun _=>⟨rfl,rfl⟩⟩,?_⟩
  ·rw[Yn rfl]
   go_simp
  ·exact (((((Gr.refl X (fun q=>q=w.heap.size+1)).one (w.heap.size+1) 0 (.inl rfl) _).one (w.heap.size+1) 1 (.inl rfl) _).one (w.heap.size+1) 2 (.inl rfl) _).one (w.heap.size+1) 3 (.inl rfl) _).one (w.heap.size+1) 4 (.inl rfl) _ |>.below (Za HBX) (by omega) (fun k hk=>by omega)
 ·rw[hx] at h3
  obtain rfl:k=(i:Int):=by rw[←hk,h1];simp
  have hin:i<n:=by rw[←hT.1];exact hi
  obtain⟨bb,off,rfl,hbl,hcell⟩:=hT.2 (by omega)
  have hat:=hcell i hi
  rw[←h3] at hat
  obtain⟨g0,g1,g2,g3,ta,tn,tc,g4,ht,hs⟩:=hat
  have HTX:=Zb ht
  have HSX:=Zb hs
  have k0:=Zc hbX g0
  have k1:=Zc hbX g1
  have k2:=Zc hbX g2
  have k3:=Zc hbX g3
  have k4:=Zc hbX g4
  have bl:=Nat.lt_of_lt_of_le hbl hbX.size
  clear h hT hx hX1 hbX hk h1 hcell ht hs g0 g1 g2 g3 g4 h3
  go_enter Tryz.func119,Tryz.ntmps119
  go_wp2_with fail
  rw[←hX]
  clear hX
  refine (Za C).mono ?_
  rintro e w1 ⟨rfl,rfl⟩
  go_wp2
  (try simp only[Exit.inBlock,Exit.then])
  refine bodyPost_ret (v:=.agg #[.int .i64 x.1,.int .i64 x.2.1,.int .i64 x.2.2.1,.int .i64 x.2.2.2.1,.slice ta tn tc]) ?_ rfl ⟨ta,tn,tc,rfl,Za HTX,Za HSX,?_⟩
  ·rw[Yn rfl]
   go_simp
  ·exact (((((Gr.refl X (fun q=>q=w.heap.size+1)).one (w.heap.size+1) 0 (.inl rfl) _).one (w.heap.size+1) 1 (.inl rfl) _).one (w.heap.size+1) 2 (.inl rfl) _).one (w.heap.size+1) 3 (.inl rfl) _).one (w.heap.size+1) 4 (.inl rfl) _ |>.below (Za HBX) (by omega) (fun k hk=>by omega)
theorem Zaf(p h k n v:Value)(w:World) :
  (Instr.field 68 (.agg #[p,h,k,n,v]) 0).run Tryz.prog w = .ok p w∧(Instr.field 68 (.agg #[p,h,k,n,v]) 1).run Tryz.prog w = .ok h w∧(Instr.field 68 (.agg #[p,h,k,n,v]) 2).run Tryz.prog w = .ok k w:=by
 refine⟨?_,?_,?_⟩ <;> kernel_rfl
theorem Dv(a b:Option Addr)(n c d:Nat)(N:List Int)(T:List Z4)(s z:Int)(w:World)(hn:n≤maxLen)(h:IntsAt w a n N)(hT:BlksAt w b n T)(hz:(fnd s N T).2.1=z) :
  Calls Tryz.prog 124 #[.agg #[.slice a n c,.slice b n d],.int .i64 s] w fun e w'=>e = .returned (.int .i64 z)∧Below w.heap.size w w':=by
 have hb:=Zf w (.cells #[.slice a n c,.slice b n d] 28)
 have C:=Zgc a b n c d N T s _ _ hn (h.later hb) (hT.later hb) rfl
 unfold Bf at C
 rw[hz] at C
 have C:=Zb C
 have HB:=Zb hb
 clear h hT hz hb
 go_enter Tryz.func124,Tryz.ntmps124
 go_wp2_with fail
 refine (Za C).mono ?_
 rintro e w1 ⟨ta,tn,tc,rfl,_,_,hb1⟩
 have HB1:=Zb (Ze (Za HB) hb1)
 have hf:=(Zaf (.int .i64 (fnd s N T).1) (.int .i64 z) (.int .i64 (fnd s N T).2.2.1) (.int .i64 (fnd s N T).2.2.2.1) (.slice ta tn tc) w1).2.1
 clear hb1
 go_wp2
 go_ret
 exact⟨rfl,Za HB1⟩
def Wid(sz:Nat)(K:List (List Value)):Prop:=∀ c∈K,c.length=sz
theorem AllC.wid{α : Type}{Z:Rec α}{w:World}{K:List (List Value)}{L:List α}(h:AllC Z w K L):Wid Z.sz K:=by
 intro c hc
 obtain⟨i,hi,rfl⟩:=List.getElem_of_mem hc
 exact Z.wide _ _ _ (h.2 i (by rw[←h.1];exact hi) hi)
theorem Zay{sz:Nat}:∀ {K:List (List Value)} (_:Wid sz K) (k:Nat) (h:k<K.length) (j:Nat) (_:j<sz),K.flatten[k*sz+j]? = (K[k])[j]?
 | [],_,_,h,_,_=>absurd h (by simp)
 | c :: K,hw,0,_,j,hj=>by
  have h2:=hw c (by simp)
  rw[List.flatten_cons,List.getElem?_append_left (by omega)]
  simp
 | c :: K,hw,k+1,h,j,hj=>by
  have h2:=hw c (by simp)
  rw[List.flatten_cons,List.getElem?_append_right (by rw[h2,Nat.succ_mul];omega),h2]
  rw[show (k+1)*sz+j - sz=k*sz+j by rw[Nat.succ_mul];omega]
  rw[Zay (fun c hc=>hw c (by simp[hc])) k (by simpa using h) j hj]
  simp
theorem Xn{sz:Nat}:∀ {K:List (List Value)} (_:Wid sz K) (k:Nat) (h:k<K.length) (j:Nat) (_:j<sz) (u:Value),K.flatten.set (k*sz+j) u=(K.set k ((K[k]).set j u)).flatten
 | [],_,_,h,_,_,_=>absurd h (by simp)
 | c :: K,hw,0,_,j,hj,u=>by
  have h2:=hw c (by simp)
  rw[List.flatten_cons,Nat.zero_mul,Nat.zero_add,List.set_append_left _ _ (by omega)]
  simp
 | c :: K,hw,k+1,h,j,hj,u=>by
  have h2:=hw c (by simp)
  rw[List.flatten_cons,List.set_append_right _ _ (by rw[h2,Nat.succ_mul];omega),h2]
  rw[show (k+1)*sz+j - sz=k*sz+j by rw[Nat.succ_mul];omega]
  rw[Xn (fun c hc=>hw c (by simp[hc])) k (by simpa using h) j hj u]
  simp
theorem Um{sz:Nat}{K:List (List Value)}(hw:Wid sz K)(k:Nat){c:List Value}(hc:c.length=sz):Wid sz (K.set k c):=by
 intro x hx
 rcases List.mem_or_eq_of_mem_set hx with q|rfl
 ·exact hw x q
 ·exact hc
structure Cl{α : Type}(Z:Rec α)(e:TypeId)(B G:Nat)(w0 wr:World)(v:Value)(n:Nat)(K:List (List Value))(L:List α)(k:Nat):Prop where
 own:wr.ownsRow B e Z.sz v n K.flatten
 wid:Wid Z.sz K
 len:K.length=L.length
 ln:L.length=n
 gt:∀ q,v.ownBlock=some q→q<G
 new:∀ i (h:i<L.length) (h':i<K.length),i<k→Fresh G wr (fun w2=>Z.C w2 K[i] L[i])
 old:∀ i (h:i<L.length) (h':i<K.length),k≤i→Z.C w0 K[i] L[i]
section
variable {α : Type} {Z : Rec α} {e : TypeId} {B G : Nat} {w0 wr w' : World} {v : Value} {n : Nat} {K : List (List Value)} {L : List α} {k : Nat}
theorem Cl.start(h:wr.ownsRow B e Z.sz v n K.flatten)(hc:AllC Z w0 K L)(hn:L.length=n)(hG:wr.heap.size≤G):Cl Z e B G w0 wr v n K L 0:=
 ⟨h,hc.wid,hc.1,hn,fun q hq=>Nat.lt_of_lt_of_le (h.lt q hq).2 hG,fun _ _ _ h=>absurd h (by omega),fun i h h' _=>hc.2 i h h'⟩
theorem Cl.gr{S:Nat→Prop}(h:Cl Z e B G w0 wr v n K L k)(g:Gr wr w' S)(hs:∀ q,S q→q<G)(hv:∀ q,v.ownBlock=some q→¬S q):Cl Z e B G w0 w' v n K L k:=
 ⟨g.own h.own hv,h.wid,h.len,h.ln,h.gt,fun i a b c=>(h.new i a b c).on (g.mono fun q _ hq=>hs q hq),h.old⟩
theorem Cl.keep(h:Cl Z e B G w0 wr v n K L k)(hb:Below wr.heap.size wr w'):Cl Z e B G w0 w' v n K L k:=
 h.gr (S:=fun _=>False) (Gr.of hb) (fun _ q=>q.elim) (fun _ _ q=>q)
theorem Cl.form(h:Cl Z e B G w0 wr v n K L k)(hn:0<n):∃ g cap,v = .slice (some ⟨g,0,none⟩) n cap∧B≤g∧g<G∧g<wr.heap.size:=by
 rcases h.own.2 with ⟨_,h0⟩|⟨g,cap,cur,rfl,hg,hh,_⟩
 ·omega
 ·exact⟨g,cap,rfl,hg,h.gt g rfl,lt_of_block hh⟩
theorem Cl.cell{g cap:Nat}(h:Cl Z e B G w0 wr (.slice (some ⟨g,0,none⟩) n cap) n K L k)(i:Nat)(hi:i<K.length)(j:Nat)(hj:j<Z.sz):wr.cell? ⟨g,i*Z.sz+j,none⟩=(K[i])[j]?:=by
 have hin:i<n:=by rw[←h.ln,←h.len];exact hi
 have:(i+1)*Z.sz≤n*Z.sz:=Nat.mul_le_mul_right _ (by omega)
 rw[Nat.succ_mul] at this
 rw[World.ownsRow.cellAt h.own _ (by omega),Zay h.wid i hi j hj]
theorem Cl.free{g cap:Nat}(h:Cl Z e B G w0 wr (.slice (some ⟨g,0,none⟩) n cap) n K L k)(j:Nat):wr.frozen? ⟨g,j,none⟩=false:=h.own.frozenAt j
theorem Cl.step{g cap:Nat}(h:Cl Z e B G w0 wr (.slice (some ⟨g,0,none⟩) n cap) n K L k)(hk:k<L.length){cs:List Value}(hc:Fresh G wr (fun w2=>Z.C w2 cs L[k]))(hg:Gr wr w' (fun q=>q=g))(ho:w'.ownsRow B e Z.sz (.slice (some ⟨g,0,none⟩) n cap) n (K.set k cs).flatten):Cl Z e B G w0 w' (.slice (some ⟨g,0,none⟩) n cap) n (K.set k cs) L (k+1):=by
 have hgG:=h.gt g rfl
 have hw:=Z.wide _ _ _ hc.now
 have hm:Gr wr w' (fun q=>q<G):=hg.mono fun q _ e=>by omega
 refine⟨ho,Um h.wid k hw,by rw[List.length_set];exact h.len,h.ln,h.gt,fun i a b c=>?_,fun i a b c=>?_⟩
 ·by_cases e:i=k
  ·subst e
   rw[List.getElem_set_self]
   exact hc.on hm
  ·rw[List.getElem_set_ne (by omega)]
   exact (h.new i a (by simpa using b) (by omega)).on hm
 ·rw[List.getElem_set_ne (by omega)]
  exact h.old i a (by simpa using b) (by omega)
theorem Cl.done(h:Cl Z e B G w0 wr v n K L n):Fresh G wr (fun w2=>AllC Z w2 K L):=fun w2 g2=>
 ⟨h.len,fun i a b=>h.new i a b (by rw[←h.ln];exact a) w2 g2⟩
theorem Cl.rows(h:Cl Z e B G w0 wr v n K L n)(hB:B≤G):∃ a c,v = .slice a n c∧Fresh B wr (fun w2=>RowsAt Z.R Z.sz w2 a n L∧SlOk a n c):=by
 obtain⟨a,c,rfl,_,_⟩:=rows_of_own Z h.own h.done.now h.ln
 refine⟨a,c,rfl,fun w2 g2=>?_⟩
 have ho:=g2.own h.own (fun q hq=>by have:=(h.own.lt q hq).1;omega)
 obtain⟨a',c',e,h1,h2⟩:=rows_of_own Z ho (h.done w2 (g2.mono fun q _ hq=>by omega)) h.ln
 cases e
 exact⟨h1,h2⟩
end
theorem set_cells{w:World}{b:Nat}{X:List Value}{t:TypeId}(h:w.heap[b]? = some (.cells X.toArray t (0,0)))(j:Nat)(u:Value):(w.setCell ⟨b,j,none⟩ u).heap[b]? = some (.cells (X.set j u).toArray t (0,0)):=by
 rw[setCell_eq_setRow w b j X.toArray t (0,0) u h]
 have:=setRow_heap w b _ (X.toArray.setIfInBounds j u) t _ h
 simpa using this
theorem len1{c:List Value}(h:c.length=2):∃ x y,c=[x,y]:=by
 match c,h with
 | [x,y],_=>exact⟨x,y,rfl⟩
theorem len3{c:List Value}(h:c.length=3):∃ x y z,c=[x,y,z]:=by
 match c,h with
 | [x,y,z],_=>exact⟨x,y,z,rfl⟩
theorem len5{c:List Value}(h:c.length=5):∃ x y z r s,c=[x,y,z,r,s]:=by
 match c,h with
 | [x,y,z,r,s],_=>exact⟨x,y,z,r,s,rfl⟩
theorem put2{K:List (List Value)}(hw:Wid 2 K)(k:Nat)(h:k<K.length)(a b:Value):((K.flatten.set (k*2) a).set (k*2+1) b)=(K.set k [a,b]).flatten:=by
 obtain⟨x,y,e⟩:=len1 (hw _ (List.getElem_mem h))
 have h1:=Xn hw k h 0 (by decide) a
 rw[Nat.add_zero] at h1
 rw[h1,Xn (Um hw k (by rw[List.length_set,e];rfl)) k (by rw[List.length_set];exact h) 1 (by decide) b,List.getElem_set_self,List.set_set,e]
 rfl
theorem put3{K:List (List Value)}(hw:Wid 3 K)(k:Nat)(h:k<K.length)(a b c:Value):(((K.flatten.set (k*3) a).set (k*3+1) b).set (k*3+2) c)=(K.set k [a,b,c]).flatten:=by
 obtain⟨x,y,z,e⟩:=len3 (hw _ (List.getElem_mem h))
 have h1:=Xn hw k h 0 (by decide) a
 rw[Nat.add_zero] at h1
 rw[h1,Xn (Um hw k (by rw[List.length_set,e];rfl)) k (by rw[List.length_set];exact h) 1 (by decide) b,List.getElem_set_self,List.set_set,e]
 rw[Xn (Um hw k rfl) k (by rw[List.length_set];exact h) 2 (by decide) c,List.getElem_set_self,List.set_set]
 rfl
theorem put5{K:List (List Value)}(hw:Wid 5 K)(k:Nat)(h:k<K.length)(a b c d f:Value):(((((K.flatten.set (k*5) a).set (k*5+1) b).set (k*5+2) c).set (k*5+3) d).set (k*5+4) f)=(K.set k [a,b,c,d,f]).flatten:=by
 obtain⟨x,y,z,r,s,e⟩:=len5 (hw _ (List.getElem_mem h))
 have h1:=Xn hw k h 0 (by decide) a
 rw[Nat.add_zero] at h1
 rw[h1,Xn (Um hw k (by rw[List.length_set,e];rfl)) k (by rw[List.length_set];exact h) 1 (by decide) b,List.getElem_set_self,List.set_set,e]
 rw[Xn (Um hw k rfl) k (by rw[List.length_set];exact h) 2 (by decide) c,List.getElem_set_self,List.set_set]
 rw[Xn (Um hw k rfl) k (by rw[List.length_set];exact h) 3 (by decide) d,List.getElem_set_self,List.set_set]
 rw[Xn (Um hw k rfl) k (by rw[List.length_set];exact h) 4 (by decide) f,List.getElem_set_self,List.set_set]
 rfl
theorem Rj(x:Int)(a:Option Addr)(n c:Nat)(l:List (Int×Int))(w:World)(hn:n≤8796093022208)(h:OpsAt w a n l)(hs:SlOk a n c) :
  Calls Tryz.prog 103 #[.agg #[.int .i64 x,.slice a n c]] w fun e w'=>∃ a' c',e = .returned (.agg #[.int .i64 x,.slice a' n c'])∧Fresh w.heap.size w' (fun w2=>OpsAt w2 a' n l∧SlOk a' n c')∧Below w.heap.size w w':=by
 obtain⟨X,hX⟩:∃ X,X=(w.alloc (.cells #[.int .i64 x,.slice a n c] 101)).alloc (.cells #[.int .i64 0,.slice none 0 0] 101):=⟨_,rfl⟩
 have hbX:Below w.heap.size w X:=by rw[hX];exact Ze (Zf _ _) (Zf _ _)
 have x0:X.cell? ⟨w.heap.size,0,none⟩=some (.int .i64 x):=by rw[hX];exact Zc (Zf _ _) (Yd w _ _ _).1
 have x1:X.cell? ⟨w.heap.size,1,none⟩=some (.slice a n c):=by rw[hX];exact Zc (Zf _ _) (Yd w _ _ _).2
 have hX1:X.heap[w.heap.size+1]? = some (.cells [.int .i64 0,.slice none 0 0].toArray 101 (0,0)):=by
  rw[hX]
  have:=Wt (w.alloc (.cells #[.int .i64 x,.slice a n c] 101)) (.int .i64 0) (.slice none 0 0) 101
  rw[show (w.alloc (.cells #[.int .i64 x,.slice a n c] 101)).heap.size=w.heap.size+1 by simp] at this
  exact this
 have C:=Zb (Uq a n c l X.drew hn (h.later (Ze hbX (Zi X))) hs)
 have HX1:=Zb hX1
 have HBX:=Zb hbX
 clear h hs hbX hX1
 go_enter Tryz.func103,Tryz.ntmps103
 go_wp2_with fail
 rw[←hX]
 clear hX
 go_region_with (go_at_call 102;refine (Za C).mono ?_;rintro e w3 ⟨a',c',rfl,ho3,hb3⟩;have o2:w3.cell? ⟨w.heap.size,0,none⟩=some (.int .i64 x):=Zc hb3 (Zc (Zi _) x0);have hz3:=(hb3.block _ (lt_of_block (Za HX1))).trans (Za HX1);have c0:=Zd hz3 0 _ rfl;have c1:=Zd hz3 1 _ rfl;have f0:=Zh hz3 0;have f1:=Zh hz3 1;have H3:Hid (Fresh X.drew.heap.size w3 (fun w2=>OpsAt w2 a' n l∧SlOk a' n c')∧Below X.drew.heap.size X.drew w3):=⟨ho3,hb3⟩;clear ho3 hb3 hz3)
 all_goals
  go_wp2
  (try simp only[Exit.inBlock,Exit.then])
  obtain⟨ho3,hb3⟩:=Za H3
  have hG:=((Gr.refl w3 (fun q=>q=w.heap.size+1)).one (w.heap.size+1) 0 (.inl rfl) (.int .i64 x)).one (w.heap.size+1) 1 (.inl rfl) (.slice a' n c')
  have hlt:w.heap.size+1<X.drew.heap.size:=lt_of_block (Za HX1)
  refine bodyPost_ret (v:=.agg #[.int .i64 x,.slice a' n c']) ?_ rfl ⟨a',c',rfl,(ho3.on (hG.mono fun q _ e=>by omega)).less (by omega),?_⟩
  ·rw[Yn rfl]
   go_simp
  ·have hsz:=hb3.size
   exact hG.below (Ze (Ze (Za HBX) (Zi _)) hb3) (by omega) (fun k hk=>by omega)
end Go.Proofs.YtpikejjiignchaaGreatDoor.Tr
