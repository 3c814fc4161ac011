import Derived.Test.YtpikejjiignchaaGreatDoorG5
set_option maxHeartbeats 6400000
set_option maxRecDepth 10000
namespace Go.Proofs.YtpikejjiignchaaGreatDoor
open Go.RowKit
theorem Lg(x:Zg)(a:Option Addr)(n c:Nat)(p:PtD)(z:Int)(w:World)(hz:P2 (pt x) p=z) :
  Calls Tryz.prog 229 #[cnV x a n c,.agg #[.int .i64 p.1,.int .i64 p.2]] w fun e w'=>e = .returned (.int .i64 z)∧Below w.heap.size w w':=by
 unfold cnV
 have HB:=Zb (Ze (Zf w (.cells #[.int .i64 x.1,.int .i64 x.2.1,.int .i64 (cv x),.slice a n c,.int .i64 (ch x),.bool (cr x)] 103)) (Zf _ (.cells #[.int .i64 p.1,.int .i64 p.2] 99)))
 have C:=Zb (fun w=>Ro (pt x) p z w hz)
 unfold pt at C
 clear hz
 go_enter Tryz.func229,Tryz.ntmps229
 go_wp2_with fail
 refine ((Za C) _).mono ?_
 rintro e w2 ⟨rfl,hb2⟩
 have HB2:=Zb (Ze (Za HB) hb2)
 clear hb2
 go_wp2
 go_ret
 exact⟨rfl,Za HB2⟩
theorem Ew{L:List Zg}(h:Srt L)(p:PtD)(i:Nat)(hi:i≤L.length)(h1:∀ t (ht:t<L.length),t<i→lt (pt L[t]) p=true)(h2:∀ t (ht:t<L.length),i≤t→lt (pt L[t]) p=false):pos p L=i:=by
 obtain⟨e1,_⟩:=V8 (p:=p) h
 have hl:=Zcj p L
 rcases Nat.lt_trichotomy (pos p L) i with q|q|q
 ·have:=h1 (pos p L) (by omega) q
  have hm:L[pos p L]'(by omega)∈L.drop (pos p L):=by rw[List.drop_eq_getElem_cons (by omega)];exact List.mem_cons_self ..
  rw[(V8 (p:=p) h).2,List.mem_filter] at hm
  rw[this] at hm
  exact absurd hm.2 (by decide)
 ·exact q
 ·have:=h2 i (by omega) (Nat.le_refl _)
  have hm:L[i]'(by omega)∈L.take (pos p L):=by
   rw[List.mem_take_iff_getElem]
   exact⟨i,by omega,rfl⟩
  rw[e1,List.mem_filter,this] at hm
  exact absurd hm.2 (by decide)
theorem Nk{L:List Zg}(h:Srt L)(p:PtD)(i j:Nat)(hi:i<L.length)(hj:j<L.length)(hij:i≤j)(hl:lt (pt L[j]) p=true):lt (pt L[i]) p=true:=by
 rcases Nat.lt_or_ge i j with q|q
 ·exact lt_trans (List.pairwise_iff_getElem.1 h i j hi hj q) hl
 ·obtain rfl:i=j:=by omega
  exact hl
theorem Zei(b off n c:Nat)(L:List Zg)(p:PtD)(k:Nat)(f:Bool)(w:World)(hs:Srt L)(hn:n≤4611686018427387903)(hz:L.length=n)(hc:∀ i (h:i<L.length),CoinAt w b (off+i*6) L[i])
  (hk:pos p L=k) (hf:We p L=f) :
  Calls Tryz.prog 228 #[.slice (some ⟨b,off,none⟩) n c,.agg #[.int .i64 p.1,.int .i64 p.2],.func (.func 229) #[] #[]] w fun e w'=>e = .returned (.tuple #[.int .i64 k,.bool f])∧Below w.heap.size w w':=by
 have HS:=Zb hs
 have HC:=Zb hc
 have HZ:=Zb hz
 have HK:=Zb hk
 have HF:=Zb hf
 clear hs hc hz hk hf
 obtain⟨X,hX⟩:∃ X,X=w.alloc (.cells #[.int .i64 p.1,.int .i64 p.2] 99):=⟨_,rfl⟩
 obtain⟨n0,n1⟩:=Yd w (.int .i64 p.1) (.int .i64 p.2) 99
 rw[←hX] at n0 n1
 have hbX:Below w.heap.size w X:=by rw[hX];exact Zf _ _
 have HBX:=Zb hbX
 have N0:=Zb n0
 have N1:=Zb n1
 clear n0 n1 hbX
 go_enter Tryz.func228,Tryz.ntmps228
 go_wp2
 rw[←hX]
 clear hX
 go_loopw [9,10] (fun s9 s10 wr=>∃ lo hi:Nat,s9 = .int .i64 lo∧s10 = .int .i64 hi∧lo≤hi∧hi≤n∧Hid ((∀ t (ht:t<L.length),t<lo→lt (pt L[t]) p=true)∧(∀ t (ht:t<L.length),hi≤t→lt (pt L[t]) p=false))∧Below X.heap.size X wr) (fun s9 s10 _=>(intOf s10).toNat - (intOf s9).toNat)
 case atStart=>exact⟨0,n,rfl,rfl,Nat.zero_le _,Nat.le_refl _,(⟨fun t _ h=>absurd h (by omega),fun t ht h=>absurd ht (by rw[Za HZ];omega)⟩:(∀ t (ht:t<L.length),t<0→lt (pt L[t]) p=true)∧(∀ t (ht:t<L.length),n≤t→lt (pt L[t]) p=false)),Below.refl _ _⟩
 case round=>
  obtain⟨lo,hi,rfl,rfl,hlh,hin,I,hb⟩:=hrel
  have HB:=Zb hb
  have m0:=Zc hb (Za N0)
  have m1:=Zc hb (Za N1)
  have hsz:=World.block_lt_of_cell? _ _ m0
  by_cases hlt:lo<hi
  ·obtain⟨m,hm⟩:∃ m:Nat,m=(lo+hi) / 2:=⟨_,rfl⟩
   have hmI:((lo:Int)+(hi:Int)) / 2=(m:Int):=by omega
   have hmn:m<n:=by omega
   have hmn2:(m:Int)<(n:Int):=by omega
   have hml:m<L.length:=by rw[Za HZ];exact hmn
   have hin:=CoinAt.kept _ _ _ _ _ (Ze (Za HBX) hb) ((Za HC) m hml)
   have I1:Hid (lt (pt L[m]) p=true→(∀ t (ht:t<L.length),t<m+1→lt (pt L[t]) p=true)∧(∀ t (ht:t<L.length),hi≤t→lt (pt L[t]) p=false)):=fun h=>⟨fun t ht h2=>Nk (Za HS) p t m ht hml (by omega) h,(Za I).2⟩
   have I2:Hid (lt (pt L[m]) p=false→(∀ t (ht:t<L.length),t<lo→lt (pt L[t]) p=true)∧(∀ t (ht:t<L.length),m≤t→lt (pt L[t]) p=false)):=fun h=>⟨(Za I).1,fun t ht h2=>by
    rw[←Bool.not_eq_true]
    intro q
    rw[Nk (Za HS) p m t hml ht h2 q] at h
    exact Bool.noConfusion h⟩
   obtain⟨x,hx⟩:∃ x,L[m]=x:=⟨_,rfl⟩
   rw[hx] at hin I1 I2
   obtain⟨a,l,d,g1,g2,g3,g4,g5,g6,_,_⟩:=hin.val
   obtain⟨z,hz⟩:∃ z,P2 (pt x) p=z:=⟨_,rfl⟩
   have C:=Zb (fun w=>Lg x a l d p z w hz)
   unfold cnV at C
   have hz2:z<0↔lt (pt x) p=true:=by rw[←hz];exact Mq
   have hml2:lo≤m:=by omega
   have hmh:m<hi:=by omega
   have HM:=Zb hm
   clear hin hx hz I hb hm
   by_cases hz0:z<0
   ·have J:=Zb ((Za I1) (hz2.1 hz0))
    clear I1 I2 hz2
    go_wp2_with fail
    go_region_held3 (fun w'=>Below wr.heap.size wr w'∧w'.cell? ⟨w.heap.size,0,none⟩=some (.int .i64 p.1)∧w'.cell? ⟨w.heap.size,1,none⟩=some (.int .i64 p.2)∧w'.cell? ⟨b,off+m*6,none⟩=some (.int .i64 x.1)∧w'.cell? ⟨b,off+m*6+1,none⟩=some (.int .i64 x.2.1)∧w'.cell? ⟨b,off+m*6+2,none⟩=some (.int .i64 (cv x))∧w'.cell? ⟨b,off+m*6+3,none⟩=some (.slice a l d)∧w'.cell? ⟨b,off+m*6+4,none⟩=some (.int .i64 (ch x))∧w'.cell? ⟨b,off+m*6+5,none⟩=some (.bool (cr x)))
     (first
     | exact⟨Zi _,m0,m1,g1,g2,g3,g4,g5,g6⟩
     | (go_split_ands;refine⟨Ze (by assumption) hbc,Zc hbc (by assumption),Zc hbc (by assumption),Zc hbc (by assumption),Zc hbc (by assumption),Zc hbc (by assumption),Zc hbc (by assumption),Zc hbc (by assumption),Zc hbc (by assumption)⟩))
     (first|(go_at_call 229;refine ((Za C) _).mono ?_;rintro e w' ⟨rfl,hbc⟩))
    rename_i hH
    have HH:=Zb (Ze (Za HB) hH.1)
    clear hH
    go_wp2
    go_roundw
    case rel=>exact⟨m+1,hi,by go_num,rfl,by omega,by omega,J,Za HH⟩
    case measure=>simp[intOf];omega
   ·have J:=Zb ((Za I2) (by rw[←Bool.not_eq_true];intro q;exact hz0 (hz2.2 q)))
    clear I1 I2 hz2
    go_wp2_with fail
    go_region_held3 (fun w'=>Below wr.heap.size wr w'∧w'.cell? ⟨w.heap.size,0,none⟩=some (.int .i64 p.1)∧w'.cell? ⟨w.heap.size,1,none⟩=some (.int .i64 p.2)∧w'.cell? ⟨b,off+m*6,none⟩=some (.int .i64 x.1)∧w'.cell? ⟨b,off+m*6+1,none⟩=some (.int .i64 x.2.1)∧w'.cell? ⟨b,off+m*6+2,none⟩=some (.int .i64 (cv x))∧w'.cell? ⟨b,off+m*6+3,none⟩=some (.slice a l d)∧w'.cell? ⟨b,off+m*6+4,none⟩=some (.int .i64 (ch x))∧w'.cell? ⟨b,off+m*6+5,none⟩=some (.bool (cr x)))
     (first
     | exact⟨Zi _,m0,m1,g1,g2,g3,g4,g5,g6⟩
     | (go_split_ands;refine⟨Ze (by assumption) hbc,Zc hbc (by assumption),Zc hbc (by assumption),Zc hbc (by assumption),Zc hbc (by assumption),Zc hbc (by assumption),Zc hbc (by assumption),Zc hbc (by assumption),Zc hbc (by assumption)⟩))
     (first|(go_at_call 229;refine ((Za C) _).mono ?_;rintro e w' ⟨rfl,hbc⟩))
    rename_i hH
    have HH:=Zb (Ze (Za HB) hH.1)
    clear hH
    go_wp2
    go_roundw
    case rel=>exact⟨lo,m,rfl,by go_num,by omega,by omega,J,Za HH⟩
    case measure=>simp[intOf];omega
  ·have e:lo=hi:=by omega
   subst e
   have ek:k=lo:=by rw[←Za HK];exact Ew (Za HS) p lo (by rw[Za HZ];exact hin) (fun t ht h=>(Za I).1 t ht h) (fun t ht h=>(Za I).2 t ht h)
   subst ek
   have hf:=Dw (p:=p) (Za HS)
   rw[Za HF,Za HK,Za HZ] at hf
   by_cases hkn:k<n
   ·have hkl:k<L.length:=by rw[Za HZ];exact hkn
    have hkn2:(k:Int)<(n:Int):=by omega
    have hin2:=CoinAt.kept _ _ _ _ _ (Ze (Za HBX) hb) ((Za HC) k hkl)
    rw[List.getElem?_eq_getElem hkl,Option.map_some] at hf
    obtain⟨x,hx⟩:∃ x,L[k]=x:=⟨_,rfl⟩
    rw[hx] at hin2 hf
    obtain⟨a,l,d,g1,g2,g3,g4,g5,g6,_,_⟩:=hin2.val
    obtain⟨z,hz⟩:∃ z,P2 (pt x) p=z:=⟨_,rfl⟩
    have C:=Zb (fun w=>Lg x a l d p z w hz)
    unfold cnV at C
    have hg:decide ((k:Int)<(n:Int))=true:=decide_eq_true hkn2
    have hfz:Hid (f=decide (z=0)):=by
     show _=_
     rw[hf,decide_eq_true hkn,Bool.true_and,←hz]
     exact decide_eq_decide.2 (by rw[Option.some.injEq,Zgi])
    clear hin2 hx hz hf hb I
    by_cases hz0:z=0
    ·subst hz0
     have F:Hid (f=true):=by show _=_;rw[Za hfz];rfl
     clear hfz
     go_wp2_with fail
     go_region_held3 (fun w'=>Below wr.heap.size wr w'∧w'.cell? ⟨w.heap.size,0,none⟩=some (.int .i64 p.1)∧w'.cell? ⟨w.heap.size,1,none⟩=some (.int .i64 p.2)∧w'.cell? ⟨b,off+k*6,none⟩=some (.int .i64 x.1)∧w'.cell? ⟨b,off+k*6+1,none⟩=some (.int .i64 x.2.1)∧w'.cell? ⟨b,off+k*6+2,none⟩=some (.int .i64 (cv x))∧w'.cell? ⟨b,off+k*6+3,none⟩=some (.slice a l d)∧w'.cell? ⟨b,off+k*6+4,none⟩=some (.int .i64 (ch x))∧w'.cell? ⟨b,off+k*6+5,none⟩=some (.bool (cr x)))
      (first
      | exact⟨Zi _,m0,m1,g1,g2,g3,g4,g5,g6⟩
      | (go_split_ands;refine⟨Ze (by assumption) hbc,Zc hbc (by assumption),Zc hbc (by assumption),Zc hbc (by assumption),Zc hbc (by assumption),Zc hbc (by assumption),Zc hbc (by assumption),Zc hbc (by assumption),Zc hbc (by assumption)⟩))
      (first|(go_at_call 229;refine ((Za C) _).mono ?_;rintro e w' ⟨rfl,hbc⟩))
     rename_i hH
     have HH:=Zb (Ze (Za HB) hH.1)
     clear hH
     go_wp2
     go_ret2
     exact⟨by rw[Za F];rfl,Ze (Za HBX) (Za HH)⟩
    ·have F:Hid (f=false):=by show _=_;rw[Za hfz];exact decide_eq_false hz0
     have gz:(z == 0)=false:=by simp[hz0]
     clear hfz
     go_wp2_with fail
     go_region_held3 (fun w'=>Below wr.heap.size wr w'∧w'.cell? ⟨w.heap.size,0,none⟩=some (.int .i64 p.1)∧w'.cell? ⟨w.heap.size,1,none⟩=some (.int .i64 p.2)∧w'.cell? ⟨b,off+k*6,none⟩=some (.int .i64 x.1)∧w'.cell? ⟨b,off+k*6+1,none⟩=some (.int .i64 x.2.1)∧w'.cell? ⟨b,off+k*6+2,none⟩=some (.int .i64 (cv x))∧w'.cell? ⟨b,off+k*6+3,none⟩=some (.slice a l d)∧w'.cell? ⟨b,off+k*6+4,none⟩=some (.int .i64 (ch x))∧w'.cell? ⟨b,off+k*6+5,none⟩=some (.bool (cr x)))
      (first
      | exact⟨Zi _,m0,m1,g1,g2,g3,g4,g5,g6⟩
      | (go_split_ands;refine⟨Ze (by assumption) hbc,Zc hbc (by assumption),Zc hbc (by assumption),Zc hbc (by assumption),Zc hbc (by assumption),Zc hbc (by assumption),Zc hbc (by assumption),Zc hbc (by assumption),Zc hbc (by assumption)⟩))
      (first|(go_at_call 229;refine ((Za C) _).mono ?_;rintro e w' ⟨rfl,hbc⟩))
     rename_i hH
     have HH:=Zb (Ze (Za HB) hH.1)
     clear hH
     go_wp2
     go_ret2
     exact⟨by rw[Za F];rfl,Ze (Za HBX) (Za HH)⟩
   ·have F:Hid (f=false):=by show _=_;rw[hf,decide_eq_false hkn,Bool.false_and]
    have hg:decide ((k:Int)<(n:Int))=false:=decide_eq_false (by omega)
    clear hf hb I
    go_wp2_with fail
    go_quiet (fail)
    go_wp2
    go_ret2
    exact⟨by rw[Za F];rfl,Ze (Za HBX) (Ze (Za HB) (Sm _ _))⟩
theorem Zej(a:Option Addr)(c:Nat)(p:PtD)(v:Value)(w:World) :
  Calls Tryz.prog 228 #[.slice a 0 c,.agg #[.int .i64 p.1,.int .i64 p.2],v] w fun e w'=>e = .returned (.tuple #[.int .i64 0,.bool false])∧Below w.heap.size w w':=by
 have HB:=Zb (Zf w (.cells #[.int .i64 p.1,.int .i64 p.2] 99))
 go_enter Tryz.func228,Tryz.ntmps228
 go_wp2
 refine wp_loop_rounds 1 ?_
 rw[rounds_succ]
 go_wp2_with fail
 go_quiet (fail)
 go_wp2
 go_ret2
 exact⟨rfl,Ze (Za HB) (Sm _ _)⟩
theorem Zgl(a:Option Addr)(n c:Nat)(L:List Zg)(p:PtD)(k:Nat)(f:Bool)(w:World)(hs:Srt L)(hn:n≤4611686018427387903)(h:CoinsAt w a n L)(hk:pos p L=k)(hf:We p L=f) :
  Calls Tryz.prog 228 #[.slice a n c,.agg #[.int .i64 p.1,.int .i64 p.2],.func (.func 229) #[] #[]] w fun e w'=>e = .returned (.tuple #[.int .i64 k,.bool f])∧Below w.heap.size w w':=by
 obtain⟨hl,hc⟩:=h
 by_cases h2:n=0
 ·subst h2
  have e:L=[]:=List.length_eq_zero_iff.1 hl
  subst e
  subst hk hf
  exact Zej a c p _ w
 ·obtain⟨b,off,rfl,_,hcell⟩:=hc (by omega)
  exact Zei b off n c L p k f w hs hn hl hcell hk hf
theorem Jr(a:Option Addr)(n c:Nat)(L:List Zg)(p:PtD)(k:Nat)(f:Bool)(w:World)(hs:Srt L)(hn:n≤4611686018427387903)(h:CoinsAt w a n L)(hk:pos p L=k)(hf:We p L=f) :
  Calls Tryz.prog 194 #[.slice a n c,.agg #[.int .i64 p.1,.int .i64 p.2]] w fun e w'=>e = .returned (.tuple #[.int .i64 k,.bool f])∧Below w.heap.size w w':=by
 have hb:=Zf w (.cells #[.int .i64 p.1,.int .i64 p.2] 99)
 have HB:=Zb hb
 have C:=Zb (Zgl a n c L p k f _ hs hn (h.later hb) hk hf)
 clear hs h hk hf hb
 go_enter Tryz.func194,Tryz.ntmps194
 go_wp2_with fail
 refine (Za C).mono ?_
 rintro e w2 ⟨rfl,hb2⟩
 have HB2:=Zb (Ze (Za HB) hb2)
 clear hb2
 go_wp2
 go_ret2
 exact⟨rfl,Za HB2⟩
theorem Ys{fn:Func}{p u:Tmp}{ty:TypeId}(h:fn.results=#[.cell p ty,.tmp u])(tmps:Array Value)(P:Program)(w:World) :
  (results fn tmps).run P w =
   ((asAddr (tmps.getD p undef)).run P w).andThen fun a w₁=>((loadVar ty a).run P w₁).andThen fun x w₂=>.ok (.tuple #[x,tmps.getD u undef]) w₂:=by
 simp only[results,h]
 simp[Sem.run_bind,Result.andThen]
theorem Ad(w0 w:World)(p:Nat)(v:Value)(K:List CV)(q:PtD)(h:Pu w0 w p v K)(hs:Srt (K.map (·.1)))(hn:K.length≤4096)(hf:We q (K.map (·.1))=false) :
  Calls Tryz.prog 169 #[.pointer (some ⟨p,0,none⟩),.agg #[.int .i64 q.1,.int .i64 q.2]] w fun e w'=>e = .returned (.tuple #[zeroC,.bool false])∧Below w.heap.size w w':=by
 obtain⟨a,c,rfl,hC,hS⟩:=h.coins
 obtain⟨n,hn'⟩:∃ n,K.length=n:=⟨_,rfl⟩
 obtain⟨k,hk⟩:∃ k,pos q (K.map (·.1))=k:=⟨_,rfl⟩
 have hbox:=h.box
 rw[hn'] at hC hbox hn
 obtain⟨X,hX⟩:∃ X,X=(w.alloc (.cells #[.int .i64 q.1,.int .i64 q.2] 99)).alloc (.cells #[.int .i64 0,.int .i64 0,.int .i64 0,.slice none 0 0,.int .i64 0,.bool false] 103):=⟨_,rfl⟩
 have hbX:Below w.heap.size w X:=by rw[hX];exact Ze (Zf _ _) (Zf _ _)
 have hX1:X.heap[w.heap.size+1]? = some (.cells zeroCs.toArray 103 (0,0)):=by
  rw[hX]
  have:=heap_alloc_new (w.alloc (.cells #[.int .i64 q.1,.int .i64 q.2] 99)) (.cells zeroCs.toArray 103)
  rw[show (w.alloc (.cells #[.int .i64 q.1,.int .i64 q.2] 99)).heap.size=w.heap.size+1 by simp] at this
  exact this
 have x0:X.cell? ⟨w.heap.size,0,none⟩=some (.int .i64 q.1):=by rw[hX];exact Zc (Zf _ _) (Yd w _ _ _).1
 have x1:X.cell? ⟨w.heap.size,1,none⟩=some (.int .i64 q.2):=by rw[hX];exact Zc (Zf _ _) (Yd w _ _ _).2
 have xp:X.cell? ⟨p,0,none⟩=some (.slice a n c):=Zc hbX (Zd (X:=[.slice a n c]) hbox 0 _ rfl)
 have PL:=Zb (fun w' (hb:Below X.heap.size X w')=>Jr a n c (K.map (·.1)) q k false w' hs (by omega) ((hC.later hbX).later hb) hk hf)
 have HBX:=Zb hbX
 have HX1:=Zb hX1
 clear hk hf hC hS hs hbox hbX hX1 h hn'
 go_enter Tryz.func169,Tryz.ntmps169
 go_wp2_with fail
 rw[←hX]
 clear hX
 go_region_held3 (fun w'=>Below X.heap.size X w'∧w'.cell? ⟨w.heap.size,0,none⟩=some (.int .i64 q.1)∧w'.cell? ⟨w.heap.size,1,none⟩=some (.int .i64 q.2)∧w'.cell? ⟨p,0,none⟩=some (.slice a n c))
  (first
  | exact⟨Zi _,x0,x1,xp⟩
  | (go_split_ands;refine⟨Ze (by assumption) hbc,Zc hbc (by assumption),Zc hbc (by assumption),Zc hbc (by assumption)⟩))
  (first|(go_at_call 194;go_split_ands;refine ((Za PL) _ (by assumption)).mono ?_;rintro e w' ⟨rfl,hbc⟩))
 rename_i hH
 have hh:=(hH.1.block _ (lt_of_block (Za HX1))).trans (Za HX1)
 have HB:=Zb (Ze (Za HBX) hH.1)
 have f0:=Zh hh 0
 have f1:=Zh hh 1
 have f2:=Zh hh 2
 have f3:=Zh hh 3
 have f4:=Zh hh 4
 have f5:=Zh hh 5
 have c0:=Zd hh 0 _ rfl
 have c1:=Zd hh 1 _ rfl
 have c2:=Zd hh 2 _ rfl
 have c3:=Zd hh 3 _ rfl
 have c4:=Zd hh 4 _ rfl
 have c5:=Zd hh 5 _ rfl
 clear hh hH
 go_wp2
 (try simp only[Exit.inBlock,Exit.then])
 refine bodyPost_ret (v:=.tuple #[zeroC,.bool false]) ?_ rfl ⟨rfl,?_⟩
 ·rw[Ys rfl]
  unfold zeroC
  go_simp
 ·exact ((((((Za HB).setCell (Nat.le_succ _) _).setCell (Nat.le_succ _) _).setCell (Nat.le_succ _) _).setCell (Nat.le_succ _) _).setCell (Nat.le_succ _) _).setCell (Nat.le_succ _) _
theorem Ur{w:World}{p:Nat}{v u:Value}{t:TypeId}(h:w.heap[p]? = some (.cells #[v] t (0,0))):(w.setCell ⟨p,0,none⟩ u).heap[p]? = some (.cells #[u] t (0,0)):=by
 rw[setCell_eq_setRow w p 0 #[v] t (0,0) u h]
 exact setRow_heap w p _ _ t _ h
theorem Zfs(K:List CV)(k:Nat)(h:k<K.length):(K.map (·.1))[k]'(by simpa using h)=K[k].1:=by simp
theorem Uc(w:World)(a b c d e f:Value)(t:TypeId):(w.alloc (.cells #[a,b,c,d,e,f] t)).heap[w.heap.size]? = some (.cells [a,b,c,d,e,f].toArray t (0,0)):=heap_alloc_new w _
theorem Ac(w0 w:World)(p:Nat)(v:Value)(K:List CV)(q:PtD)(h:Pu w0 w p v K)(hs:Srt (K.map (·.1)))(hn:K.length≤4096)(hf:We q (K.map (·.1))=true) :
  Calls Tryz.prog 169 #[.pointer (some ⟨p,0,none⟩),.agg #[.int .i64 q.1,.int .i64 q.2]] w fun e w'=>∃ (x:CV) (v':Value) (K':List CV),e = .returned (.tuple #[cnV x.1 x.2.1 x.2.2.1 x.2.2.2,.bool true])∧Wu q (K.map (·.1))=some (x.1,K'.map (·.1))∧x∈K∧(∀ y∈K',y∈K)∧K'.length+1=K.length ∧
   Pu w0 w' p v' K'∧Gr w w' (PuS p v)∧v'.ownBlock=v.ownBlock:=by
 have hO:=h.own
 obtain⟨k,hk⟩:∃ k,pos q (K.map (·.1))=k:=⟨_,rfl⟩
 have hp:=Dw (p:=q) hs
 rw[hf,hk] at hp
 have hp2:=Eq.symm hp
 rw[Bool.and_eq_true,decide_eq_true_eq,decide_eq_true_eq,List.length_map] at hp2
 obtain⟨hkl,hke⟩:=hp2
 have hke2:pt ((K.map (·.1))[k]'(by simpa using hkl))=q:=by
  rw[List.getElem?_eq_getElem (by simpa using hkl),Option.map_some,Option.some.injEq] at hke;exact hke
 have hT:=Zbi (p:=q) hs (by rw[hk];simpa using hkl) (by simp only[hk];exact hke2)
 simp only[hk] at hT
 rw[Zfs K k hkl,←List.map_take,←List.map_drop,←List.map_append] at hT
 obtain⟨a,c,rfl,hC,hS⟩:=h.coins
 obtain⟨g,rfl⟩:∃ g,a=some ⟨g,0,none⟩:=by
  rcases hO.2 with ⟨_,e⟩|⟨g,_,_,e,_⟩
  ·omega
  ·simp only[Value.slice.injEq] at e;exact⟨g,e.1⟩
 obtain⟨n,hn'⟩:∃ n,K.length=n:=⟨_,rfl⟩
 have hbox:=h.box
 have hgp:g≠p:=fun e=>h.ne (by rw[e];rfl)
 have hbg:w0.heap.size≤g:=Yk hO g rfl
 obtain⟨x,hx⟩:∃ x,K[k]=x:=⟨_,rfl⟩
 have hxm:x∈K:=by rw[←hx];exact List.getElem_mem hkl
 obtain⟨f0,f1,f2,f3,f4,f5⟩:=U3 K k hkl
 rw[hx] at f0 f1 f2 f3 f4 f5 hT
 rw[hn'] at hC hbox hn hkl hO
 have cg:∀ j u,j<n*6→(Zj K)[j]? = some u→w.cell? ⟨g,j,none⟩=some u:=fun j u hj hu=>by rw[World.ownsRow.cellAt hO j hj];exact hu
 obtain⟨X,hX⟩:∃ X,X=(w.alloc (.cells #[.int .i64 q.1,.int .i64 q.2] 99)).alloc (.cells #[.int .i64 0,.int .i64 0,.int .i64 0,.slice none 0 0,.int .i64 0,.bool false] 103):=⟨_,rfl⟩
 have hbX:Below w.heap.size w X:=by rw[hX];exact Ze (Zf _ _) (Zf _ _)
 have hX1:X.heap[w.heap.size+1]? = some (.cells zeroCs.toArray 103 (0,0)):=by
  rw[hX]
  have:=heap_alloc_new (w.alloc (.cells #[.int .i64 q.1,.int .i64 q.2] 99)) (.cells zeroCs.toArray 103)
  rw[show (w.alloc (.cells #[.int .i64 q.1,.int .i64 q.2] 99)).heap.size=w.heap.size+1 by simp] at this
  exact this
 have x0:X.cell? ⟨w.heap.size,0,none⟩=some (.int .i64 q.1):=by rw[hX];exact Zc (Zf _ _) (Yd w _ _ _).1
 have x1:X.cell? ⟨w.heap.size,1,none⟩=some (.int .i64 q.2):=by rw[hX];exact Zc (Zf _ _) (Yd w _ _ _).2
 have xp:X.cell? ⟨p,0,none⟩=some (.slice (some ⟨g,0,none⟩) n c):=Zc hbX (Zd (X:=[.slice (some ⟨g,0,none⟩) n c]) hbox 0 _ rfl)
 have PL:=Zb (fun w' (hb:Below X.heap.size X w')=>Jr (some ⟨g,0,none⟩) n c (K.map (·.1)) q k true w' hs (by omega) ((hC.later hbX).later hb) hk hf)
 have D0:=Zb (cg _ _ (by omega) f0)
 have D1:=Zb (cg _ _ (by omega) f1)
 have D2:=Zb (cg _ _ (by omega) f2)
 have D3:=Zb (cg _ _ (by omega) f3)
 have D4:=Zb (cg _ _ (by omega) f4)
 have D5:=Zb (cg _ _ (by omega) f5)
 have HBX:=Zb hbX
 have HX1:=Zb hX1
 have HO:=Zb hO
 have HT:=Zb hT
 have HP:=Zb h
 have HBOX:=Zb hbox
 have HXM:=Zb hxm
 have HN':=Zb hn'
 have hpw:p<w.heap.size:=h.lt
 have hgw:g<w.heap.size:=(hO.lt g rfl).2
 clear hk hf hC hS hs hbox hbX hX1 h hO hT hke hke2 hp f0 f1 f2 f3 f4 f5 cg hx hxm hn'
 go_enter Tryz.func169,Tryz.ntmps169
 go_wp2_with fail
 rw[←hX]
 clear hX
 go_region_held3 (fun w'=>Below X.heap.size X w'∧w'.cell? ⟨w.heap.size,0,none⟩=some (.int .i64 q.1)∧w'.cell? ⟨w.heap.size,1,none⟩=some (.int .i64 q.2)∧w'.cell? ⟨p,0,none⟩=some (.slice (some ⟨g,0,none⟩) n c))
  (first
  | exact⟨Zi _,x0,x1,xp⟩
  | (go_split_ands;refine⟨Ze (by assumption) hbc,Zc hbc (by assumption),Zc hbc (by assumption),Zc hbc (by assumption)⟩))
  (first|(go_at_call 194;go_split_ands;refine ((Za PL) _ (by assumption)).mono ?_;rintro e w' ⟨rfl,hbc⟩))
 rename_i hH
 have hb2:=Ze (Za HBX) hH.1
 have hh2:=(hH.1.block _ (lt_of_block (Za HX1))).trans (Za HX1)
 have d0:=Zc hb2 (Za D0)
 have d1:=Zc hb2 (Za D1)
 have d2:=Zc hb2 (Za D2)
 have d3:=Zc hb2 (Za D3)
 have d4:=Zc hb2 (Za D4)
 have d5:=Zc hb2 (Za D5)
 have xp2:=hH.2.2.2
 have hpl:=World.block_lt_of_cell? _ _ xp2
 have hkI:(k:Int)<(n:Int):=by omega
 have hw1:IntKind.i64.wrap ((k:Int)+1)=(k:Int)+1:=by rw[IntKind.wrap_i64];omega
 obtain⟨Y,hY⟩:∃ Y,Y=w'.alloc (.cells #[.int .i64 x.1.1,.int .i64 x.1.2.1,.int .i64 (cv x.1),.slice x.2.1 x.2.2.1 x.2.2.2,.int .i64 (ch x.1),.bool (cr x.1)] 103):=⟨_,rfl⟩
 have hbY:Below w'.heap.size w' Y:=by rw[hY];exact Zf _ _
 have hy:Y.heap[w'.heap.size]? = some (.cells [.int .i64 x.1.1,.int .i64 x.1.2.1,.int .i64 (cv x.1),.slice x.2.1 x.2.2.1 x.2.2.2,.int .i64 (ch x.1),.bool (cr x.1)].toArray 103 (0,0)):=by rw[hY];exact Uc _ _ _ _ _ _ _ _
 have hOY:Y.ownsRow w0.heap.size 103 6 (.slice (some ⟨g,0,none⟩) n c) n (Zj K):=(Gr.of (S:=fun _=>False) (Ze hb2 hbY)).own (Za HO) (fun _ _ q=>q)
 have DEL:=Ki w0.heap.size g n c k (k+1) K Y hkl rfl (Za HN') hOY
 rw[show ((k+1:Nat):Int)=(k:Int)+1 by omega] at DEL
 have HDEL:=Zb DEL
 have yp:=Zc hbY xp2
 have hpl2:=World.block_lt_of_cell? _ _ yp
 have HBY:=Zb (Ze hb2 hbY)
 have HHY:=Zb ((hbY.block _ (lt_of_block hh2)).trans hh2)
 have HY6:=Zb hy
 have hsw:w.heap.size+1<w'.heap.size:=lt_of_block hh2
 clear hH hbc hb2 hh2 xp x0 x1 hbY hy hOY DEL
 go_wp2_with fail
 rw[←hY]
 clear hY
 go_wp2_with fail
 refine (Za HDEL).mono ?_
 rintro e w4 ⟨rfl,hown4,hgr4⟩
 have hp4:=(hgr4.block p (by omega) (by simp;exact fun e=>hgp e.symm)).trans (((Za HBY).block p hpw).trans (Za HBOX))
 have hz4:=(hgr4.block (w.heap.size+1) (lt_of_block (Za HHY)) (by simp;omega)).trans (Za HHY)
 have hy4:=(hgr4.block w'.heap.size (lt_of_block (Za HY6)) (by simp;omega)).trans (Za HY6)
 have p4:=Zd (X:=[.slice (some ⟨g,0,none⟩) n c]) hp4 0 _ rfl
 have p4f:=Zh hp4 0
 have e0:=Zd hy4 0 _ rfl
 have e1:=Zd hy4 1 _ rfl
 have e2:=Zd hy4 2 _ rfl
 have e3:=Zd hy4 3 _ rfl
 have e4:=Zd hy4 4 _ rfl
 have e5:=Zd hy4 5 _ rfl
 have z0:=Zd hz4 0 _ rfl
 have z1:=Zd hz4 1 _ rfl
 have z2:=Zd hz4 2 _ rfl
 have z3:=Zd hz4 3 _ rfl
 have z4:=Zd hz4 4 _ rfl
 have z5:=Zd hz4 5 _ rfl
 have y0:=Zh hz4 0
 have y1:=Zh hz4 1
 have y2:=Zh hz4 2
 have y3:=Zh hz4 3
 have y4:=Zh hz4 4
 have y5:=Zh hz4 5
 have n1:¬(w'.heap.size=p):=by omega
 have n2:¬(p=w'.heap.size):=by omega
 have n3:¬(w.heap.size+1=p):=by omega
 have n4:¬(p=w.heap.size+1):=by omega
 have n5:¬(w'.heap.size=w.heap.size+1):=by omega
 have n6:¬(w.heap.size+1=w'.heap.size):=by omega
 have GA:Hid (Gr w w4 (PuS p (.slice (some ⟨g,0,none⟩) n c))):=(Gr.of (Za HBY)).grown hgr4 (fun k hk=>.inl (.inr hk))
 have GS:Hid (∀ k,PuS p (.slice (some ⟨g,0,none⟩) n c) k→w0.heap.size≤k):=fun k hk=>by
  rcases hk with rfl|hk
  ·exact (Za HP).ge
  ·cases hk;exact hbg
 have GO:Hid (∀ k,(Value.slice (some ⟨g,0,none⟩) (n - 1) c).ownBlock=some k→¬(k=p∨k=w.heap.size+1)):=fun k hk=>by
  cases hk
  rintro (e|e)
  ·exact hgp e
  ·have e2:g=w.heap.size+1:=e
   omega
 have HO4:=Zb hown4
 have HP4:=Zb hp4
 have hlt4:=lt_of_block hy4
 have hlt4p:p<w4.heap.size:=lt_of_block hp4
 clear hgr4 hown4 hp4 hz4 hy4 d0 d1 d2 d3 d4 d5 yp xp2
 go_wp2
 (try simp only[Exit.inBlock,Exit.then])
 refine bodyPost_ret (v:=.tuple #[cnV x.1 x.2.1 x.2.2.1 x.2.2.2,.bool true]) ?_ rfl ⟨x,.slice (some ⟨g,0,none⟩) (n - 1) c,K.take k++K.drop (k+1),rfl,Za HT,Za HXM,?_,?_,?_,?_,rfl⟩
 ·rw[Ys rfl]
  unfold cnV
  go_simp
 ·exact fun y hy=>(List.mem_append.1 hy).elim List.mem_of_mem_take List.mem_of_mem_drop
 ·have:=Za HN'
  simp only[List.length_append,List.length_take,List.length_drop]
  omega
 ·have hl:(K.take k++K.drop (k+1)).length=n - 1:=by
   have:=Za HN'
   simp only[List.length_append,List.length_take,List.length_drop]
   omega
  have hp:=Za HP
  refine⟨?_,hp.ge,?_,?_,fun e=>hgp (by cases e;rfl),fun y hy=>hp.lk y ((List.mem_append.1 hy).elim List.mem_of_mem_take List.mem_of_mem_drop)⟩
  ·exact (((Za GA).one p 0 (.inl (.inl rfl)) _).six (w.heap.size+1) (.inr (Nat.le_succ _)) _ _ _ _ _ _).below hp.bel hp.bel.size (Za GS)
  ·exact ((Gr.refl _ (fun k=>k=w.heap.size+1)).six (w.heap.size+1) (.inl rfl) _ _ _ _ _ _).heap (Ur (Za HP4)) n4
  ·rw[hl]
   exact (((Gr.refl w4 (fun k=>k=p∨k=w.heap.size+1)).one p 0 (.inl (.inl rfl)) _).six (w.heap.size+1) (.inl (.inr rfl)) _ _ _ _ _ _).own (Za HO4) (Za GO)
 ·exact ((Za GA).one p 0 (.inl (.inl rfl)) _).six (w.heap.size+1) (.inr (Nat.le_succ _)) _ _ _ _ _ _
theorem Ym{w:World}{base:Nat}{e:TypeId}{size:Nat}{v:Value}{n:Nat}{xs:List Value}(h:w.ownsRow base e size v n xs):∃ a c,v = .slice a n c:=by
 rcases h.2 with ⟨rfl,rfl⟩|⟨g,cap,cur,rfl,_⟩
 ·exact⟨none,0,rfl⟩
 ·exact⟨_,_,rfl⟩
def Nn(y:CV):List Value:=[.int .i64 y.1.1,.int .i64 y.1.2.1,.int .i64 (cv y.1),.slice y.2.1 y.2.2.1 y.2.2.2,.int .i64 (ch y.1),.bool (cr y.1)]
theorem Zdp(y:CV):Zj [y]=Nn y:=rfl
theorem Zfc(w0 w:World)(p:Nat)(v:Value)(K:List CV)(y:CV)(h:Pu w0 w p v K)(hs:Srt (K.map (·.1)))(hn:K.length≤4096)(hf:We (pt y.1) (K.map (·.1))=true) :
  Calls Tryz.prog 171 #[.pointer (some ⟨p,0,none⟩),cnV y.1 y.2.1 y.2.2.1 y.2.2.2] w fun e w'=>e = .returned (.bool false)∧Below w.heap.size w w':=by
 obtain⟨a,c,rfl,hC,hS⟩:=h.coins
 obtain⟨n,hn'⟩:∃ n,K.length=n:=⟨_,rfl⟩
 obtain⟨k,hk⟩:∃ k,pos (pt y.1) (K.map (·.1))=k:=⟨_,rfl⟩
 have hbox:=h.box
 rw[hn'] at hC hbox hn
 unfold cnV
 obtain⟨X,hX⟩:∃ X,X=w.alloc (.cells #[.int .i64 y.1.1,.int .i64 y.1.2.1,.int .i64 (cv y.1),.slice y.2.1 y.2.2.1 y.2.2.2,.int .i64 (ch y.1),.bool (cr y.1)] 103):=⟨_,rfl⟩
 have hbX:Below w.heap.size w X:=by rw[hX];exact Zf _ _
 have hX1:X.heap[w.heap.size]? = some (.cells (Nn y).toArray 103 (0,0)):=by rw[hX];exact Uc _ _ _ _ _ _ _ _
 have x0:=Zd hX1 0 _ rfl
 have x1:=Zd hX1 1 _ rfl
 have xp:X.cell? ⟨p,0,none⟩=some (.slice a n c):=Zc hbX (Zd (X:=[.slice a n c]) hbox 0 _ rfl)
 have PL:=Zb (fun w' (hb:Below X.heap.size X w')=>Jr a n c (K.map (·.1)) (pt y.1) k true w' hs (by omega) ((hC.later hbX).later hb) hk hf)
 unfold pt at PL
 have HBX:=Zb hbX
 clear hk hf hC hS hs hbox hbX hX1 h hn'
 go_enter Tryz.func171,Tryz.ntmps171
 go_wp2_with fail
 rw[←hX]
 clear hX
 go_region_held3 (fun w'=>Below X.heap.size X w'∧w'.cell? ⟨w.heap.size,0,none⟩=some (.int .i64 y.1.1)∧w'.cell? ⟨w.heap.size,1,none⟩=some (.int .i64 y.1.2.1)∧w'.cell? ⟨p,0,none⟩=some (.slice a n c))
  (first
  | exact⟨Zi _,x0,x1,xp⟩
  | (go_split_ands;refine⟨Ze (by assumption) hbc,Zc hbc (by assumption),Zc hbc (by assumption),Zc hbc (by assumption)⟩))
  (first|(go_at_call 194;go_split_ands;refine ((Za PL) _ (by assumption)).mono ?_;rintro e w' ⟨rfl,hbc⟩))
 rename_i hH
 have HB:=Zb (Ze (Za HBX) hH.1)
 clear hH
 go_wp2
 go_ret
 exact⟨rfl,Za HB⟩
theorem Zci(w0 w:World)(p:Nat)(v:Value)(K:List CV)(y:CV)(h:Pu w0 w p v K)(hs:Srt (K.map (·.1)))(hn:K.length≤4096)(hf:We (pt y.1) (K.map (·.1))=false)(hy:LkAt w0 y) :
  Calls Tryz.prog 171 #[.pointer (some ⟨p,0,none⟩),cnV y.1 y.2.1 y.2.2.1 y.2.2.2] w fun e w'=>∃ (v':Value) (K':List CV),e = .returned (.bool true)∧K'.map (·.1)=Vz y.1 (K.map (·.1))∧(∀ z∈K',z=y∨z∈K)∧K'.length=K.length+1 ∧
   Pu w0 w' p v' K'∧Gr w w' (PuS p v)∧(v'.ownBlock=v.ownBlock∨∀ k,v'.ownBlock=some k→w.heap.size≤k):=by
 obtain⟨a,c,rfl,hC,hS⟩:=h.coins
 obtain⟨n,hn'⟩:∃ n,K.length=n:=⟨_,rfl⟩
 obtain⟨k,hk⟩:∃ k,pos (pt y.1) (K.map (·.1))=k:=⟨_,rfl⟩
 have hbox:=h.box
 have hO:=h.own
 have hne:=h.ne
 have hkn:k≤n:=by rw[←hk,←hn'];have:=Zcj (pt y.1) (K.map (·.1));simpa using this
 have hPD:=Bz hs hf
 rw[hk,←List.map_take,←List.map_drop,show y.1 :: (K.drop k).map (·.1)=(y :: K.drop k).map (·.1) from rfl,←List.map_append] at hPD
 rw[hn'] at hC hbox hn hO hne
 unfold cnV
 obtain⟨X,hX⟩:∃ X,X=w.alloc (.cells #[.int .i64 y.1.1,.int .i64 y.1.2.1,.int .i64 (cv y.1),.slice y.2.1 y.2.2.1 y.2.2.2,.int .i64 (ch y.1),.bool (cr y.1)] 103):=⟨_,rfl⟩
 have hbX:Below w.heap.size w X:=by rw[hX];exact Zf _ _
 have hX1:X.heap[w.heap.size]? = some (.cells (Nn y).toArray 103 (0,0)):=by rw[hX];exact Uc _ _ _ _ _ _ _ _
 have x0:=Zd hX1 0 _ rfl
 have x1:=Zd hX1 1 _ rfl
 have xp:X.cell? ⟨p,0,none⟩=some (.slice a n c):=Zc hbX (Zd (X:=[.slice a n c]) hbox 0 _ rfl)
 have PL:=Zb (fun w' (hb:Below X.heap.size X w')=>Jr a n c (K.map (·.1)) (pt y.1) k false w' hs (by omega) ((hC.later hbX).later hb) hk hf)
 unfold pt at PL
 have HBX:=Zb hbX
 have HX1:=Zb hX1
 have HO:=Zb hO
 have HNE:=Zb hne
 have HPD:=Zb hPD
 have HP:=Zb h
 have HY:=Zb hy
 have HBOX:=Zb hbox
 have HN':=Zb hn'
 have hpw:p<w.heap.size:=h.lt
 clear hk hf hC hS hs hbox hbX hX1 h hn' hO hne hPD hy
 go_enter Tryz.func171,Tryz.ntmps171
 go_wp2_with fail
 rw[←hX]
 clear hX
 go_region_held3 (fun w'=>Below X.heap.size X w'∧w'.cell? ⟨w.heap.size,0,none⟩=some (.int .i64 y.1.1)∧w'.cell? ⟨w.heap.size,1,none⟩=some (.int .i64 y.1.2.1)∧w'.cell? ⟨p,0,none⟩=some (.slice a n c))
  (first
  | exact⟨Zi _,x0,x1,xp⟩
  | (go_split_ands;refine⟨Ze (by assumption) hbc,Zc hbc (by assumption),Zc hbc (by assumption),Zc hbc (by assumption)⟩))
  (first|(go_at_call 194;go_split_ands;refine ((Za PL) _ (by assumption)).mono ?_;rintro e w' ⟨rfl,hbc⟩))
 rename_i hH
 have hb2:=Ze (Za HBX) hH.1
 have hh2:=(hH.1.block _ (lt_of_block (Za HX1))).trans (Za HX1)
 have c0:=Zd hh2 0 _ rfl
 have c1:=Zd hh2 1 _ rfl
 have c2:=Zd hh2 2 _ rfl
 have c3:=Zd hh2 3 _ rfl
 have c4:=Zd hh2 4 _ rfl
 have c5:=Zd hh2 5 _ rfl
 have xp2:=hH.2.2.2
 have hpl:=World.block_lt_of_cell? _ _ xp2
 have hhp:=(hb2.block p hpw).trans (Za HBOX)
 have HB2:=Zb hb2
 have INS:Hid (∀ W,W.heap=(w'.alloc (.cells #[.int .i64 y.1.1,.int .i64 y.1.2.1,.int .i64 (cv y.1),.slice y.2.1 y.2.2.1 y.2.2.2,.int .i64 (ch y.1),.bool (cr y.1)] 103)).heap→W.os=w'.os→W.tape=w'.tape→W.output=w'.output →
   Calls Tryz.prog 197 #[.slice a n c,.int .i64 k,.slice (some ⟨w'.heap.size,0,none⟩) 1 1] W fun e w4=>∃ a' c',e = .returned (.slice a' (n+1) c')∧w4.cell? ⟨p,0,none⟩=some (.slice a n c)∧w4.frozen? ⟨p,0,none⟩=false∧p<w4.heap.size∧Hid (w4.ownsRow w0.heap.size 103 6 (.slice a' (n+1) c') (n+1) (Zj (K.take k++y :: K.drop k))∧Gr w w4 (PuS p (.slice a n c))∧((Value.slice a' (n+1) c').ownBlock=(Value.slice a n c).ownBlock∨∀ k,(Value.slice a' (n+1) c').ownBlock=some k→w.heap.size≤k)∧w4.heap[p]? = some (.cells #[.slice a n c] 221 (0,0)))):=by
  intro W hW1 hW2 hW3 hW4
  have hbw:Below w'.heap.size w' W:=⟨hW2,hW3,hW4,by rw[hW1];simp,fun i hi=>by rw[hW1];exact Below.heap_alloc w' _ i hi⟩
  have hbw2:=Ze hb2 hbw
  have hOW:W.ownsRow w0.heap.size 103 6 (.slice a n c) n (Zj K):=(Gr.of (S:=fun _=>False) hbw2).own (Za HO) (fun _ _ q=>q)
  have hvb:W.heap[w'.heap.size]? = some (.cells (Zj [y]).toArray 103 (0,0)):=by rw[hW1];exact Uc _ _ _ _ _ _ _ _
  have hsz:w.heap.size<W.heap.size:=Nat.lt_of_lt_of_le (lt_of_block hh2) hbw.size
  refine (Hb w0.heap.size a n c k w'.heap.size K y W hkn hn (Za HN') (Nat.le_trans (Za HP).bel.size (Nat.le_of_lt hsz)) hOW hvb ?_).mono ?_
  ·intro e
   have:=(Za HO).lt _ e
   have h3:=hb2.size
   omega
  ·rintro e w4 ⟨v',rfl,ho4,hg4,hn4⟩
   obtain⟨a',c',rfl⟩:=Ym ho4
   have hp4:w4.heap[p]? = some (.cells #[.slice a n c] 221 (0,0)):=by
    rw[hg4.block p (Nat.lt_trans hpw hsz) (fun e=>(Za HNE) e.symm),hbw2.block p hpw]
    exact Za HBOX
   refine⟨a',c',rfl,Zd (X:=[.slice a n c]) hp4 0 _ rfl,Zh hp4 0,lt_of_block hp4,ho4,(Gr.of hbw2).grown hg4 (fun k hk=>.inl (.inr hk)),?_,hp4⟩
   ·rcases hn4 with q|q
    ·exact .inl q
    ·exact .inr fun k hk=>Nat.le_trans (Nat.le_of_lt hsz) (q k hk)
 clear hH hbc hb2 hh2 xp x0 x1 hhp
 go_wp2_with fail
 go_region_with (go_at_call 197;refine ((Za INS) _ ?_ ?_ ?_ ?_).mono ?_;rfl;rfl;rfl;rfl;rintro e w4 ⟨a',c',rfl,p4,p4f,p4l,H4⟩)
 all_goals
  go_wp2
  go_ret
  obtain⟨ho4,hg4,hn4,hp4⟩:=Za H4
  have hp:=Za HP
  have hl:(K.take k++y :: K.drop k).length=n+1:=by
   have:=Za HN'
   simp only[List.length_append,List.length_take,List.length_cons,List.length_drop]
   omega
  have hnp:(Value.slice a' (n+1) c').ownBlock≠some p:=fun e=>by
   rcases hn4 with q|q
   ·rw[q] at e;exact (Za HNE) e
   ·have:=q p e;omega
  have hsub:∀ z∈K.take k++y :: K.drop k,z=y∨z∈K:=fun z hz=>by
   rcases List.mem_append.1 hz with q|q
   ·exact .inr (List.mem_of_mem_take q)
   ·rcases List.mem_cons.1 q with q|q
    ·exact .inl q
    ·exact .inr (List.mem_of_mem_drop q)
  have hgr:=hg4.one p 0 (.inl (.inl rfl)) (.slice a' (n+1) c')
  refine⟨.slice a' (n+1) c',K.take k++y :: K.drop k,rfl,(Za HPD).symm,hsub,by rw[hl,Za HN'],⟨?_,hp.ge,Ur hp4,?_,hnp,?_⟩,?_,?_⟩
  ·refine hgr.below hp.bel hp.bel.size (fun k hk=>?_)
   rcases hk with rfl|hk
   ·exact hp.ge
   ·exact Yk (Za HO) k hk
  ·rw[hl]
   exact ((Gr.refl w4 (fun k=>k=p)).one p 0 (.inl rfl) _).own ho4 (fun k hk e=>hnp (by rw[hk,e]))
  ·intro z hz
   rcases hsub z hz with rfl|q
   ·exact Za HY
   ·exact hp.lk z q
  ·rw[Za HN'];exact hgr
  ·rw[Za HN'];exact hn4
def Zm(h:Int):List InD→List Zg→List Zg→Int×List Zg×List Zg
 | [],S,L=>(0,S,L)
 | x :: r,S,L=>match Wu (x.1,x.2.1) L with
  | none=>(7,[],[])
  | some (c,M)=>if cr c=true∧h<ch c+2 then (10,[],[]) else if Yw (ck c) x.2.2 h=false then (8,[],[]) else Zm h r (S++[c]) M
def Qg(name:Int)(i:Nat)(o:Zw)(h:Int)(r:Bool):Zg:=(name,(i:Int),o.1,o.2,h,r)
def Z6(name h:Int)(r:Bool):Nat→List Zw→List Zg→Int×List Zg
 | _,[],L=>(0,L)
 | i,o :: q,L=>if We (name,(i:Int)) L=true then (6,[]) else Z6 name h r (i+1) q (Vz (Qg name i o h r) L)
def okN(n:Int):Bool:=decide (1≤n) && decide (n≤120)
def isR(t:TxD):Bool:=decide (t.2.1.length=0)
def Qt(L:List Zg)(t:TxD):Int:=if Yi L≠0 then Yi L else Zo t
def Xc(L:List Zg)(t:TxD)(name h:Int):Int:=
 if Qt L t≠0 then Qt L t else if (okN name && okH h)=false then 3 else if isR t=true∧t.1≠h then 4 else 0
def Pz(S:List Zg)(t:TxD):Int:=if Zp S - Xk t.2.2<0∧isR t=false then 9 else 0
def apD(L:List Zg)(t:TxD)(name h:Int):Int×List Zg×List Zg:=
 if Xc L t name h≠0 then (Xc L t name h,[],[])
 else
  if (Zm h t.2.1 [] L).1≠0 then ((Zm h t.2.1 [] L).1,[],[])
  else if Pz (Zm h t.2.1 [] L).2.1 t≠0 then (Pz (Zm h t.2.1 [] L).2.1 t,[],[])
  else if (Z6 name h (isR t) 0 t.2.2 (Zm h t.2.1 [] L).2.2).1≠0 then ((Z6 name h (isR t) 0 t.2.2 (Zm h t.2.1 [] L).2.2).1,[],[])
  else if Yi (Z6 name h (isR t) 0 t.2.2 (Zm h t.2.1 [] L).2.2).2≠0 then (Yi (Z6 name h (isR t) 0 t.2.2 (Zm h t.2.1 [] L).2.2).2,[],[])
  else (0,(Z6 name h (isR t) 0 t.2.2 (Zm h t.2.1 [] L).2.2).2,(Zm h t.2.1 [] L).2.1)
def MS.cells(s:MS):Array Value:=(s.cs.map (Value.int .i64)++([Value.int .i64 s.n,Value.int .i64 s.h,Value.bool s.f]:List Value)).toArray
theorem MS.cells_stack{s:MS}(hs:s.ok)(i:Nat)(hi:i<16):s.cells[i]? = some (.int .i64 (s.cs.getD i 0)):=by
 have hl:i<s.cs.length:=by rw[hs.1];exact hi
 simp[MS.cells,List.getElem?_append_left,hl]
theorem MS.cells_n{s:MS}(hs:s.ok):s.cells[16]? = some (.int .i64 s.n):=by
 have hl:=hs.1
 simp[MS.cells,hl]
theorem MS.cells_h{s:MS}(hs:s.ok):s.cells[17]? = some (.int .i64 s.h):=by
 have hl:=hs.1
 simp[MS.cells,hl]
theorem MS.cells_f{s:MS}(hs:s.ok):s.cells[18]? = some (.bool s.f):=by
 have hl:=hs.1
 simp[MS.cells,hl]
theorem MS.set_stack{s:MS}(hs:s.ok)(i:Nat)(hi:i<16)(x:Int):s.cells.setIfInBounds i (.int .i64 x)=MS.cells { s with cs:=s.cs.set i x }:=by
 have hl:i<(s.cs.map (Value.int .i64)).length:=by rw[List.length_map,hs.1];exact hi
 simp only[MS.cells,List.setIfInBounds_toArray,List.set_append_left _ _ hl,List.map_set]
theorem MS.set_n{s:MS}(hs:s.ok)(n:Nat):s.cells.setIfInBounds 16 (.int .i64 n)=MS.cells { s with n:=n }:=by
 have hl:(s.cs.map (Value.int .i64)).length=16:=by rw[List.length_map,hs.1]
 simp only[MS.cells,List.setIfInBounds_toArray]
 rw[List.set_append_right _ _ (by omega),hl];rfl
theorem MS.set_f{s:MS}(hs:s.ok)(b:Bool):s.cells.setIfInBounds 18 (.bool b)=MS.cells { s with f:=b }:=by
 have hl:(s.cs.map (Value.int .i64)).length=16:=by rw[List.length_map,hs.1]
 simp only[MS.cells,List.setIfInBounds_toArray]
 rw[List.set_append_right _ _ (by omega),hl];rfl
structure Mach(p:Nat)(s:MS)(W w:World):Prop where
 good:s.ok
 block:w.heap[p]? = some (.cells s.cells 319 (0,0))
 old:∀ k,k≠p→k<W.heap.size→w.heap[k]? = W.heap[k]?
 size:W.heap.size≤w.heap.size
 os:w.os=W.os
 tape:w.tape=W.tape
 output:w.output=W.output
theorem Mach.lt{p:Nat}{s:MS}{W w:World}(h:Mach p s W w):p<w.heap.size:=lt_of_block h.block
theorem Mach.cell{p:Nat}{s:MS}{W w:World}(h:Mach p s W w)(i:Nat):w.cell? ⟨p,i,none⟩=s.cells[i]?:=by simp[World.cell?,h.block]
theorem Mach.cell_n{p:Nat}{s:MS}{W w:World}(h:Mach p s W w):w.cell? ⟨p,16,none⟩=some (.int .i64 s.n):=by rw[h.cell,MS.cells_n h.good]
theorem Mach.cell_h{p:Nat}{s:MS}{W w:World}(h:Mach p s W w):w.cell? ⟨p,17,none⟩=some (.int .i64 s.h):=by rw[h.cell,MS.cells_h h.good]
theorem Mach.cell_f{p:Nat}{s:MS}{W w:World}(h:Mach p s W w):w.cell? ⟨p,18,none⟩=some (.bool s.f):=by rw[h.cell,MS.cells_f h.good]
theorem Mach.cell_s{p:Nat}{s:MS}{W w:World}(h:Mach p s W w)(i:Nat)(hi:i<16):w.cell? ⟨p,i,none⟩=some (.int .i64 (s.cs.getD i 0)):=by rw[h.cell,MS.cells_stack h.good i hi]
theorem Mach.free{p:Nat}{s:MS}{W w:World}(h:Mach p s W w)(i:Nat):w.frozen? ⟨p,i,none⟩=false:=by simp[World.frozen?,h.block]
theorem Mach.store{p:Nat}{s s':MS}{W w:World}(h:Mach p s W w)(i:Nat)(v:Value)(e:s.cells.setIfInBounds i v=s'.cells)(g:s'.ok):Mach p s' W (w.setCell ⟨p,i,none⟩ v) where
 good:=g
 block:=by
  rw[heap_setCell_same w p i s.cells 319 v h.block,e]
 old:=fun k hk hl=>by rw[heap_setCell_other w ⟨p,i,none⟩ k v hk];exact h.old k hk hl
 size:=by rw[World.size_setCell];exact h.size
 os:=h.os
 tape:=h.tape
 output:=h.output
theorem Mach.drew{p:Nat}{s:MS}{W w:World}(h:Mach p s W w):Mach p s W w.drew:=⟨h.good,h.block,h.old,h.size,h.os,h.tape,h.output⟩
theorem Mach.drewN{p:Nat}{s:MS}{W w:World}(h:Mach p s W w)(n:Nat):Mach p s W (w.drewN n):=⟨h.good,h.block,h.old,h.size,h.os,h.tape,h.output⟩
theorem Mach.alloc{p:Nat}{s:MS}{W w:World}(h:Mach p s W w)(o:Obj):Mach p s W (w.alloc o) where
 good:=h.good
 block:=by rw[Below.heap_alloc w o p h.lt];exact h.block
 old:=fun k hk hl=>by rw[Below.heap_alloc w o k (Nat.lt_of_lt_of_le hl h.size)];exact h.old k hk hl
 size:=by have:=h.size;simp;omega
 os:=h.os
 tape:=h.tape
 output:=h.output
theorem Mach.past{p:Nat}{s:MS}{W w:World}(h:Mach p s W w)(q:Addr)(hq:q.block≠p)(hl:q.block<W.heap.size):w.cell? q=W.cell? q:=World.cell?_of_block (w:=W) (h.old q.block hq hl)
theorem Mach.below{p:Nat}{s:MS}{W w:World}(h:Mach p s W w)(hp:W.heap.size≤p):Below W.heap.size W w:=
 ⟨h.os,h.tape,h.output,h.size,fun k hk=>h.old k (by omega) hk⟩
theorem Mach.trans{p:Nat}{s s':MS}{W V w:World}(h:Mach p s W V)(k:Mach p s' V w):Mach p s' W w where
 good:=k.good
 block:=k.block
 old:=fun j hj hl=>by rw[k.old j hj (Nat.lt_of_lt_of_le hl h.size)];exact h.old j hj hl
 size:=Nat.le_trans h.size k.size
 os:=k.os.trans h.os
 tape:=k.tape.trans h.tape
 output:=k.output.trans h.output
theorem Mach.self{p:Nat}{s:MS}{W w:World}(h:Mach p s W w):Mach p s w w:=⟨h.good,h.block,fun _ _ _=>rfl,Nat.le_refl _,rfl,rfl,rfl⟩
end Go.Proofs.YtpikejjiignchaaGreatDoor
