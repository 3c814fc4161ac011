import Derived.Test.YtpikejjiignchaaGreatDoorG15
set_option maxHeartbeats 12800000
set_option maxRecDepth 10000
namespace Go.Proofs.YtpikejjiignchaaGreatDoor
open Go.RowKit
theorem Gr.trans2{w w1 w2:World}{S T:Nat→Prop}(h:Gr w w1 S)(k:Gr w1 w2 T)(hT:∀ k,k<w.heap.size→T k→S k):Gr w w2 S:=
 ⟨k.os.trans h.os,k.tape.trans h.tape,k.output.trans h.output,Nat.le_trans h.size k.size,fun i hi hn=>(k.block i (Nat.lt_of_lt_of_le hi h.size) (fun q=>hn (hT i hi q))).trans (h.block i hi hn)⟩
theorem Jf(h:Int)(ai ao:Option Addr)(ni ci no co:Nat)(r:Bool)(w:World)(hr:decide (ni=0)=r) :
  Calls Tryz.prog 168 #[.agg #[.int .i64 h,.slice ai ni ci,.slice ao no co]] w fun e w'=>e = .returned (.bool r)∧Below w.heap.size w w':=by
 have HB:=Zb (Zf w (.cells #[.int .i64 h,.slice ai ni ci,.slice ao no co] 52))
 by_cases h0:ni=0
 ·have e:r=true:=by rw[←hr];exact decide_eq_true h0
  subst e
  subst h0
  clear hr
  go_enter Tryz.func168,Tryz.ntmps168
  go_wp2
  go_ret
  exact⟨rfl,Za HB⟩
 ·have e:r=false:=by rw[←hr];exact decide_eq_false h0
  subst e
  have g:((ni:Int) == 0)=false:=by simp[h0]
  clear hr
  go_enter Tryz.func168,Tryz.ntmps168
  go_wp2
  go_ret
  exact⟨rfl,Za HB⟩
theorem Si{name h:Int}{r:Bool}{O:List Zw}{k:Nat}(hk:k<O.length)(L:List Zg)(hf:We (name,(k:Int)) L=false):Z6 name h r k (O.drop k) L=Z6 name h r (k+1) (O.drop (k+1)) (Vz (Qg name k O[k] h r) L):=by
 rw[List.drop_eq_getElem_cons hk,Z6,if_neg (by rw[hf];decide)]
theorem Sh{name h:Int}{r:Bool}{O:List Zw}{k:Nat}(hk:k<O.length)(L:List Zg)(hf:We (name,(k:Int)) L=true):Z6 name h r k (O.drop k) L=(6,[]):=by
 rw[List.drop_eq_getElem_cons hk,Z6,if_pos hf]
theorem Rn{name h:Int}{r:Bool}{O:List Zw}{k:Nat}(hk:O.length≤k)(L:List Zg):Z6 name h r k (O.drop k) L=(0,L):=by
 rw[List.drop_of_length_le hk,Z6]
def Given(w0 w w':World)(p:Nat)(v:Value)(n:Nat)(M:List Zg):Prop:=
 ∃ (v':Value) (K':List CV),K'.map (·.1)=M∧Srt M∧K'.length≤n∧Pu w0 w' p v' K'∧Gr w w' (PuS p v)
theorem Ee{w:World}{b:Nat}{t:TypeId}(h:w.heap[b]? = some (.cells zeroCs.toArray t (0,0)))(a0 a1 a2 a3 a4 a5:Value):((((((w.setCell ⟨b,0,none⟩ a0).setCell ⟨b,1,none⟩ a1).setCell ⟨b,2,none⟩ a2).setCell ⟨b,3,none⟩ a3).setCell ⟨b,4,none⟩ a4).setCell ⟨b,5,none⟩ a5).heap[b]? = some (.cells [a0,a1,a2,a3,a4,a5].toArray t (0,0)):=by
 have one:∀ {w:World} {X:Array Value} (i:Nat) (a:Value),w.heap[b]? = some (.cells X t (0,0))→(w.setCell ⟨b,i,none⟩ a).heap[b]? = some (.cells (X.setIfInBounds i a) t (0,0)):=fun {w X} i a hw=>by
  rw[setCell_eq_setRow w b i X t (0,0) a hw];exact setRow_heap w b _ _ t _ hw
 exact one 5 a5 (one 4 a4 (one 3 a3 (one 2 a2 (one 1 a1 (one 0 a0 h)))))
def Zeo(wr:World)(name h y1:Int)(k:Nat)(la:Option Addr)(ln lc:Nat)(r:Bool)(s11 s15:Value)(wx:World):Prop:=
 ∃ m:Nat,s11 = .pointer (some ⟨m,0,none⟩)∧s15 = .int .i64 k∧Hid (Below wr.heap.size wr wx)∧m<wx.heap.size∧wx.cell? ⟨m,0,none⟩=some (.int .i64 name)∧wx.cell? ⟨m,1,none⟩=some (.int .i64 k)∧wx.cell? ⟨m,2,none⟩=some (.int .i64 y1)∧wx.cell? ⟨m,3,none⟩=some (.slice la ln lc)∧wx.cell? ⟨m,4,none⟩=some (.int .i64 h)∧wx.cell? ⟨m,5,none⟩=some (.bool r)
theorem cut_a{wr w3:World}{name h y1:Int}{k:Nat}{la:Option Addr}{ln lc:Nat}{r:Bool}(hb:Below wr.heap.size wr w3) :
  Zeo wr name h y1 k la ln lc r (.pointer (some ⟨w3.heap.size,0,none⟩)) (.int .i64 k) (w3.alloc (.cells #[.int .i64 name,.int .i64 k,.int .i64 y1,.slice la ln lc,.int .i64 h,.bool r] 103)):=by
 obtain⟨c0,c1,c2,c3,c4,c5⟩:=P6 w3 (.int .i64 name) (.int .i64 k) (.int .i64 y1) (.slice la ln lc) (.int .i64 h) (.bool r) 103
 exact⟨w3.heap.size,rfl,rfl,Ze hb (Zf _ _),by simp,c0,c1,c2,c3,c4,c5⟩
theorem Zar{B:Nat}{a w:World}(h:Below B a w)(b:Nat)(hb:B≤b)(a0 a1 a2 a3 a4 a5:Value):Below B a ((((((w.setCell ⟨b,0,none⟩ a0).setCell ⟨b,1,none⟩ a1).setCell ⟨b,2,none⟩ a2).setCell ⟨b,3,none⟩ a3).setCell ⟨b,4,none⟩ a4).setCell ⟨b,5,none⟩ a5):=
 (((((h.setCell (p:=⟨b,0,none⟩) hb a0).setCell (p:=⟨b,1,none⟩) hb a1).setCell (p:=⟨b,2,none⟩) hb a2).setCell (p:=⟨b,3,none⟩) hb a3).setCell (p:=⟨b,4,none⟩) hb a4).setCell (p:=⟨b,5,none⟩) hb a5
theorem cut_b{wr w3:World}{name h y1:Int}{k:Nat}{la:Option Addr}{ln lc:Nat}{r:Bool}{b:Nat}(hb:Below wr.heap.size wr w3)(hz:w3.heap[b]? = some (.cells zeroCs.toArray 103 (0,0)))(hl:wr.heap.size≤b) :
  Zeo wr name h y1 k la ln lc r (.pointer (some ⟨b,0,none⟩)) (.int .i64 k) ((((((w3.setCell ⟨b,0,none⟩ (.int .i64 name)).setCell ⟨b,1,none⟩ (.int .i64 k)).setCell ⟨b,2,none⟩ (.int .i64 y1)).setCell ⟨b,3,none⟩ (.slice la ln lc)).setCell ⟨b,4,none⟩ (.int .i64 h)).setCell ⟨b,5,none⟩ (.bool r)):=by
 have hq:=Ee hz (.int .i64 name) (.int .i64 k) (.int .i64 y1) (.slice la ln lc) (.int .i64 h) (.bool r)
 exact⟨b,rfl,rfl,Zar hb b hl _ _ _ _ _ _,lt_of_block hq,Zd hq 0 _ rfl,Zd hq 1 _ rfl,Zd hq 2 _ rfl,Zd hq 3 _ rfl,Zd hq 4 _ rfl,Zd hq 5 _ rfl⟩
theorem Zgb(w0 w:World)(p:Nat)(v:Value)(K:List CV)(ht:Int)(ai ao:Option Addr)(ni ci no co:Nat)(O:List Zw)(name h:Int)(r:Bool)(x:Int)(M:List Zg)(hP:Pu w0 w p v K)(hs:Srt (K.map (·.1)))(hn:K.length+no≤4096)(hO:OutsAt w0 ao no O)(hno:no≤6)(hr:decide (ni=0)=r)(hx:Z6 name h r 0 O (K.map (·.1))=(x,M)) :
  Calls Tryz.prog 143 #[.pointer (some ⟨p,0,none⟩),.agg #[.int .i64 ht,.slice ai ni ci,.slice ao no co],.int .i64 name,.int .i64 h] w fun e w'=>e = .returned (.int .i64 x)∧Below w0.heap.size w0 w'∧(x=0→Given w0 w w' p v (K.length+no) M):=by
 have hB:w0.heap.size≤w.heap.size:=hP.bel.size
 have hpw:p<w.heap.size:=hP.lt
 obtain⟨X0,hX0⟩:∃ X0,X0=w.alloc (.cells #[.int .i64 ht,.slice ai ni ci,.slice ao no co] 52):=⟨_,rfl⟩
 have hb0:Below w.heap.size w X0:=by rw[hX0];exact Zf _ _
 have hX1:X0.heap[w.heap.size]? = some (.cells [.int .i64 ht,.slice ai ni ci,.slice ao no co].toArray 52 (0,0)):=by rw[hX0];exact Zl _ _ _ _ _
 have x2:=Zd hX1 2 _ rfl
 have ST:Hid (Pu w0 X0 p v K):=hP.kept hb0
 have IR:=Zb (fun w=>Jf ht ai ao ni ci no co r w hr)
 have HOwn:=Zb (fun k hk=>(hP.own.lt k hk).2)
 have HS:=Zb hs
 have HO:=Zb hO
 have HZ:=Zb hO.1
 have HX:=Zb hx
 have HX1:=Zb hX1
 have HB0:=Zb hb0
 clear hP hs hO hr hx hX1 hb0
 go_enter Tryz.func143,Tryz.ntmps143
 go_wp2
 rw[←hX0]
 clear hX0
 go_loopw [15] (fun i wr=>∃ (k:Nat) (K':List CV) (v':Value),k≤no∧i = .int .i64 k∧Hid (Z6 name h r 0 O (K.map (·.1))=Z6 name h r k (O.drop k) (K'.map (·.1)))∧Hid (Srt (K'.map (·.1)))∧K'.length≤K.length+k∧Hid (Pu w0 wr p v' K')∧Hid (Gr w wr (PuS p v))∧Hid (v'.ownBlock=v.ownBlock∨∀ k,v'.ownBlock=some k→w.heap.size≤k) ∧
  Hid (wr.heap[w.heap.size]? = some (.cells [.int .i64 ht,.slice ai ni ci,.slice ao no co].toArray 52 (0,0)))∧Hid (v'.ownBlock≠some w.heap.size)) (fun i _=>no - (intOf i).toNat)
 case atStart=>exact⟨0,K,v,Nat.zero_le _,rfl,rfl,HS,Nat.le_refl _,ST,Gr.of (Za HB0),Or.inl rfl,HX1,(fun e=>by have:=(Za HOwn) _ e;omega:v.ownBlock≠some w.heap.size)⟩
 case round=>
  obtain⟨k,K',v',hk,rfl,A,HS',hKl,HP',HG,HV,HT,HNE⟩:=hrel
  clear ST HS x2
  have t0:=Zd (Za HT) 0 _ rfl
  have t1:=Zd (Za HT) 1 _ rfl
  have t2:=Zd (Za HT) 2 _ rfl
  have htl:w.heap.size<wr.heap.size:=lt_of_block (Za HT)
  by_cases hlt:k<no
  ·have hlk:k<O.length:=by rw[Za HZ];exact hlt
   obtain⟨b,off,rfl,hbl,hcell⟩:=(Za HO).2 (by omega)
   have hin0:=hcell k hlk
   have E1:=Zb (Sh (name:=name) (h:=h) (r:=r) hlk (K'.map (·.1)))
   have E2:=Zb (Si (name:=name) (h:=h) (r:=r) hlk (K'.map (·.1)))
   obtain⟨y,hy⟩:∃ y,O[k]=y:=⟨_,rfl⟩
   rw[hy] at hin0 E2
   obtain⟨y1,lk⟩:=y
   obtain⟨g1',la,ln,lc,g2',g4,g5⟩:=hin0
   have g1:=Zc (Za HP').bel g1'
   have g2:=Zc (Za HP').bel g2'
   simp only at g1 g2 g4
   have PUT:Hid (∀ W,Below wr.heap.size wr W→(We (name,(k:Int)) (K'.map (·.1))=true→Calls Tryz.prog 171 #[.pointer (some ⟨p,0,none⟩),.agg #[.int .i64 name,.int .i64 k,.int .i64 y1,.slice la ln lc,.int .i64 h,.bool r]] W fun e w'=>e = .returned (.bool false)∧Below W.heap.size W w') ∧
     (We (name,(k:Int)) (K'.map (·.1))=false→Calls Tryz.prog 171 #[.pointer (some ⟨p,0,none⟩),.agg #[.int .i64 name,.int .i64 k,.int .i64 y1,.slice la ln lc,.int .i64 h,.bool r]] W fun e w'=>∃ (v'':Value) (K'':List CV),e = .returned (.bool true)∧K''.map (·.1)=Vz (Qg name k (y1,lk) h r) (K'.map (·.1))∧K''.length=K'.length+1∧Pu w0 w' p v'' K''∧Gr W w' (PuS p v')∧(v''.ownBlock=v'.ownBlock∨∀ k,v''.ownBlock=some k→W.heap.size≤k))):=by
    intro W hW
    have hPW:=(Za HP').kept hW
    constructor
    ·intro hf
     exact Zfc w0 W p v' K' ((name,(k:Int),y1,lk,h,r),la,ln,lc) hPW (Za HS') (by omega) hf
    ·intro hf
     refine (Zci w0 W p v' K' ((name,(k:Int),y1,lk,h,r),la,ln,lc) hPW (Za HS') (by omega) hf ⟨g4,g5⟩).mono ?_
     rintro e w' ⟨v'',K'',h1,h2,_,h3,h4,h5,h6⟩
     exact⟨v'',K'',h1,h2,h3,h4,h5,h6⟩
   obtain⟨X,hX⟩:∃ X,X=wr.alloc (.cells #[.int .i64 y1,.slice la ln lc] 101):=⟨_,rfl⟩
   have hbX:Below wr.heap.size wr X:=by rw[hX];exact Zf _ _
   obtain⟨o0,o1⟩:=Yd wr (.int .i64 y1) (.slice la ln lc) 101
   rw[←hX] at o0 o1
   have s0:=Zc hbX t0
   have s1:=Zc hbX t1
   have s2:=Zc hbX t2
   have hXl:wr.heap.size<X.heap.size:=World.block_lt_of_cell? _ _ o0
   have hXl2:w.heap.size<X.heap.size:=by omega
   have HBX:=Zb hbX
   clear hbX g1' g2' g4 g5 hy
   go_upto_region 4 with fail
   rw[←hX]
   clear hX t0 t1 t2 g1 g2
   go_cut [11,15] from 15 to 32 (fun s11 s15 wx=>Zeo wr name h y1 k la ln lc r s11 s15 wx)
   case first=>
    go_region_with (go_at_call 168;refine ((Za IR) _).mono ?_;rintro e w3 ⟨rfl,hb3⟩;first
     | (have hz3:w3.heap[X.heap.size]? = some (.cells zeroCs.toArray 103 (0,0)):=(hb3.block X.heap.size (by simp)).trans (heap_alloc_new X _);have c0:=Zd hz3 0 _ rfl;have c1:=Zd hz3 1 _ rfl;have c2:=Zd hz3 2 _ rfl;have c3:=Zd hz3 3 _ rfl;have c4:=Zd hz3 4 _ rfl;have c5:=Zd hz3 5 _ rfl;have f0:=Zh hz3 0;have f1:=Zh hz3 1;have f2:=Zh hz3 2;have f3:=Zh hz3 3;have f4:=Zh hz3 4;have f5:=Zh hz3 5;have hl3:=lt_of_block hz3;have o2:w3.cell? ⟨wr.heap.size,0,none⟩=some (.int .i64 y1):=Zc hb3 (Zc (Zi _) (Zc (Zf X _) o0));have o3:w3.cell? ⟨wr.heap.size,1,none⟩=some (.slice la ln lc):=Zc hb3 (Zc (Zi _) (Zc (Zf X _) o1));have HB3:Hid (Below wr.heap.size wr w3):=Ze (Ze (Ze (Za HBX) (Zf X _)) (Zi _)) hb3;have hl4:wr.heap.size<w3.heap.size:=World.block_lt_of_cell? _ _ o2;have HZ3:=Zb hz3;clear hz3 hb3)
     | (have o2:w3.cell? ⟨wr.heap.size,0,none⟩=some (.int .i64 y1):=Zc hb3 (Zc (Zi _) o0);have o3:w3.cell? ⟨wr.heap.size,1,none⟩=some (.slice la ln lc):=Zc hb3 (Zc (Zi _) o1);have hl3:X.heap.size≤w3.heap.size:=hb3.size;have HB3:Hid (Below wr.heap.size wr w3):=Ze (Ze (Za HBX) (Zi _)) hb3;have hl4:wr.heap.size<w3.heap.size:=World.block_lt_of_cell? _ _ o2;clear hb3))
    all_goals
     go_wp2_with fail
     go_meet
     case rel=>
      first|exact cut_b (w3:=w3) (b:=X.heap.size) (Za HB3) (Za HZ3) (Nat.le_of_lt hXl)|exact cut_a (w3:=w3) (Za HB3)
   case rest=>
    obtain⟨m,rfl,rfl,HBC,hml,m0,m1,m2,m3,m4,m5⟩:=hcut
    have PW:=Zb ((Za PUT) wc (Za HBC))
    have TC:Hid (wc.heap[w.heap.size]? = some (.cells [.int .i64 ht,.slice ai ni ci,.slice (some ⟨b,off,none⟩) no co].toArray 52 (0,0))):=((Za HBC).block _ htl).trans (Za HT)
    have GC:=Zb ((Za HG).on (Za HBC))
    have hwc:wr.heap.size≤wc.heap.size:=(Za HBC).size
    have hkI:(k:Int)<(no:Int):=by omega
    clear PUT o0 o1 s0 s1 s2
    cases hf:We (name,(k:Int)) (K'.map (·.1)) with
    | true=>
     have R:Hid (x=6):=by
      have e:=Za A
      rw[(Za E1) hf,Za HX] at e
      injection e
     have C:=Zb ((Za PW).1 hf)
     have HBW:=Zb ((Za HP').kept (Za HBC)).bel
     clear E1 E2 A PW hf
     go_wp2_with fail
     refine (Za C).mono ?_
     rintro e w4 ⟨rfl,hb4⟩
     have HB4:Hid (Below w0.heap.size w0 w4):=Ze (Za HBW) (hb4.mono (Za HBW).size |> fun q=>⟨q.os,q.tape,q.output,q.size,hb4.block⟩)
     clear hb4
     go_wp2
     go_ret
     exact⟨by rw[Za R];rfl,Za HB4,fun e=>absurd e (by rw[Za R];decide)⟩
    | false=>
     have C:=Zb ((Za PW).2 hf)
     have A2:Hid (∀ K'':List CV,K''.map (·.1)=Vz (Qg name k (y1,lk) h r) (K'.map (·.1))→Z6 name h r 0 O (K.map (·.1))=Z6 name h r (k+1) (O.drop (k+1)) (K''.map (·.1))):=fun K'' hK=>by
      rw[Za A,(Za E2) hf,hK]
     clear E1 E2 A PW hf
     go_wp2_with fail
     refine (Za C).mono ?_
     rintro e w4 ⟨v4,K4,rfl,hK4,hl4,hP4,hG4,hv4⟩
     have hnt:¬PuS p v' w.heap.size:=by
      rintro (e|e)
      ·omega
      ·exact (Za HNE) e
     have R:Hid (Hid (Z6 name h r 0 O (K.map (·.1))=Z6 name h r (k+1) (O.drop (k+1)) (K4.map (·.1)))∧Hid (Srt (K4.map (·.1)))∧K4.length≤K.length+(k+1)∧Hid (Pu w0 w4 p v4 K4)∧Hid (Gr w w4 (PuS p v))∧Hid (v4.ownBlock=v.ownBlock∨∀ k,v4.ownBlock=some k→w.heap.size≤k) ∧
       Hid (w4.heap[w.heap.size]? = some (.cells [.int .i64 ht,.slice ai ni ci,.slice (some ⟨b,off,none⟩) no co].toArray 52 (0,0)))∧Hid (v4.ownBlock≠some w.heap.size)):=by
      refine⟨(Za A2) K4 hK4,?_,by omega,hP4,?_,?_,hG4.heap (Za TC) hnt,?_⟩
      ·show Srt _;rw[hK4];exact U1 (Za HS')
      ·refine (Za GC).trans2 hG4 (fun q hq hT=>?_)
       rcases hT with e|e
       ·exact .inl e
       ·rcases Za HV with f|f
        ·exact .inr (by rw[←f];exact e)
        ·have:=f q e;omega
      ·rcases hv4 with f|f
       ·rcases Za HV with g|g
        ·exact .inl (by rw[f,g])
        ·exact .inr (fun q hq=>g q (by rw[←f];exact hq))
       ·exact .inr (fun q hq=>by have:=f q hq;omega)
      ·intro e
       rcases hv4 with f|f
       ·exact (Za HNE) (by rw[←f];exact e)
       ·have:=f _ e;omega
     clear hK4 hl4 hP4 hG4 hv4 hnt A2
     go_wp2
     go_roundw
     case rel=>
      obtain⟨r1,r2,r3,r4,r5,r6,r7,r8⟩:=Za R
      exact⟨k+1,K4,v4,by omega,by go_num,r1,r2,r3,r4,r5,r6,r7,r8⟩
     case measure=>simp[intOf];omega
  ·have e:k=no:=by omega
   subst e
   have R:=Za A
   rw[Rn (by rw[Za HZ];exact Nat.le_refl _),Za HX] at R
   have R1:Hid (x=0):=by show _=_;injection R
   have R2:M=K'.map (·.1):=by injection R
   subst R2
   clear R A t0 t1 t2
   go_wp2
   go_ret
   exact⟨by rw[Za R1];rfl,(Za HP').bel,fun _=>⟨v',K',rfl,Za HS',hKl,Za HP',Za HG⟩⟩
end Go.Proofs.YtpikejjiignchaaGreatDoor
