import Derived.Test.YtpikejjiignchaaGreatDoorG44
set_option maxHeartbeats 6400000
set_option maxRecDepth 10000
namespace Go.Proofs.YtpikejjiignchaaGreatDoor
open Go.RowKit
def ClR(w w':World)(x:Int)(C:List Zf)(U:List (List (List Zf)))(e:Ending):Prop:=
 ∃ oa oon oc cs,e = .returned (.tuple #[.slice oa oon oc,.agg cs.toArray,.int .i64 x])∧CoinsAt w' oa oon C∧SlOk oa oon oc∧UnC w.heap.size w' cs U∧Below w.heap.size w w'
theorem Zie{w w':World}{x y:Int}{C:List Zf}{U:List (List (List Zf))}(h:((y:Int),([]:List Zf),([]:List (List (List Zf))))=(x,C,U))(hb:Below w.heap.size w w'):ClR w w' x C U (.returned (.tuple #[.slice none 0 0,.agg (List.replicate 24 (Value.slice none 0 0)).toArray,.int .i64 y])):=by
 injection h with h1 h2
 injection h2 with h2 h3
 subst h1 h2 h3
 exact⟨none,0,0,_,rfl,⟨rfl,fun h=>absurd h (by omega)⟩,Wp,UnC.nil _ _,hb⟩
theorem cl_at{K:List ByteArray}{N:List Int}{T:List Zk}{R:List Int}{j:Nat}(hj:j<R.length)(C:List Zf)(U:List (List (List Zf))) :
  Ub K N T (R.drop j) C U=if R[j]=0 then Ub K N T (R.drop (j+1)) C (U++[[]]) else
   if (Tr.blockE N T R[j]).2≠0 then ((Tr.blockE N T R[j]).2,[],[]) else
   if (Xp K C (Tr.blockE N T R[j]).1).1≠0 then ((Xp K C (Tr.blockE N T R[j]).1).1,[],[]) else
   Ub K N T (R.drop (j+1)) (Xp K C (Tr.blockE N T R[j]).1).2.1 (U++[(Xp K C (Tr.blockE N T R[j]).1).2.2]):=by
 rw[List.drop_eq_getElem_cons hj];rfl
theorem Zaf(w:World)(o1 o2 o3 o4 o5:Obj)(X:World)(hX:X=((((w.alloc o1).alloc o2).alloc o3).alloc o4).alloc o5) :
  Below w.heap.size w X∧X.heap.size=w.heap.size+5∧X.heap[w.heap.size]? = some o1∧X.heap[w.heap.size+1]? = some o2∧X.heap[w.heap.size+2]? = some o3∧X.heap[w.heap.size+3]? = some o4∧X.heap[w.heap.size+4]? = some o5:=by
 have b1:=Zg w o1
 have b2:=Zg (w.alloc o1) o2
 have b3:=Zg ((w.alloc o1).alloc o2) o3
 have b4:=Zg (((w.alloc o1).alloc o2).alloc o3) o4
 have b5:=Zg ((((w.alloc o1).alloc o2).alloc o3).alloc o4) o5
 have h1:=heap_alloc_new w o1
 have h2:=heap_alloc_new (w.alloc o1) o2
 have h3:=heap_alloc_new ((w.alloc o1).alloc o2) o3
 have h4:=heap_alloc_new (((w.alloc o1).alloc o2).alloc o3) o4
 have h5:=heap_alloc_new ((((w.alloc o1).alloc o2).alloc o3).alloc o4) o5
 have k3:=Ze b4 b5
 have k2:=Ze b3 k3
 have k1:=Ze b2 k2
 have g1:=(k1.block _ (lt_of_block h1)).trans h1
 have g2:=(k2.block _ (lt_of_block h2)).trans h2
 have g3:=(k3.block _ (lt_of_block h3)).trans h3
 have g4:=(b5.block _ (lt_of_block h4)).trans h4
 simp only[World.size_alloc] at g2 g3 g4 h5
 subst hX
 exact⟨Ze b1 k1,by simp[World.size_alloc],g1,g2,g3,g4,h5⟩
theorem Mm(R:List Int)(h:R.length=24)(j:Nat)(hj:j<R.length)(w:World):(Instr.index 76 (.agg (Yp R).toArray) (.int .i64 j)).run Tryz.prog w = .ok (.int .i64 R[j]) w:=by
 have e:(Yp R)[j]? = some (.int .i64 R[j]):=by simp[Yp,hj]
 simp[Instr.index,run_underlying Tryz.underlying76,asIntOf,go_sem]
 rw[if_pos (by omega),e]
 rfl
theorem UnAt.old{B g:Nat}{w:World}{U:List (List (List Zf))}(h:UnAt B g w U){j:Nat}(hj:j<24):(∃ v,w.cell? ⟨g,j,none⟩=some v)∧w.frozen? ⟨g,j,none⟩=false∧g<w.heap.size:=by
 obtain⟨cs,h1,h2⟩:=h
 obtain⟨v,e,_⟩:=h2.2 j hj
 exact⟨⟨v,Zd h1 j v e⟩,Zi h1 j,lt_of_block h1⟩
theorem UnAt.coins{B g:Nat}{w w':World}{U:List (List (List Zf))}(h:UnAt B g w U){a:Option Addr}{n:Nat}{C:List Zf}(hC:CoinsAt w a n C)(hg:Gr w w' (fun q=>q=g)):CoinsAt w' a n C:=by
 obtain⟨cs,h1,h2⟩:=h
 exact Wh hC (h2.usok h1) hg
theorem Zic(ka:Option Addr)(kn kc:Nat)(K:List ByteArray)(a b:Option Addr)(n c m d:Nat)(N:List Int)(T:List Zk)(la:Option Addr)(ln lc:Nat)(C0:List Zf)(R:List Int)(x:Int)(C':List Zf)(U':List (List (List Zf)))(w:World)(hE:Env w)(hK:Bk.TextsAt w ka kn K)(hN:Tr.IntsAt w a n N)(hT:Tr.BlksAt w b m T)(sN:SlOk a n c)(sT:SlOk b m d)(hC:CoinsAt w la ln C0)(sC:SlOk la ln lc)(hR:R.length=24)(hx:Ub K N T R C0 []=(x,C',U')) :
  Calls Tryz.prog 34 #[.agg #[.slice ka kn kc],.agg #[.slice a n c,.slice b m d],.slice la ln lc,.agg (Yp R).toArray] w fun e w'=>ClR w w' x C' U' e:=by
 obtain⟨X,hX⟩:∃ X,X=((((w.alloc (.cells #[.slice ka kn kc] 24)).alloc (.cells #[.slice a n c,.slice b m d] 28)).alloc (.cells (Yp R).toArray 76)).alloc (.cells #[.slice none 0 0,.slice none 0 0,.slice none 0 0,.slice none 0 0,.slice none 0 0,.slice none 0 0,.slice none 0 0,.slice none 0 0,.slice none 0 0,.slice none 0 0,.slice none 0 0,.slice none 0 0,.slice none 0 0,.slice none 0 0,.slice none 0 0,.slice none 0 0,.slice none 0 0,.slice none 0 0,.slice none 0 0,.slice none 0 0,.slice none 0 0,.slice none 0 0,.slice none 0 0,.slice none 0 0] 81)).alloc (.cells #[.slice none 0 0,.slice none 0 0,.slice none 0 0,.slice none 0 0,.slice none 0 0,.slice none 0 0,.slice none 0 0,.slice none 0 0,.slice none 0 0,.slice none 0 0,.slice none 0 0,.slice none 0 0,.slice none 0 0,.slice none 0 0,.slice none 0 0,.slice none 0 0,.slice none 0 0,.slice none 0 0,.slice none 0 0,.slice none 0 0,.slice none 0 0,.slice none 0 0,.slice none 0 0,.slice none 0 0] 81):=⟨_,rfl⟩
 obtain⟨hbX,hXs,hX0,hX1,hX2,hX3,hX4⟩:=Zaf _ _ _ _ _ _ X hX
 rw[Zbg] at hX3 hX4
 have HBX:=Zb hbX
 have HX0:=Zb hX0
 have HX1:=Zb hX1
 have HX3:=Zb hX3
 have HXs:=Zb hXs
 have HE:=Zb hE
 have HK:=Zb hK
 have HN:=Zb hN
 have HT:=Zb hT
 have HC0:=Zb (hC.later hbX)
 have HSC:=Zb sC
 have HSN:=Zb sN
 have HST:=Zb sT
 have HR:=Zb hR
 have HX:=Zb hx
 have HU0:Hid (UnAt (w.heap.size+5) (w.heap.size+4) X []):=⟨_,hX4,UnC.nil _ _⟩
 have hRI:=Kg hR
 have HRX:Hid ((((((w.alloc (.cells #[.slice ka kn kc] 24)).alloc (.cells #[.slice a n c,.slice b m d] 28)).alloc (.cells (Yp R).toArray 76)).alloc (.cells #[.slice none 0 0,.slice none 0 0,.slice none 0 0,.slice none 0 0,.slice none 0 0,.slice none 0 0,.slice none 0 0,.slice none 0 0,.slice none 0 0,.slice none 0 0,.slice none 0 0,.slice none 0 0,.slice none 0 0,.slice none 0 0,.slice none 0 0,.slice none 0 0,.slice none 0 0,.slice none 0 0,.slice none 0 0,.slice none 0 0,.slice none 0 0,.slice none 0 0,.slice none 0 0,.slice none 0 0] 81)).alloc (.cells #[.slice none 0 0,.slice none 0 0,.slice none 0 0,.slice none 0 0,.slice none 0 0,.slice none 0 0,.slice none 0 0,.slice none 0 0,.slice none 0 0,.slice none 0 0,.slice none 0 0,.slice none 0 0,.slice none 0 0,.slice none 0 0,.slice none 0 0,.slice none 0 0,.slice none 0 0,.slice none 0 0,.slice none 0 0,.slice none 0 0,.slice none 0 0,.slice none 0 0,.slice none 0 0,.slice none 0 0] 81)).heap[w.heap.size+2]? = some (.cells (Yp R).toArray 76 (0,0))):=by rw[←hX];exact hX2
 clear hE hK hN hT sN sT hC sC hbX hX0 hX1 hX2 hX3 hX4 hXs hx
 go_enter Tryz.func34,Tryz.ntmps34
 go_wp2_with (refine V9 rfl 76 _ rfl _ rfl _ _ (Za HRX) _ _ Tryz.underlying76 hRI ?_)
 rw[←hX]
 clear hX HRX
 go_loopw [2,17] (fun cv i wr=>∃ (j:Nat) (ca:Option Addr) (cn cc:Nat) (C:List Zf) (U:List (List (List Zf))),j≤24∧i = .int .i64 j∧cv = .slice ca cn cc∧Hid (U.length=j)∧Hid (CoinsAt wr ca cn C∧SlOk ca cn cc)∧Hid (UnAt (w.heap.size+5) (w.heap.size+4) wr U)∧Hid (Ub K N T (R.drop j) C U=(x,C',U'))∧Hid (Gr X wr (fun q=>q=w.heap.size+4))) (fun _ i _=>24 - (intOf i).toNat)
 case atStart=>exact⟨0,la,ln,lc,C0,[],Nat.zero_le _,rfl,rfl,rfl,⟨Za HC0,Za HSC⟩,HU0,by show _=_;rw[List.drop_zero];exact Za HX,Gr.refl _ _⟩
 case round=>
  clear HX HC0 HSC HU0
  obtain⟨j,ca,cn,cc,C,U,hj,rfl,rfl,HUL,HCC,HU,HQ,HG⟩:=hrel
  by_cases hlt:j<24
  ·have hjR:j<R.length:=by rw[Za HR];exact hlt
   have hq:=(cl_at hjR C U).symm.trans (Za HQ)
   have hcell:=fun W=>Mm R (Za HR) j hjR W
   obtain⟨s,hs⟩:∃ s,R[j]=s:=⟨_,rfl⟩
   rw[hs] at hq hcell
   have HQ2:=Zb hq
   have hjI:(j:Int)<24:=by omega
   clear HQ hq hs
   by_cases h0:s=0
   ·subst h0
    have HQ3:Hid (Ub K N T (R.drop (j+1)) C (U++[[]])=(x,C',U')):=by have:=Za HQ2;rw[if_pos rfl] at this;exact this
    clear HQ2
    go_wp2
    go_roundw
    case rel=>exact⟨j+1,ca,cn,cc,C,U++[[]],by omega,by go_num,rfl,by show _=_;rw[List.length_append,Za HUL];rfl,HCC,(Za HU).skip,HQ3,HG⟩
    case measure=>simp[intOf];omega
   ·have h0b:(s == 0)=false:=by simp[h0]
    obtain⟨⟨bx,y⟩,hbl⟩:∃ r,Tr.blockE N T s=r:=⟨_,rfl⟩
    obtain⟨bp,bh,bk,bn,L⟩:=bx
    have hq:=Za HQ2
    rw[if_neg h0,hbl] at hq
    simp only at hq
    obtain⟨⟨x3,C3,S3⟩,hcon⟩:∃ r,Xp K C (bp,bh,bk,bn,L)=r:=⟨_,rfl⟩
    rw[hcon] at hq
    simp only at hq
    have hbw:Below w.heap.size w wr:=(Za HG).below (Za HBX) (by have:=Za HXs;omega) (fun q e=>by omega)
    have C1:=Zb (Tr.block_is a b n c m d N T s (bp,bh,bk,bn,L) y wr ((Za HN).later hbw) ((Za HT).later hbw) (Za HSN) (Za HST) hbl)
    have H0:=Zb ((Za HG).heap (Za HX0) (by omega))
    have H1:=Zb ((Za HG).heap (Za HX1) (by omega))
    have H3:=Zb ((Za HG).heap (Za HX3) (by omega))
    have q10:=Zd (Za H1) 0 _ rfl
    have q11:=Zd (Za H1) 1 _ rfl
    have q1l:=lt_of_block (Za H1)
    have HQ3:=Zb hq
    have HBW:=Zb hbw
    have HCON:=Zb hcon
    clear HQ2 hq hbl hbw hcon
    go_wp2_with fail
    refine (Za C1).mono ?_
    rintro e w1 ⟨ta,tn,tc,rfl,hTx,sTx,hb1⟩
    simp only at hTx
    obtain⟨Y,hY⟩:∃ Y,Y=w1.alloc (.cells #[.int .i64 bp,.int .i64 bh,.int .i64 bk,.int .i64 bn,.slice ta tn tc] 68):=⟨_,rfl⟩
    have hbY:Below w1.heap.size w1 Y:=by rw[hY];exact Zg _ _
    have hYb:Y.heap[w1.heap.size]? = some (.cells [.int .i64 bp,.int .i64 bh,.int .i64 bk,.int .i64 bn,.slice ta tn tc].toArray 68 (0,0)):=by rw[hY];exact Yd _ _ _ _ _ _ _
    have hwY:=Ze hb1 hbY
    have HWY:=Zb hwY
    have HTX2:=Zb (hTx.later hbY)
    have HYB:=Zb hYb
    have HST2:=Zb sTx
    have H0Y:=Zb ((hwY.block _ (lt_of_block (Za H0))).trans (Za H0))
    have H3Y:=Zb ((hwY.block _ (lt_of_block (Za H3))).trans (Za H3))
    have r0:=Zc hb1 (Zd (Za H0) 0 _ rfl)
    have r0l:=Nat.lt_of_lt_of_le (lt_of_block (Za H0)) hb1.size
    clear hTx sTx hb1 hbY hYb hwY C1 q10 q11 q1l
    by_cases hy:y=0
    ·subst hy
     have HQ4:Hid ((if x3≠0 then (x3,[],[]) else Ub K N T (R.drop (j+1)) C3 (U++[S3]))=(x,C',U')):=by have:=Za HQ3;rw[if_neg (fun q=>q rfl)] at this;exact this
     have CN:=Zb (Zan ka kn kc K ca cn cc C bp bh bk bn ta tn tc L x3 C3 S3 Y ((Za HE).later (Ze (Za HBW) (Za HWY))) ((Za HK).later (Ze (Za HBW) (Za HWY))) ((Za HCC).1.later (Za HWY)) (Za HCC).2 (Za HTX2) (Za HCON))
     have s0:=Zd (Za HYB) 0 _ rfl
     have s1:=Zd (Za HYB) 1 _ rfl
     have s2:=Zd (Za HYB) 2 _ rfl
     have s3:=Zd (Za HYB) 3 _ rfl
     have s4:=Zd (Za HYB) 4 _ rfl
     have sl:=lt_of_block (Za HYB)
     clear HQ3 HCON
     go_wp2_with fail
     rw[←hY]
     clear hY
     (try go_wp2_with fail)
     refine (Za CN).mono ?_
     rintro e w3 ⟨oa,oon,oc,ua,un,uc,rfl,hC3,sC3,hU3,sU3,hb3,hf3⟩
     have hw3:=Ze (Za HWY) hb3
     have hUn:=(Za HU).later hw3
     obtain⟨⟨ov,hov⟩,hfz,hgl⟩:=hUn.old hlt
     have hG4:=(Gr.refl w3 (fun q=>q=w.heap.size+4)).one (w.heap.size+4) j (.inl rfl) (.slice ua un uc)
     have HC4:=Zb (hUn.coins hC3 hG4)
     have hsz:=(Za HWY).size
     have hxs:=Za HXs
     have hXw:=(Za HG).size
     have HU4:Hid (UnAt (w.heap.size+5) (w.heap.size+4) (w3.setCell ⟨w.heap.size+4,j,none⟩ (.slice ua un uc)) (U++[S3])):=by have:=hUn.put (by omega) (c:=uc) hU3 (fun ad e=>by have:=hf3 ad e;omega);rw[Za HUL] at this;exact this
     have HG4:=Zb (((Za HG).on hw3).one (w.heap.size+4) j (.inl rfl) (.slice ua un uc))
     have H34:=Zb (hG4.heap ((hb3.block _ (lt_of_block (Za H3Y))).trans (Za H3Y)) (by omega))
     have HSC3:=Zb sC3
     obtain⟨W4,hW4⟩:∃ W4,W4=w3.setCell ⟨w.heap.size+4,j,none⟩ (.slice ua un uc):=⟨_,rfl⟩
     have HUF:=Zb (hG4.below (Ze (Za HBW) hw3) (by omega) (fun q e=>by omega))
     rw[←hW4] at HC4 HU4 HG4 H34 HUF
     clear hC3 sC3 hU3 sU3 hb3 hf3 hw3 hUn hG4 CN s0 s1 s2 s3 s4 sl r0 r0l hsz hXw
     by_cases hx3:x3=0
     ·subst hx3
      have HQ5:Hid (Ub K N T (R.drop (j+1)) C3 (U++[S3])=(x,C',U')):=by have:=Za HQ4;rw[if_neg (fun q=>q rfl)] at this;exact this
      clear HQ4
      go_wp2
      rw[←hW4]
      clear hW4
      go_roundw
      case rel=>exact⟨j+1,oa,oon,oc,C3,U++[S3],by omega,by go_num,rfl,by show _=_;rw[List.length_append,Za HUL];rfl,⟨Za HC4,Za HSC3⟩,HU4,HQ5,HG4⟩
      case measure=>simp[intOf];omega
     ·have HR5:Hid ((x3,([]:List Zf),([]:List (List (List Zf))))=(x,C',U')):=by have:=Za HQ4;rw[if_pos hx3] at this;exact this
      have gx:(x3 != 0)=true:=by simp[hx3]
      clear HQ4
      subst hW4
      have hzi:=Hg (cs:=List.replicate 24 (Value.slice none 0 0)) (by simp)
      have hz1:=(UnC.nil 0 (w3.setCell ⟨w.heap.size+4,j,none⟩ (.slice ua un uc))).one
      go_wp2_with (refine Y6 rfl 81 _ _ rfl _ rfl _ (List.replicate 24 (Value.slice none 0 0)).toArray (by rfl) _ (Za H34) hzi rfl hz1 ?_)
      (try simp only[Exit.inBlock,Exit.then])
      have hF:((w3.setCell ⟨w.heap.size+4,j,none⟩ (.slice ua un uc)).setRow (w.heap.size+3) (List.replicate 24 (Value.slice none 0 0)).toArray).heap[w.heap.size+3]? = some (.cells (List.replicate 24 (Value.slice none 0 0)).toArray 81 (0,0)):=setRow_heap _ _ _ _ _ _ (Za H34)
      have HL:=run_loadVar_row (P:=Tryz.prog) _ (w.heap.size+3) 81 81 _ (0,0) _ hF Tryz.underlying81 rfl hzi
      refine bodyPost_ret (v:=.tuple #[.slice none 0 0,.agg (List.replicate 24 (Value.slice none 0 0)).toArray,.int .i64 x3]) ?_ rfl ?_
      ·rw[Zl rfl]
       exact (congrArg (fun r=>Result.andThen r fun x w₂=>Result.ok (Value.tuple #[.slice none 0 0,x,.int .i64 x3]) w₂) HL).trans rfl
      ·exact Zie (Za HR5) (below_setRow (Za HUF) (by omega) _)
    ·have HR5:Hid ((y,([]:List Zf),([]:List (List (List Zf))))=(x,C',U')):=by have:=Za HQ3;rw[if_pos hy] at this;exact this
     have gy:(y == 0)=false:=by simp[hy]
     have gx:(y != 0)=true:=by simp[hy]
     have HUF:=Zb (Ze (Za HBW) (Za HWY))
     clear HQ3 HCON
     subst hY
     have hzi:=Hg (cs:=List.replicate 24 (Value.slice none 0 0)) (by simp)
     have hz1:=(UnC.nil 0 (w1.alloc (.cells #[.int .i64 bp,.int .i64 bh,.int .i64 bk,.int .i64 bn,.slice ta tn tc] 68))).one
     go_wp2_with (refine Y6 rfl 81 _ _ rfl _ rfl _ (List.replicate 24 (Value.slice none 0 0)).toArray (by rfl) _ (Za H3Y) hzi rfl hz1 ?_)
     (try simp only[Exit.inBlock,Exit.then])
     have hF:((w1.alloc (.cells #[.int .i64 bp,.int .i64 bh,.int .i64 bk,.int .i64 bn,.slice ta tn tc] 68)).setRow (w.heap.size+3) (List.replicate 24 (Value.slice none 0 0)).toArray).heap[w.heap.size+3]? = some (.cells (List.replicate 24 (Value.slice none 0 0)).toArray 81 (0,0)):=setRow_heap _ _ _ _ _ _ (Za H3Y)
     have HL:=run_loadVar_row (P:=Tryz.prog) _ (w.heap.size+3) 81 81 _ (0,0) _ hF Tryz.underlying81 rfl hzi
     refine bodyPost_ret (v:=.tuple #[.slice none 0 0,.agg (List.replicate 24 (Value.slice none 0 0)).toArray,.int .i64 y]) ?_ rfl ?_
     ·rw[Zl rfl]
      exact (congrArg (fun r=>Result.andThen r fun x w₂=>Result.ok (Value.tuple #[.slice none 0 0,x,.int .i64 y]) w₂) HL).trans rfl
     ·exact Zie (Za HR5) (below_setRow (Za HUF) (by omega) _)
  ·obtain rfl:j=24:=by omega
   have HR5:Hid (((0:Int),C,U)=(x,C',U')):=by have:=Za HQ;rw[List.drop_of_length_le (by rw[Za HR];exact Nat.le_refl _)] at this;exact this
   obtain⟨cs,hcs,hUC⟩:=Za HU
   have h3:=(Za HG).heap (Za HX3) (by omega)
   have hbw:Below w.heap.size w wr:=(Za HG).below (Za HBX) (by have:=Za HXs;omega) (fun q e=>by omega)
   have hci:=Hg hUC.1
   have hc1:=hUC.one
   have hsz:((List.replicate 24 (Value.slice none 0 0)).toArray:Array Value).size=cs.toArray.size:=by simp[hUC.1]
   have HCS:=Zb hcs
   have H3:=Zb h3
   have HBW:=Zb hbw
   have HUC:=Zb hUC
   clear HQ HU hcs h3 hbw hUC
   go_wp2_with fail
   refine wp_region_held_drew (S:=fun V=>V.heap[w.heap.size+4]? = some (.cells cs.toArray 81 (0,0))) (by kernel_rfl) (Za HCS) (fun Zlz=>?_)
   refine tk 0 ⟨some 46,.move (.tmp 2),29, "chain.go:55",#[],none⟩ ?_ rfl ?_ Zlz ?_
   rotate_left
   ·(intro W hSw;(try dsimp only at hSw);go_simp;first|done|with_reducible rfl)
   (try simp only[Act.put,ZA,ZB,ZC])
   refine tk 1 ⟨some 47,.load 81 (.tmp 11),81, "chain.go:55",#[⟨2,.gcOnly .lateStores⟩],none⟩ (.agg cs.toArray) rfl ?_ Zlz ?_
   ·(intro V hSw;exact Bu 81 _ rfl (w.heap.size+4) rfl cs.toArray 81 hSw _ _ Tryz.underlying81 hci)
   (try simp only[Act.put,ZA,ZB,ZC])
   refine tk 2 ⟨some 8,.assign (.tmp 46),29, "chain.go:55",#[⟨0,.data⟩,⟨0,.phase⟩,⟨1,.textOnly .lateStores⟩],none⟩ ?_ rfl ?_ Zlz ?_
   rotate_left
   ·(intro W hSw;(try dsimp only at hSw);go_simp;first|done|with_reducible rfl)
   (try simp only[Act.put,ZA,ZB,ZC])
   refine wpAnyH_ready (rs:=[3]) (by kernel_rfl) (by simp) ?_
   refine AllReadyH.cons (o:=⟨none,.store 81 (.tmp 9) (.tmp 47),0, "chain.go:55",#[⟨1,.data⟩,⟨2,.chain⟩,⟨0,.phase⟩,⟨1,.phase⟩,⟨2,.phase⟩],none⟩) rfl (fun KQ hK=>?_) AllReadyH.nil
   refine Hx (by rfl) 81 _ _ rfl (w.heap.size+3) rfl (List.replicate 24 (Value.slice none 0 0)).toArray cs.toArray rfl 81 (Za H3) hci hsz hc1 ?_
   refine hK.out _ _ ((setRow_other _ _ _ _ (by omega)).trans (Za HCS)) (fun Zma=>?_)
   clear hK KQ Zlz
   have Zlz:=Zma
   clear Zma
   (try simp only[Act.put])
   refine tk 4 ⟨some 10,.assign (.const (Value.int IntKind.i64 0)),30, "chain.go:55",#[⟨3,.chain⟩,⟨0,.phase⟩,⟨1,.phase⟩,⟨2,.phase⟩,⟨3,.phase⟩],none⟩ ?_ rfl ?_ Zlz ?_
   rotate_left
   ·(intro W hSw;(try dsimp only at hSw);go_simp;first|done|with_reducible rfl)
   (try simp only[Act.put,ZA,ZB,ZC])
   refine wpAnyH_done (by kernel_rfl) ?_ _
   clear Zlz
   go_wp2
   (try simp only[Exit.inBlock,Exit.then])
   obtain⟨r1,r2⟩:=Prod.mk.inj (Za HR5)
   obtain⟨r2,r3⟩:=Prod.mk.inj r2
   subst r1 r2 r3
   have hF:(wr.drew.setRow (w.heap.size+3) cs.toArray).heap[w.heap.size+3]? = some (.cells cs.toArray 81 (0,0)):=setRow_heap _ _ _ _ _ _ (Za H3)
   have HL:=run_loadVar_row (P:=Tryz.prog) _ (w.heap.size+3) 81 81 _ (0,0) _ hF Tryz.underlying81 rfl hci
   have hG5:Gr wr (wr.drew.setRow (w.heap.size+3) cs.toArray) (fun q=>q=w.heap.size+3):=(Gr.refl wr (fun q=>q=w.heap.size+3)).draw.row (g:=w.heap.size+3) (.inl rfl) _
   have hu3:UsOk 81 (w.heap.size+3) 24 wr:=(UnC.nil 0 wr).usok (Za H3)
   refine bodyPost_ret (v:=.tuple #[.slice ca cn cc,.agg cs.toArray,.int .i64 0]) ?_ rfl ⟨ca,cn,cc,cs,rfl,Wh (Za HCC).1 hu3 hG5,(Za HCC).2,((Za HUC).gr hu3 (by omega) hG5).less (by omega),hG5.below (Za HBW) (by have:=(Za HBW).size;omega) (fun q e=>by omega)⟩
   rw[Zl rfl]
   exact (congrArg (fun r=>Result.andThen r fun x w₂=>Result.ok (Value.tuple #[.slice ca cn cc,x,.int .i64 0]) w₂) HL).trans rfl
end Go.Proofs.YtpikejjiignchaaGreatDoor
namespace Go.Proofs.YtpikejjiignchaaGreatDoor.Bk
open Go.RowKit Go.Maps
theorem check_is(a:Option Addr)(n c:Nat)(L:List ByteArray)(w:World)(h:TextsAt w a n L)(x:Int)(hx:bkChk L=x) :
  Calls Tryz.prog 32 #[.agg #[.slice a n c]] w fun e w'=>e = .returned (.int .i64 x)∧Below w.heap.size w w':=by
 have hb:=Zg w (.cells #[.slice a n c] 24)
 have O:=Zb (D6 a n c L _ (h.later hb) x hx)
 have HB:=Zb hb
 clear h hx hb
 go_enter Tryz.func32,Tryz.ntmps32
 go_wp2_with fail
 refine (Za O).mono ?_
 rintro e w2 ⟨v,rfl,-,hb2⟩
 have HB2:=Zb (Ze (Za HB) hb2)
 clear hb2
 go_wp2
 go_ret
 exact⟨rfl,Za HB2⟩
end Go.Proofs.YtpikejjiignchaaGreatDoor.Bk
namespace Go.Proofs.YtpikejjiignchaaGreatDoor
open Go.RowKit
def CnR(w w':World)(x:Int)(C:List Zf)(e:Ending):Prop:=∃ oa oon oc,e = .returned (.tuple #[.slice oa oon oc,.int .i64 x])∧CoinsAt w' oa oon C∧SlOk oa oon oc∧Below w.heap.size w w'
theorem Zar{w w':World}{x y:Int}{C:List Zf}(h:((y:Int),([]:List Zf))=(x,C))(hb:Below w.heap.size w w'):CnR w w' x C (.returned (.tuple #[.slice none 0 0,.int .i64 y])):=by
 injection h with h1 h2
 subst h1 h2
 exact⟨none,0,0,rfl,⟨rfl,fun h=>absurd h (by omega)⟩,Wp,hb⟩
theorem Kn{N:List Int}{T:List Zk}{s:Int}{P:List Int}{x:Int}(h:Tr.pathE N T s=(P,x)):P.length≤24:=by
 by_cases hx:x=0
 ·subst hx
  obtain⟨h1,h2,h3⟩:=Tr.pathE_ok (s:=s) (N:=N) (T:=T) (by rw[h])
  have:=Dw h1 h2
  rw[←h3,h] at this
  exact this
 ·unfold Tr.pathE at h
  split at h
  ·injection h with h _;subst h;simp
  split at h
  ·injection h with h _;subst h;simp
  injection h with _ h
  exact absurd h.symm hx
theorem Co(ka:Option Addr)(kn kc:Nat)(K:List ByteArray)(a b:Option Addr)(n c m d:Nat)(N:List Int)(T:List Zk)(s:Int)(x:Int)(C':List Zf)(w:World)(hE:Env w)(hK:Bk.TextsAt w ka kn K)(hN:Tr.IntsAt w a n N)(hT:Tr.BlksAt w b m T)(sN:SlOk a n c)(sT:SlOk b m d)(hx:Wa K N T s=(x,C')) :
  Calls Tryz.prog 7 #[.agg #[.slice ka kn kc],.agg #[.slice a n c,.slice b m d],.int .i64 s] w fun e w'=>CnR w w' x C' e:=by
 obtain⟨X,hX⟩:∃ X,X=(w.alloc (.cells #[.slice ka kn kc] 24)).alloc (.cells #[.slice a n c,.slice b m d] 28):=⟨_,rfl⟩
 have hbX:Below w.heap.size w X:=by rw[hX];exact Ze (Zg _ _) (Zg _ _)
 have hX0:X.heap[w.heap.size]? = some (.cells [.slice ka kn kc].toArray 24 (0,0)):=by rw[hX,Below.heap_alloc _ _ _ (by simp)];exact Qs _ _ _
 have hX1:X.heap[w.heap.size+1]? = some (.cells [.slice a n c,.slice b m d].toArray 28 (0,0)):=by
  rw[hX]
  have:=heap_alloc_new (w.alloc (.cells #[.slice ka kn kc] 24)) (.cells #[.slice a n c,.slice b m d] 28)
  rw[show (w.alloc (.cells #[.slice ka kn kc] 24)).heap.size=w.heap.size+1 by simp] at this
  exact this
 obtain⟨z,hz⟩:∃ z,Bk.bkChk K=z:=⟨_,rfl⟩
 obtain⟨⟨P,y⟩,hp⟩:∃ r,Tr.pathE N T s=r:=⟨_,rfl⟩
 obtain⟨⟨x4,C4,U4⟩,hcl⟩:∃ r,Ub K N T (Y7 P) [] []=r:=⟨_,rfl⟩
 unfold Wa at hx
 rw[hz,hp] at hx
 simp only at hx
 rw[hcl] at hx
 have hP:=Kn hp
 have C1:=Zb (Bk.check_is ka kn kc K X (hK.later hbX) z hz)
 have C2:=Zb (fun W (hw:Below X.heap.size X W)=>Zge a b n c m d N T s P y W ((hN.later hbX).later hw) ((hT.later hbX).later hw) sN sT hp hP)
 have C3:=Zb (fun W (hw:Below X.heap.size X W)=>Zic ka kn kc K a b n c m d N T none 0 0 [] (Y7 P) x4 C4 U4 W ((hE.later hbX).later hw) ((hK.later hbX).later hw) ((hN.later hbX).later hw) ((hT.later hbX).later hw) sN sT ⟨rfl,fun h=>absurd h (by omega)⟩ Wp (J0 hP) hcl)
 have x00:=Zd hX0 0 _ rfl
 have xl:=lt_of_block hX1
 have xk:=lt_of_block hX0
 have HBX:=Zb hbX
 have HX0:=Zb hX0
 have HX1:=Zb hX1
 have HX:=Zb hx
 have HP:=Zb hP
 clear hE hK hN hT sN sT hbX hX0 hX1 hx hp hcl hz
 go_enter Tryz.func7,Tryz.ntmps7
 go_wp2_with fail
 rw[←hX]
 clear hX
 (try go_wp2_with fail)
 refine (Za C1).mono ?_
 rintro e w1 ⟨rfl,hb1⟩
 by_cases hz0:z=0
 ·subst hz0
  have h11:=(hb1.block _ (lt_of_block (Za HX1))).trans (Za HX1)
  have q10:=Zd h11 0 _ rfl
  have q11:=Zd h11 1 _ rfl
  have q1l:=lt_of_block h11
  have D2:=Zb ((Za C2) w1 hb1)
  have HB1:=Zb hb1
  clear hb1 h11 C1 C2 x00
  go_wp2_with fail
  refine (Za D2).mono ?_
  rintro e w2 ⟨rfl,hb2⟩
  obtain⟨Y,hY⟩:∃ Y,Y=w2.alloc (.cells (Yp (Y7 P)).toArray 76):=⟨_,rfl⟩
  have hbY:Below w2.heap.size w2 Y:=by rw[hY];exact Zg _ _
  have hYr:Y.heap[w2.heap.size]? = some (.cells (Yp (Y7 P)).toArray 76 (0,0)):=by rw[hY];exact heap_alloc_new _ _
  have hXY:=Ze (Za HB1) (Ze hb2 hbY)
  have h0:=(hXY.block _ (lt_of_block (Za HX0))).trans (Za HX0)
  have h1:=(hXY.block _ (lt_of_block (Za HX1))).trans (Za HX1)
  have hRI:=Kg (J0 (Za HP))
  have hR1:=At (Y7 P)
  have hzs:((Yp (List.replicate 24 0)).toArray:Array Value).size=(Yp (Y7 P)).toArray.size:=by simp[Yp,J0 (Za HP)]
  have HYZ:Hid ((w2.alloc (.cells #[.int .i64 0,.int .i64 0,.int .i64 0,.int .i64 0,.int .i64 0,.int .i64 0,.int .i64 0,.int .i64 0,.int .i64 0,.int .i64 0,.int .i64 0,.int .i64 0,.int .i64 0,.int .i64 0,.int .i64 0,.int .i64 0,.int .i64 0,.int .i64 0,.int .i64 0,.int .i64 0,.int .i64 0,.int .i64 0,.int .i64 0,.int .i64 0] 76)).heap[w2.heap.size]? = some (.cells (Yp (List.replicate 24 0)).toArray 76 (0,0))):=by rw[Ee];exact heap_alloc_new _ _
  have EY:Hid ((w2.alloc (.cells #[.int .i64 0,.int .i64 0,.int .i64 0,.int .i64 0,.int .i64 0,.int .i64 0,.int .i64 0,.int .i64 0,.int .i64 0,.int .i64 0,.int .i64 0,.int .i64 0,.int .i64 0,.int .i64 0,.int .i64 0,.int .i64 0,.int .i64 0,.int .i64 0,.int .i64 0,.int .i64 0,.int .i64 0,.int .i64 0,.int .i64 0,.int .i64 0] 76)).setRow w2.heap.size (Yp (Y7 P)).toArray=Y):=by show _=_;rw[hY];exact World.setRow_alloc_new _ _ _ _
  have D3:=Zb ((Za C3) Y hXY)
  have HXY:=Zb hXY
  have H0:=Zb h0
  have H1:=Zb h1
  have HYR:=Zb hYr
  clear hb2 hbY hYr hXY h0 h1 D2 C3 q10 q11 q1l hY
  obtain⟨RR,hRR⟩:∃ RR,(Yp (Y7 P)).toArray=RR:=⟨_,rfl⟩
  rw[hRR] at hRI hR1 hzs EY HYR D3
  rw[hRR]
  clear hRR
  have r0:=Zd (Za H0) 0 _ rfl
  have r1:=Zd (Za H1) 0 _ rfl
  have r2:=Zd (Za H1) 1 _ rfl
  have rl:=lt_of_block (Za H1)
  by_cases hy:y=0
  ·subst hy
   have HR5:Hid ((x4,C4)=(x,C')):=by have:=Za HX;rw[if_neg (fun q=>q rfl),if_neg (fun q=>q rfl)] at this;exact this
   clear HX
   go_wp2_with (first|(refine Y6 rfl 76 _ _ rfl _ rfl _ _ rfl _ (Za HYZ) hRI hzs hR1 ?_;rw[Za EY])|(refine V9 rfl 76 _ rfl _ rfl _ _ (Za HYR) _ _ Tryz.underlying76 hRI ?_))
   refine (Za D3).mono ?_
   rintro e w3 ⟨oa,oon,oc,cs,rfl,hC,sC,hUn,hb3⟩
   obtain⟨r1,r2⟩:=Prod.mk.inj (Za HR5)
   subst r1 r2
   have hci:=Hg hUn.1
   have hc1:=hUn.one
   have HC:=Zb hC
   have HSC:=Zb sC
   have HW:=Zb (Ze (Za HBX) (Ze (Za HXY) hb3))
   have hus:((List.replicate 24 (Value.slice none 0 0)).toArray:Array Value).size=cs.toArray.size:=by simp[hUn.1]
   have HZ3:Hid ((w3.alloc (.cells #[.slice none 0 0,.slice none 0 0,.slice none 0 0,.slice none 0 0,.slice none 0 0,.slice none 0 0,.slice none 0 0,.slice none 0 0,.slice none 0 0,.slice none 0 0,.slice none 0 0,.slice none 0 0,.slice none 0 0,.slice none 0 0,.slice none 0 0,.slice none 0 0,.slice none 0 0,.slice none 0 0,.slice none 0 0,.slice none 0 0,.slice none 0 0,.slice none 0 0,.slice none 0 0,.slice none 0 0] 81)).heap[w3.heap.size]? = some (.cells (List.replicate 24 (Value.slice none 0 0)).toArray 81 (0,0))):=by rw[Zbg];exact heap_alloc_new _ _
   have E3:Hid ((w3.alloc (.cells #[.slice none 0 0,.slice none 0 0,.slice none 0 0,.slice none 0 0,.slice none 0 0,.slice none 0 0,.slice none 0 0,.slice none 0 0,.slice none 0 0,.slice none 0 0,.slice none 0 0,.slice none 0 0,.slice none 0 0,.slice none 0 0,.slice none 0 0,.slice none 0 0,.slice none 0 0,.slice none 0 0,.slice none 0 0,.slice none 0 0,.slice none 0 0,.slice none 0 0,.slice none 0 0,.slice none 0 0] 81)).setRow w3.heap.size cs.toArray=w3.alloc (.cells cs.toArray 81)):=World.setRow_alloc_new _ _ _ _
   clear hC sC hUn hb3 D3 r0 rl
   obtain⟨CC,hCC⟩:∃ CC,cs.toArray=CC:=⟨_,rfl⟩
   rw[hCC] at hci hc1 hus E3
   rw[hCC]
   clear hCC
   go_wp2_with (refine Y6 rfl 81 _ _ rfl _ rfl _ _ rfl _ (Za HZ3) hci hus hc1 ?_;rw[Za E3])
   go_ret2
   exact⟨oa,oon,oc,rfl,(Za HC).later (Zg _ _),Za HSC,Ze (Za HW) (Zg _ _)⟩
  ·have HR5:Hid ((y,([]:List Zf))=(x,C')):=by have:=Za HX;rw[if_neg (fun q=>q rfl),if_pos hy] at this;exact this
   have gy:(y != 0)=true:=by simp[hy]
   clear HX D3
   go_wp2_with (refine Y6 rfl 76 _ _ rfl _ rfl _ _ rfl _ (Za HYZ) hRI hzs hR1 ?_;rw[Za EY])
   go_ret2
   exact Zar (Za HR5) (Ze (Za HBX) (Za HXY))
 ·have HR5:Hid ((z,([]:List Zf))=(x,C')):=by have:=Za HX;rw[if_pos hz0] at this;exact this
  have gz:(z != 0)=true:=by simp[hz0]
  have HW:=Zb (Ze (Za HBX) hb1)
  clear HX C1 C2 C3 hb1 x00
  go_wp2
  go_ret2
  exact Zar (Za HR5) (Za HW)
open Tr (fnd Yt chkTr TrOk)
def Dt(K:List ByteArray)(N:List Int)(T:List Zk):List Int→List Zf→Int×List Zf
 | [],C=>(0,C)
 | x :: R,C=>if (Xp K C (fnd x N T)).1≠0 then ((Xp K C (fnd x N T)).1,[]) else Dt K N T R (Xp K C (fnd x N T)).2.1
theorem Ar{K:List ByteArray}{N:List Int}{T:List Zk}:∀ (P:List Int) (C:List Zf),(Yn K N T P C).1≠0→(Yn K N T P C).2.1=[]
 | [],_,h=>absurd rfl h
 | x :: P,C,h=>by
  rw[Yn] at h ⊢
  split
  ·rfl
  split
  ·rfl
  rename_i q1 q2
  rw[if_neg q1,if_neg q2] at h
  exact absurd rfl h
theorem Zbo{K:List ByteArray}{N:List Int}{T:List Zk}:∀ (P:List Int) (C:List Zf),Dt K N T P C=((Yn K N T P C).1,(Yn K N T P C).2.1)
 | [],_=>rfl
 | x :: P,C=>by
  rw[Dt,Yn]
  by_cases q:(Xp K C (fnd x N T)).1=0
  ·rw[if_neg (fun r=>r q),if_neg (fun r=>r q),Zbo P]
   by_cases q2:(Yn K N T P (Xp K C (fnd x N T)).2.1).1=0
   ·rw[if_neg (fun r=>r q2),q2]
   ·rw[if_pos q2,Ar P _ q2]
  ·rw[if_pos q,if_pos q]
theorem Zjb{K:List ByteArray}{N:List Int}{T:List Zk}{P:List Int}{j:Nat}(hj:j<P.length)(C:List Zf) :
  Dt K N T (P.drop j) C=if (Xp K C (fnd P[j] N T)).1≠0 then ((Xp K C (fnd P[j] N T)).1,[]) else Dt K N T (P.drop (j+1)) (Xp K C (fnd P[j] N T)).2.1:=by
 rw[List.drop_eq_getElem_cons hj];rfl
theorem Zap{K:List ByteArray}{C M:List Zf}{b:Zk}{S:List (List Zf)}(h:Xp K C b=(0,M,S)):Ye M:=by
 unfold Xp at h
 split at h
 ·rename_i q;injection h with h _;exact absurd h q
 rename_i q
 exact P4 _ _ _ _ _ _ h (Br (Decidable.not_not.1 q)).1
theorem Zdf(ka:Option Addr)(kn kc:Nat)(K:List ByteArray)(a b:Option Addr)(n c d:Nat)(N:List Int)(T:List Zk)(s:Int)(x:Int)(C':List Zf)(w:World)(hE:EnvF w)(hK:Bk.TextsAt w ka kn K)(sK:Bk.SlOk ka kn kc)(hR:Bk.Right K)(hN:Tr.IntsAt w a n N)(hT:Tr.BlksAt w b n T)(hn:n≤maxLen)(hok:TrOk N T)(hs:s=0∨s∈N)(hx:Dt K N T (Yt N T s) []=(x,C')) :
  Calls Tryz.prog 15 #[.slice ka kn kc,.agg #[.slice a n c,.slice b n d],.int .i64 s] w fun e w'=>CnR w w' x C' e:=by
 obtain⟨X,hX⟩:∃ X,X=w.alloc (.cells #[.slice a n c,.slice b n d] 28):=⟨_,rfl⟩
 have hbX:Below w.heap.size w X:=by rw[hX];exact Zg _ _
 have hX0:X.heap[w.heap.size]? = some (.cells [.slice a n c,.slice b n d].toArray 28 (0,0)):=by rw[hX];exact Tr.two_heap _ _ _ _
 obtain⟨P,hP⟩:∃ P,Yt N T s=P:=⟨_,rfl⟩
 obtain⟨pn,hpn⟩:∃ pn,P.length=pn:=⟨_,rfl⟩
 have hsub:∀ y∈P,y∈N:=by rw[←hP];exact hok.pth_sub hs
 have hpl:pn≤1000:=by rw[←hpn,←hP];exact Tr.pth_len hok.heads s
 rw[hP] at hx
 have C1:=Zb (Tr.rpath_is a b n c d N T s P pn X hok hn (hN.later hbX) (hT.later hbX) hs hP hpn)
 have x0:=Zd hX0 0 _ rfl
 have x1:=Zd hX0 1 _ rfl
 have xl:=lt_of_block hX0
 have HBX:=Zb hbX
 have HX0:=Zb hX0
 have HE:=Zb hE
 have HK:=Zb hK
 have HSK:=Zb sK
 have HR:=Zb hR
 have HN:=Zb hN
 have HT:=Zb hT
 have HOK:=Zb hok
 have HSUB:=Zb hsub
 have HPN:=Zb hpn
 have HX:=Zb hx
 clear hE hK sK hR hN hT hok hs hx hbX hX0 hP hsub hpn
 go_enter Tryz.func15,Tryz.ntmps15
 go_wp2_with fail
 rw[←hX]
 clear hX
 (try go_wp2_with fail)
 refine (Za C1).mono ?_
 rintro e w1 ⟨v,rfl,ho1,hb1⟩
 obtain⟨av,cv,rfl,sv,iv⟩:=Tr.ints_of_own ho1
 have HB1:=Zb (Ze (Za HBX) hb1)
 have HX1:=Zb ((hb1.block _ (lt_of_block (Za HX0))).trans (Za HX0))
 have HI1:=Zb iv
 clear ho1 hb1 iv sv x0 x1 xl C1 HX0
 go_wp2_with fail
 go_loopw [8,24] (fun cv i wr=>∃ (j:Nat) (ca:Option Addr) (cn cc:Nat) (C:List Zf),j≤pn∧i = .int .i64 j∧cv = .slice ca cn cc∧Hid (CoinsAt wr ca cn C∧SlOk ca cn cc∧Ye C)∧Hid (Dt K N T (P.drop j) C=(x,C'))∧Hid (Below w1.heap.size w1 wr)) (fun _ i _=>pn - (intOf i).toNat)
 case atStart=>exact⟨0,none,0,0,[],Nat.zero_le _,rfl,rfl,⟨⟨rfl,fun h=>absurd h (by omega)⟩,Wp,(Y4 _).1 rfl⟩,by show _=_;rw[List.drop_zero];exact Za HX,Below.refl _ _⟩
 case round=>
  clear HX
  obtain⟨j,ca,cn,cc,C,hj,rfl,rfl,HC,HQ,HG⟩:=hrel
  by_cases hlt:j<pn
  ·have hjP:j<P.length:=by rw[Za HPN];exact hlt
   have hq:=(Zjb hjP C).symm.trans (Za HQ)
   obtain⟨pb,po,rfl,hpb,hpc⟩:=(Za HI1).2 (by omega)
   have f1:=Zc (Za HG) (hpc j hjP)
   have fl:=Nat.lt_of_lt_of_le hpb (Za HG).size
   have hsN:=(Za HSUB) P[j] (List.getElem_mem hjP)
   obtain⟨y,hy⟩:∃ y,P[j]=y:=⟨_,rfl⟩
   rw[hy] at hq f1 hsN
   have hbw:=Ze (Za HB1) (Za HG)
   have hNw:=(Za HN).later hbw
   have hTw:=(Za HT).later hbw
   rcases Tr.idxI_fnd y N T 0 (by rw[hNw.1,hTw.1]) with ⟨_,q,_⟩|⟨i,hi,k1,_,k3⟩
   ·exact absurd hsN q
   rw[Nat.zero_add] at k1
   have hin:i<n:=by rw[←hTw.1];exact hi
   obtain⟨bq,oq,rfl,hbq,hcq⟩:=hTw.2 (by omega)
   have hat:=hcq i hi
   rw[←k3] at hat
   obtain⟨⟨bp,bh,bk,bn,L⟩,hbl⟩:∃ r,fnd y N T=r:=⟨_,rfl⟩
   rw[hbl] at hat hq
   obtain⟨g0,g1,g2,g3,ta,tn,tc,g4,ht,sT⟩:=hat
   simp only at g0 g1 g2 g3 ht
   obtain⟨⟨x3,C3,S3⟩,hcon⟩:∃ r,Xp K C (bp,bh,bk,bn,L)=r:=⟨_,rfl⟩
   rw[hcon] at hq
   simp only at hq
   have hcx:=((Za HG).block _ (lt_of_block (Za HX1))).trans (Za HX1)
   have t0:=Zd hcx 0 _ rfl
   have t1:=Zd hcx 1 _ rfl
   have tl:=lt_of_block hcx
   have CI:=Zb (fun W (hw:Below wr.heap.size wr W)=>Tr.indexInt_is a n c N y (i:Nat) W hn (hNw.later hw) k1)
   have CN:=Zb (fun W (hw:Below wr.heap.size wr W)=>Zgk ka kn kc K ca cn cc C bp bh bk bn ta tn tc L x3 C3 S3 W ((Za HE).later (Ze hbw hw)) ((Za HK).later (Ze hbw hw)) (Za HSK) (Za HR) ((Za HC).1.later hw) (Za HC).2.1 (Za HC).2.2 (ht.later hw) sT hcon)
   have gi:¬(i:Int)<0:=by omega
   have giN:(i:Int)<(n:Int):=by omega
   have hjI:(j:Int)<(pn:Int):=by omega
   have HQ2:=Zb hq
   have HCON:=Zb hcon
   have HBW:=Zb hbw
   clear HQ hq hcon hbw hNw hTw hpc hpb hy hsN k1 k3 hcq hbl ht sT hcx HC
   go_wp2_with fail
   go_region_with (first
    | (go_at_call 13;refine ((Za CI) _ (Zh _)).mono ?_;rintro e w3 ⟨rfl,rfl⟩)
    | (go_at_call 41;refine ((Za CN) _ (Zh _)).mono ?_;rintro e w4 ⟨oa,oon,oc,ua,un,uc,rfl,hC3,sC3,hU3,sU3,hb3,hf3⟩;have H4:=Zb (Ze (Zh _) hb3);have HC3:=Zb hC3;have HSC3:=Zb sC3;clear hC3 sC3 hU3 sU3 hb3 hf3))
   all_goals
    by_cases hx3:x3=0
    ·subst hx3
     have HQ5:Hid (Dt K N T (P.drop (j+1)) C3=(x,C')):=by have:=Za HQ2;rw[if_neg (fun q=>q rfl)] at this;exact this
     have HG4:=Zb (Ze (Za HG) (Za H4))
     have HRC:=Zb (Zap (Za HCON))
     clear HQ2 HCON H4 HG
     go_wp2
     go_roundw
     case rel=>exact⟨j+1,oa,oon,oc,C3,by omega,by go_num,rfl,⟨Za HC3,Za HSC3,Za HRC⟩,HQ5,HG4⟩
     case measure=>simp[intOf];omega
    ·have HR5:Hid ((x3,([]:List Zf))=(x,C')):=by have:=Za HQ2;rw[if_pos hx3] at this;exact this
     have gx:(x3 != 0)=true:=by simp[hx3]
     have HG4:=Zb (Ze (Za HBW) (Za H4))
     clear HQ2 HCON H4 HG
     go_wp2
     (try simp only[Exit.inBlock,Exit.then])
     refine bodyPost_ret (v:=.tuple #[.slice none 0 0,.int .i64 x3]) ?_ rfl (Zar (Za HR5) (Za HG4))
     simp[results,Tryz.f15,go_sem]
  ·have hjn:j=pn:=by omega
   have HR5:Hid (((0:Int),C)=(x,C')):=by have:=Za HQ;rw[List.drop_of_length_le (by rw[Za HPN];omega)] at this;exact this
   have HG4:=Zb (Ze (Za HB1) (Za HG))
   clear HQ HG
   have HEND:Hid (CnR w wr x C' (.returned (.tuple #[.slice ca cn cc,.int .i64 0]))):=by
    obtain⟨e1,e2⟩:=Prod.mk.inj (Za HR5)
    subst e1 e2
    exact⟨ca,cn,cc,rfl,(Za HC).1,(Za HC).2.1,Za HG4⟩
   subst hjn
   go_wp2
   (try simp only[Exit.inBlock,Exit.then])
   refine bodyPost_ret (v:=.tuple #[.slice ca cn cc,.int .i64 0]) ?_ rfl (Za HEND)
   simp[results,Tryz.f15,go_sem]
end Go.Proofs.YtpikejjiignchaaGreatDoor
namespace Go.Proofs.YtpikejjiignchaaGreatDoor.Tr
open Go.RowKit Go.Maps
theorem Vd:Keyed Tryz.prog 3:=int_keyed Tryz.underlying3
theorem Xf(w:World):(zeroValue 3).run Tryz.prog w = .ok (.int .i64 0) w:=by kernel_rfl
theorem D8{x y:Int}(h:x≠y):(Lit.int .i64 x)≠(Lit.int .i64 y):=by
 intro e;injection e with _ e;exact h e
structure HMap(bm:Nat)(N:List Int)(T:List Zk)(w:World):Prop where
 map:∃ D,w.ownsMap Tryz.prog 3 (plainElem (H:=Unit) Tryz.prog 3) bm (N.length+1) D∧IsMap D∧(∀ x:Int,Maps.has D (.int .i64 x)=decide (x=0∨x∈N))∧∀ x:Int,D.atKey (.int .i64 x) (.lit (.int .i64 0)) = .lit (.int .i64 (fnd x N T).2.1)
theorem HMap.keep{bm:Nat}{N:List Int}{T:List Zk}{w w':World}(h:HMap bm N T w)(hb:Below w.heap.size w w'):HMap bm N T w':=by
 obtain⟨D,⟨es,clock,h1,r⟩,r2⟩:=h.map
 exact⟨D,⟨es,clock,(hb.block bm (lt_of_block h1)).trans h1,r⟩,r2⟩
theorem HMap.start{bm:Nat}{w:World}{D:DataW Unit}(hD:D=DataW.put (.map []) (.int .i64 0) (.lit (.int .i64 0)))(h:w.ownsMap Tryz.prog 3 (plainElem (H:=Unit) Tryz.prog 3) bm (0+1) D):HMap bm [] [] w:=by
 have hm:IsMap (DataW.map (H:=Unit) []):=⟨_,rfl⟩
 refine⟨D,h,by rw[hD];exact⟨_,rfl⟩,fun x=>?_,fun x=>?_⟩
 ·by_cases e:x=0
  ·subst e;rw[hD,has_put_same hm (by simp[WideAt.IsKeyLit])];simp
  ·rw[hD,has_put_other (D8 e)];simp[e,Maps.has]
 ·by_cases e:x=0
  ·subst e;rw[hD,atKey_put_same hm (by simp[WideAt.IsKeyLit])];simp[fnd,Ud]
  ·rw[hD,atKey_put_other (D8 e)];simp[fnd,Ud];rfl
theorem HMap.put{bm:Nat}{N:List Int}{T:List Zk}{w:World}{D:DataW Unit}{s:Int}{b:Zk}(hl:N.length=T.length)(hs:s∉N)
  (hm:IsMap D) (hh:∀ x:Int,Maps.has D (.int .i64 x)=decide (x=0∨x∈N)) (ha:∀ x:Int,D.atKey (.int .i64 x) (.lit (.int .i64 0)) = .lit (.int .i64 (fnd x N T).2.1))
  (h:w.ownsMap Tryz.prog 3 (plainElem (H:=Unit) Tryz.prog 3) bm (N.length+1+1) (D.put (.int .i64 s) (.lit (.int .i64 b.2.1)))):HMap bm (N++[s]) (T++[b]) w:=by
 refine⟨_,by simpa using h,?_,fun x=>?_,fun x=>?_⟩
 ·obtain⟨es,rfl⟩:=hm;exact⟨_,rfl⟩
 ·by_cases e:x=s
  ·subst e;rw[has_put_same hm (by simp[WideAt.IsKeyLit])];simp
  ·rw[has_put_other (D8 e),hh];simp[e]
 ·by_cases e:x=s
  ·subst e;rw[atKey_put_same hm (by simp[WideAt.IsKeyLit]),Qu hl hs,Zce]
  ·rw[atKey_put_other (D8 e),ha]
   by_cases hx:x∈N
   ·rw[Nz hl hx]
   ·rw[Qu hl hx,U8 hl hx];simp[fnd,e]
section
variable {w : World} {ops : Array Oper} {rest : List Oper} {o : Oper} {a : Act} {Q : Exit → Act → World → Prop}
theorem Xj(hg:o.guard=none)(m x:Operand)(hop:o.op=Op.lookup 86 m x true)(bm:Nat)(N:List Int)(T:List Zk)(hm:a.eval m = .map (some bm))(h:HMap bm N T w)(y:Int)(hx:a.eval x = .int .i64 y)
  (hy:(Lit.int .i64 y).wf=true) (z:Int) (t:Bool) (e1:(fnd y N T).2.1=z) (e2:decide (y=0∨y∈N)=t) (hK:wpList Tryz.prog ops Q rest (a.put o.dst (.tuple #[.int .i64 z,.bool t])) w):wpList Tryz.prog ops Q (o :: rest) a w:=by
 obtain⟨D,h1,h2,h3,h4⟩:=h.map
 refine wpList_lookup_own_ok_int w hg m x 86 hop 3 3 .i64 Vd Tryz.underlying86 Tryz.underlying3 (Xf w) bm _ D hm h1 _ _ hx (keyOf_int_mk Tryz.underlying3 hy) fun c hat _=>?_
 rw[h4,e1] at hat
 have ec:z=c:=by injection hat with q;injection q
 rw[h3,e2,←ec]
 exact hK
theorem G6(hg:o.guard=none)(m x v:Operand)(hop:o.op=Op.mapUpdate 86 m x v)(bm:Nat)(N:List Int)(T:List Zk)(hm:a.eval m = .map (some bm))(h:HMap bm N T w)(hl:N.length=T.length)(hn:N.length≤100)(s:Int)(hs:s∉N)(b:Zk)
  (hx:a.eval x = .int .i64 s) (hv:a.eval v = .int .i64 b.2.1) (h1:(Lit.int .i64 s).wf=true) (h2:(Lit.int .i64 b.2.1).wf=true)
  (hK:∀ w',HMap bm (N++[s]) (T++[b]) w'→w.grownBy w' (some bm)→wpList Tryz.prog ops Q rest (a.put o.dst undef) w'):wpList Tryz.prog ops Q (o :: rest) a w:=by
 obtain⟨D,q1,q2,q3,q4⟩:=h.map
 exact wpList_mapUpdate_own w hg m x v 86 hop 3 3 Vd Tryz.underlying86 _ bm _ D hm q1 (by unfold maxLen;omega) _ _ _ hx hv (keyOf_int_mk Tryz.underlying3 h1) _ [] (plainElem_int Tryz.underlying3 h2) fun w' r1 r2=>hK w' (HMap.put hl hs q2 q3 q4 r1) r2
theorem G9(hg:o.guard=none)(m x v:Operand)(hop:o.op=Op.insert 86 m x v)(W:World)(bm:Nat)(hbm:W.heap.size=bm)(hw:w=W.alloc (.map #[] 0))(hm:a.eval m = .map (some bm))(hx:a.eval x = .int .i64 0)(hv:a.eval v = .int .i64 0)
  (hK:∀ w',HMap bm [] [] w'→Below W.heap.size W w'→wpList Tryz.prog ops Q rest (a.put o.dst undef) w'):wpList Tryz.prog ops Q (o :: rest) a w:=by
 subst hw hbm
 have h0:=World.ownsMap_made W Tryz.prog 3 (plainElem (H:=Unit) Tryz.prog 3)
 obtain⟨w',hrun,r1,r2⟩:=h0.update Vd Tryz.underlying86 (by unfold maxLen;omega) (keyOf_int_mk Tryz.underlying3 (q:=.i64) (a:=0) (by decide)) (plainElem_int Tryz.underlying3 (q:=.i64) (a:=0) (by decide))
 refine wpList_plain hg fun K' hK'=>?_
 unfold Oper.wp
 simp[execOp,hop,hm,hx,hv,hrun,Result.andThen]
 exact hK' _ _ (hK w' (HMap.start rfl r1) ((Zg W (.map #[] 0)).grown r2 (Zg W (.map #[] 0)).size (fun j hj=>by cases hj;exact Nat.le_refl _)))
end
end Go.Proofs.YtpikejjiignchaaGreatDoor.Tr
