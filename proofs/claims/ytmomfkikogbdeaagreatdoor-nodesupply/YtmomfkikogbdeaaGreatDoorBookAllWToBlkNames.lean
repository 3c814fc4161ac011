/- The contract of All. -/
import Derived.Test.YtmomfkikogbdeaaGreatDoorBookMathToBookOpen
import Derived.Test.YtmomfkikogbdeaaGreatDoorCoinInsertBToCoinPlace
import Derived.Test.YtmomfkikogbdeaaGreatDoorBlkPrintB
import Derived.Deep.AppendLies
set_option maxHeartbeats 12800000
set_option maxRecDepth 10000
namespace Go.Proofs.YtmomfkikogbdeaaGreatDoor.Bk
open Go.RowKit Go.Maps
def allR(L l:List ByteArray):List ByteArray×List Int×Int:=if bkChk L=0 then nmGo L [] l else ([],[],bkChk L)
def IntsAt(w:World)(a:Option Addr)(len:Nat)(Z:List Int):Prop:=
  Z.length=len∧(0<len→∃ b off,a=some ⟨b,off,none⟩∧∀ i (h:i<Z.length),w.cell? ⟨b,off+i,none⟩=some (.int .i64 Z[i]))
theorem IntsAt.later{w w':World}{a:Option Addr}{len:Nat}{Z:List Int}(h:IntsAt w a len Z)(hb:Below w.heap.size w w'):IntsAt w' a len Z:=by
  refine⟨h.1,fun h0=>?_⟩
  obtain⟨b,off,e,hc⟩:=h.2 h0
  exact⟨b,off,e,fun i hi=>cell_later hb (hc i hi)⟩
theorem IntsAt.nil(w:World)(a:Option Addr):IntsAt w a 0 []:=⟨rfl,fun h=>absurd h (by omega)⟩
def SlOk(a:Option Addr)(n c:Nat):Prop:=n≤c∧c≤maxLen∧(a=none→n=0∧c=0)
theorem SlOk.nil:SlOk none 0 0:=⟨Nat.le_refl _,by unfold maxLen;omega,fun _=>⟨rfl,rfl⟩⟩
theorem Wr.beside{base p bm g j:Nat}{w:World}{v u:Value}{D:DataW Unit}{L:List ByteArray}(h:Wr base p bm w v D L)(hg:∃ cs,w.heap[g]? = some (.cells cs 3 (0,0))):Wr base p bm (w.setCell ⟨g,j,none⟩ u) v D L:=by
  obtain⟨cs,hg⟩:=hg
  have far:∀ k,k≠g→(w.setCell ⟨g,j,none⟩ u).heap[k]? = w.heap[k]?:=fun k hk=>heap_setCell_other w ⟨g,j,none⟩ k u hk
  refine⟨?_,h.pge,h.mge,?_,?_,h.ism,h.names⟩
  · rw[far p (fun e=>?_)]
    · exact h.box
    · subst e
      rw[h.box] at hg
      injection hg with hg
      injection hg with _ hg
      exact absurd hg (by decide)
  · refine own_type h.own (fun k cs' _ hk=>far k (fun e=>?_))
    subst e
    rw[hk] at hg
    injection hg with hg
    injection hg with _ hg
    exact absurd hg (by decide)
  · obtain⟨es,clock,h1,r⟩:=h.map
    refine⟨es,clock,(far bm (fun e=>?_)).trans h1,r⟩
    subst e
    rw[h1] at hg
    cases hg
def Filled(base g n:Nat)(N:List Int)(w:World):Prop:=∃ xs:List Value,w.ownsRow base 3 1 (.slice (some ⟨g,0,none⟩) n n) n xs∧∀ j (h:j<N.length),xs[j]? = some (.int .i64 N[j])
theorem Filled.block{base g n:Nat}{N:List Int}{w:World}(h:Filled base g n N w):base≤g∧∃ cs,w.heap[g]? = some (.cells cs 3 (0,0)):=by
  obtain⟨xs,ho,_⟩:=h
  obtain⟨_,⟨e,_⟩|⟨g',cap,cur,e,hg,hh,_⟩⟩:=ho
  · cases e
  · cases e;exact⟨hg,cur,hh⟩
theorem Filled.far{base g n:Nat}{N:List Int}{w w':World}(h:Filled base g n N w)(hf:Far w w'):Filled base g n N w':=by
  obtain⟨xs,ho,hx⟩:=h
  exact⟨xs,own_type ho (fun k cs _ hk=>hf k cs _ hk (by decide) (by decide)),hx⟩
theorem Filled.old{base g n:Nat}{N:List Int}{w:World}(h:Filled base g n N w){k:Nat}(hk:k<n):(∃ v,w.cell? ⟨g,k,none⟩=some v)∧w.frozen? ⟨g,k,none⟩=false∧g<w.heap.size:=by
  obtain⟨xs,ho,_⟩:=h
  have hl:xs.length=n:=by simpa using ho.1
  exact⟨⟨xs[k]'(by omega),by rw[ho.cellAt k (by omega)];simp[hl,hk]⟩,ho.frozenAt k,(ho.lt g rfl).2⟩
theorem Filled.step{base g n:Nat}{N:List Int}{w:World}(h:Filled base g n N w)(hk:N.length<n)(x:Int):Filled base g n (N++[x]) (w.setCell ⟨g,N.length,none⟩ (.int .i64 x)):=by
  obtain⟨xs,ho,hx⟩:=h
  have hl:xs.length=n:=by simpa using ho.1
  refine⟨xs.set N.length (.int .i64 x),(ho.stored N.length _).1,fun j hj=>?_⟩
  by_cases e:j=N.length
  · subst e;simp[hl,hk]
  · have hj2:j<N.length:=by simp at hj;omega
    rw[List.getElem?_set_ne (by omega),hx j hj2]
    simp[hj2]
theorem Filled.ints{base g n:Nat}{N:List Int}{w:World}(h:Filled base g n N w)(hn:N.length=n):IntsAt w (some ⟨g,0,none⟩) n N:=by
  obtain⟨xs,ho,hx⟩:=h
  have hl:xs.length=n:=by simpa using ho.1
  refine⟨hn,fun _=>⟨g,0,rfl,fun i hi=>?_⟩⟩
  rw[Nat.zero_add,ho.cellAt i (by omega),hx i hi]
theorem Ye{fn:Func}{p u v:Tmp}{ty:TypeId}(h:fn.results=#[.cell p ty,.tmp u,.tmp v])(tmps:Array Value)(P:Program)(w:World) :
    (results fn tmps).run P w =
      ((asAddr (tmps.getD p undef)).run P w).andThen fun a w₁=>((loadVar ty a).run P w₁).andThen fun x w₂=>.ok (.tuple #[x,tmps.getD u undef,tmps.getD v undef]) w₂:=by
  simp only[results,h]
  simp[Sem.run_bind,Result.andThen]
theorem Dd{w:World}{base n c:Nat}{a:Option Addr}{L:List ByteArray}(h:w.ownsRow base 9 1 (.slice a n c) n (L.map Value.string)):TextsAt w a n L:=by
  obtain⟨a',c',e,_,_,_,ht⟩:=Wj h
  cases e
  exact ht
theorem Ep{l:List ByteArray}{j:Nat}(h:j<l.length)(L:List ByteArray)(N:List Int):nmGo L N (l.drop j)=if (nm L l[j]).2.2=0 then nmGo (nm L l[j]).1 (N++[(nm L l[j]).2.1]) (l.drop (j+1)) else ([],[],(nm L l[j]).2.2):=by
  rw[List.drop_eq_getElem_cons h,nmGo]
theorem Bc{l:List ByteArray}{j:Nat}(h:l.length≤j)(L:List ByteArray)(N:List Int):nmGo L N (l.drop j)=(L,N,0):=by
  rw[List.drop_of_length_le h];rfl
theorem N9(a al:Option Addr)(n c nl cl:Nat)(L:List ByteArray)(w:World)(h:TextsAt w a n L)(x:Int)(hx:bkChk L=x)(h0:x≠0) :
    Calls Tryz.prog 86 #[.agg #[.slice a n c],.slice al nl cl] w fun e w'=>e = .returned (.tuple #[.agg #[.slice none 0 0],.slice none 0 0,.int .i64 x])∧Below w.heap.size w w':=by
  have hb1:=bel_new w (.cells #[.slice a n c] 24)
  have hb2:=bel_new (w.alloc (.cells #[.slice a n c] 24)) (.cells #[.slice none 0 0] 24)
  have hb:=bel_on hb1 hb2
  have hs1:(w.alloc (.cells #[.slice a n c] 24)).heap.size=w.heap.size+1:=by simp
  have c1:=heap_alloc_new (w.alloc (.cells #[.slice a n c] 24)) (.cells #[.slice none 0 0] 24)
  rw[hs1] at c1
  have O:=hide (Nt a n c L _ (h.later hb) x hx)
  have HB:=hide hb
  have C1:=hide c1
  have g:(x != 0)=true:=by simp[h0]
  clear h hx hb hb1 hb2 c1 hs1
  go_enter Tryz.func86,Tryz.ntmps86
  go_wp2_with fail
  refine (unhide O).mono ?_
  rintro e w2 ⟨v,rfl,-,hb2⟩
  have HB2:=hide (bel_on (unhide HB) hb2)
  have c1:=(hb2.block _ (lt_of_block (unhide C1))).trans (unhide C1)
  have d0:w2.cell? ⟨w.heap.size+1,0,none⟩=some (.slice none 0 0):=by simp[World.cell?,c1]
  have df:w2.frozen? ⟨w.heap.size+1,0,none⟩=false:=by simp[World.frozen?,c1]
  have hl2:w.heap.size+1<w2.heap.size:=lt_of_block c1
  clear hb2 c1
  go_wp2
  (try simp only[Exit.inBlock,Exit.then])
  refine bodyPost_ret (v:=.tuple #[.agg #[.slice none 0 0],.slice none 0 0,.int .i64 x]) ?_ rfl ⟨rfl,?_⟩
  · rw[Ye rfl]
    go_simp
  · exact (unhide HB2).setCell (Nat.le_succ _) _
theorem Sl(a al:Option Addr)(n c nl cl:Nat)(L l M:List ByteArray)(N:List Int)(x:Int)(w:World)(h:TextsAt w a n L)(hl:TextsAt w al nl l)(hnl:nl≤17592186044416)(hR:Right L)(hx:nmGo L [] l=(M,N,x)) :
    Calls Tryz.prog 86 #[.agg #[.slice a n c],.slice al nl cl] w fun e w'=>(∃ a' n' c' a2 n2 c2,e = .returned (.tuple #[.agg #[.slice a' n' c'],.slice a2 n2 c2,.int .i64 x])∧(∀ w2,Gr w' w2 (fun k=>k<w.heap.size)→TextsAt w2 a' n' M)∧SlOk a' n' c'∧IntsAt w' a2 n2 N∧n2≤nl∧n2≤c2)∧Below w.heap.size w w':=by
  obtain⟨i0,hi,hz0,hz1,hz2⟩:=info_parts Tryz.infoInt
  have hb1:=bel_new w (.cells #[.slice a n c] 24)
  have hb2:=bel_new (w.alloc (.cells #[.slice a n c] 24)) (.cells #[.slice none 0 0] 24)
  have hb:=bel_on hb1 hb2
  have hs1:(w.alloc (.cells #[.slice a n c] 24)).heap.size=w.heap.size+1:=by simp
  have hs2:((w.alloc (.cells #[.slice a n c] 24)).alloc (.cells #[.slice none 0 0] 24)).heap.size=w.heap.size+2:=by simp
  have c1:=heap_alloc_new (w.alloc (.cells #[.slice a n c] 24)) (.cells #[.slice none 0 0] 24)
  rw[hs1] at c1
  have O:=hide (Nt a n c L _ (h.later hb) 0 ((right_iff L).2 hR))
  rw[hs2] at O
  have HB:=hide hb
  have C1:=hide c1
  have HLL:=hide hl
  have HNL:=hide hnl
  have HR:=hide hR
  have HX:=hide hx
  clear h hl hx hb hb1 hb2 c1 hs1 hs2 hR
  go_enter Tryz.func86,Tryz.ntmps86
  go_wp2_with fail
  refine (unhide O).mono ?_
  rintro e w2 ⟨v,rfl,hwr,hb2⟩
  obtain⟨p,bm,v0,D0,rfl,hw0⟩:=hwr (by trivial)
  have hw2s:w.heap.size+2≤w2.heap.size:=Nat.le_trans hw0.pge (Nat.le_of_lt (lt_of_block hw0.box))
  have c1:=(hb2.block _ (by omega)).trans (unhide C1)
  have HBW:Hid (Below w.heap.size w w2):=(unhide HB).trans (hb2.mono (by omega))
  have HW:=hide hw0
  have C2:=hide c1
  clear hw0 hwr hb2 c1
  go_wp2_with (at_make;refine wpList_make_full _ rfl _ _ 25 rfl (w.heap.size+2) 3 i0 (.int .i64 0) 1 Tryz.underlying25 hi hz0 hz1 .i64 .i64 _ _ nl rfl rfl rfl rfl (by rw[hz2];have:=unhide HNL;omega) (by have:=unhide HNL;unfold maxLen;omega) hw2s ?_;intro w3 hown3 hgrow3)
  have hb3:Below w2.heap.size w2 w3:=(Below.refl _ _).grown hgrow3 (Nat.le_refl _) (fun k h=>by cases h)
  have HW3:=hide ((unhide HW).keep hb3)
  have HF3:Hid (Filled (w.heap.size+2) w2.heap.size nl [] w3):=⟨_,hown3,fun j hj=>absurd hj (by simp)⟩
  have C3:=hide ((hb3.block _ (lt_of_block (unhide C2))).trans (unhide C2))
  have HB3:=hide (bel_on (unhide HBW) hb3)
  obtain⟨g,hg⟩:∃ g,w2.heap.size=g:=⟨_,rfl⟩
  rw[hg] at HF3 ⊢
  clear hb3 hown3 hgrow3 HW C2 HBW hg
  go_loopw [26] (fun i wr=>∃ (j:Nat) (L':List ByteArray) (N':List Int),j≤nl∧i = .int .i64 j∧Below w.heap.size w wr∧Hid (∃ v D,Wr (w.heap.size+2) p bm wr v D L')∧Hid (Filled (w.heap.size+2) g nl N' wr)∧Hid (N'.length=j∧Right L'∧nmGo L' N' (l.drop j)=(M,N,x))∧Hid (wr.heap[w.heap.size+1]? = some (.cells #[.slice none 0 0] 24 (0,0)))) (fun i _=>nl - (intOf i).toNat)
  case atStart=>exact⟨0,L,[],Nat.zero_le _,rfl,unhide HB3,⟨_,_,unhide HW3⟩,HF3,⟨rfl,unhide HR,unhide HX⟩,C3⟩
  case round=>
    obtain⟨j,L',N',hk,rfl,hbw,HWr,HF,HN,HC⟩:=hrel
    have HB4:=hide hbw
    by_cases hlt:j<nl
    · obtain⟨hz,hcs⟩:=unhide HLL
      obtain⟨b,off,rfl,hc⟩:=hcs (by omega)
      have hlj:j<l.length:=by omega
      have f:=cell_later hbw (hc j hlj)
      obtain⟨v,D,hwr⟩:=unhide HWr
      obtain⟨q1,q2,q3⟩:=unhide HN
      rw[Ep hlj] at q3
      obtain⟨s,hs⟩:∃ s,l[j]=s:=⟨_,rfl⟩
      rw[hs] at f q3
      obtain⟨r,hr⟩:∃ r,nm L' s=r:=⟨_,rfl⟩
      rw[hr] at q3
      obtain⟨M',n',e'⟩:=r
      simp only at q3
      have CN:=hide (Er (w.heap.size+2) p bm v D L' M' s n' e' wr hwr q2.1 hr)
      have NR:Hid (e'=0→Right M'):=fun h=>by
        have:=nm_right (L:=L') (s:=s) q2
        rw[hr] at this
        exact this h
      clear hwr hs hc hcs hbw hr
      by_cases he:e'=0
      · subst he
        rw[if_pos rfl] at q3
        have Q3:=hide q3
        have hq1:=hide q1
        clear q3 q2 q1
        go_wp2_with fail
        refine (unhide CN).mono ?_
        rintro y w5 ⟨rfl,hw5,hb5,hf5⟩
        have F5:=(unhide HF).far hf5
        obtain⟨⟨u,hu⟩,hfz,hgl⟩:=F5.old hlt
        have HF5:=hide F5
        have hq:N'.length=j:=unhide hq1
        have ST:=hide (F5.step (by omega) n')
        rw[hq] at ST
        have HB5:=hide ((unhide HB4).trans (hb5.mono (by omega)))
        have W5:Hid (∃ v D,Wr (w.heap.size+2) p bm (w5.setCell ⟨g,j,none⟩ (.int .i64 n')) v D M'):=by
          obtain⟨v',D',h'⟩:=(by first|exact hw5|exact hw5 rfl|exact hw5 (by trivial):∃ v' D',Wr (w.heap.size+2) p bm w5 v' D' M')
          exact⟨v',D',h'.beside F5.block.2⟩
        have C5:Hid ((w5.setCell ⟨g,j,none⟩ (.int .i64 n')).heap[w.heap.size+1]? = some (.cells #[.slice none 0 0] 24 (0,0))):=by
          show _=_
          rw[heap_setCell_other _ _ _ _ (by show w.heap.size+1≠g;have:=F5.block.1;omega),hb5.block _ (by omega)]
          exact unhide HC
        have HB6:=hide ((unhide HB5).setCell (p:=⟨g,j,none⟩) (by show w.heap.size≤g;have:=F5.block.1;omega) (.int .i64 n'))
        clear hw5 hb5 hf5 F5
        go_wp2
        go_roundw
        case rel=>exact⟨j+1,M',N'++[n'],by omega,by go_num,unhide HB6,W5,ST,⟨by simp;exact unhide hq1,(unhide NR) (by trivial),unhide Q3⟩,C5⟩
        case measure=>simp[intOf];omega
      · rw[if_neg he] at q3
        have e1:M=[]:=by injection q3 with q3 _;exact q3.symm
        have e2:N=[]:=by injection q3 with _ q3;injection q3 with q3 _;exact q3.symm
        have e3:x=e':=by injection q3 with _ q3;injection q3 with _ q3;exact q3.symm
        subst e1 e2 e3
        have g5:(x != 0)=true:=by simp[he]
        clear q3 q2 q1
        go_wp2_with fail
        refine (unhide CN).mono ?_
        rintro y w5 ⟨rfl,-,hb5,hf5⟩
        have F5:=(unhide HF).far hf5
        obtain⟨⟨u,hu⟩,hfz,hgl⟩:=F5.old hlt
        have hgb:w.heap.size+2≤g:=F5.block.1
        have c5:(w5.setCell ⟨g,j,none⟩ (.int .i64 n')).heap[w.heap.size+1]? = some (.cells #[.slice none 0 0] 24 (0,0)):=by
          rw[heap_setCell_other _ _ _ _ (by show w.heap.size+1≠g;omega),hb5.block _ (by omega)]
          exact unhide HC
        obtain⟨Z,hZ⟩:∃ Z,Z=w5.setCell ⟨g,j,none⟩ (.int .i64 n'):=⟨_,rfl⟩
        have HB6:=hide (((unhide HB4).trans (hb5.mono (by omega))).setCell (p:=⟨g,j,none⟩) (by show w.heap.size≤g;omega) (.int .i64 n'))
        rw[←hZ] at c5 HB6
        have d0:Z.cell? ⟨w.heap.size+1,0,none⟩=some (.slice none 0 0):=by simp[World.cell?,c5]
        have df:Z.frozen? ⟨w.heap.size+1,0,none⟩=false:=by simp[World.frozen?,c5]
        clear hb5 hf5 F5 c5
        rw[hZ] at d0 df HB6
        clear hZ
        go_wp2
        (try simp only[Exit.inBlock,Exit.then])
        refine bodyPost_ret (v:=.tuple #[.agg #[.slice none 0 0],.slice none 0 0,.int .i64 x]) ?_ rfl ⟨⟨_,_,_,_,_,_,rfl,fun _ _=>TextsAt.nil _ _,SlOk.nil,IntsAt.nil _ _,Nat.zero_le _,Nat.le_refl _⟩,?_⟩
        · rw[Ye rfl]
          go_simp
        · exact (unhide HB6).setCell (Nat.le_succ _) _
    · have e:j=nl:=by omega
      subst e
      obtain⟨q1,q2,q3⟩:=unhide HN
      rw[Bc (by rw[(unhide HLL).1];exact Nat.le_refl _)] at q3
      have e1:M=L':=by injection q3 with q3 _;exact q3.symm
      have e2:N=N':=by injection q3 with _ q3;injection q3 with q3 _;exact q3.symm
      have e3:x=0:=by injection q3 with _ q3;injection q3 with _ q3;exact q3.symm
      subst e1 e2 e3
      obtain⟨v,D,hwr⟩:=unhide HWr
      obtain⟨d1,d2,-⟩:=hwr.cell0
      have ho:=hwr.own
      obtain⟨a',c',rfl,s1,s2,s3,s4⟩:=Wj hwr.own
      have HOK:Hid (SlOk a' M.length c'):=⟨s1,s2,s3⟩
      have HT:Hid (∀ u w2,Gr (wr.setCell ⟨w.heap.size+1,0,none⟩ u) w2 (fun k=>k<w.heap.size)→TextsAt w2 a' M.length M):=fun u w2 g2=>Dd (own_type ho (fun k cs hge hk=>(g2.block k (by simpa[World.setCell] using lt_of_block hk) (by omega)).trans (heap_setCell_other _ _ _ _ (by show k≠w.heap.size+1;omega))))
      have HI:Hid (∀ u,IntsAt (wr.setCell ⟨w.heap.size+1,0,none⟩ u) (some ⟨g,0,none⟩) j N):=fun u=>by
        obtain⟨xs,hxs,hx2⟩:=unhide HF
        exact Filled.ints ⟨xs,own_type hxs (fun k cs hge _=>heap_setCell_other _ _ _ _ (by show k≠w.heap.size+1;omega)),hx2⟩ q1
      have c5:=unhide HC
      have d0:wr.cell? ⟨w.heap.size+1,0,none⟩=some (.slice none 0 0):=by simp[World.cell?,c5]
      have df:wr.frozen? ⟨w.heap.size+1,0,none⟩=false:=by simp[World.frozen?,c5]
      have hpne:w.heap.size+1≠p:=by have:=hwr.pge;omega
      clear q1 q2 q3 hwr ho s1 s2 s3 s4 c5 hbw
      go_wp2
      (try simp only[Exit.inBlock,Exit.then])
      refine bodyPost_ret (v:=.tuple #[.agg #[.slice a' M.length c'],.slice (some ⟨g,0,none⟩) j j,.int .i64 0]) ?_ rfl ⟨⟨_,_,_,_,_,_,rfl,(unhide HT) _,unhide HOK,(unhide HI) _,Nat.le_refl _,Nat.le_refl _⟩,?_⟩
      · rw[Ye rfl]
        go_simp
      · exact (unhide HB4).setCell (Nat.le_succ _) _
theorem F6(a al:Option Addr)(n c nl cl:Nat)(L l M:List ByteArray)(N:List Int)(x:Int)(w:World)(h:TextsAt w a n L)(hl:TextsAt w al nl l)(hnl:nl≤17592186044416)(hR:Right L)(hx:nmGo L [] l=(M,N,x)) :
    Calls Tryz.prog 86 #[.agg #[.slice a n c],.slice al nl cl] w fun e w'=>(∃ a' n' c' a2 n2 c2,e = .returned (.tuple #[.agg #[.slice a' n' c'],.slice a2 n2 c2,.int .i64 x])∧TextsAt w' a' n' M∧SlOk a' n' c'∧IntsAt w' a2 n2 N∧n2≤nl∧n2≤c2)∧Below w.heap.size w w':=by
  refine (Sl a al n c nl cl L l M N x w h hl hnl hR hx).mono ?_
  rintro e w' ⟨⟨a',n',c',a2,n2,c2,h1,h2,h3⟩,hb⟩
  exact⟨⟨a',n',c',a2,n2,c2,h1,h2 _ (Gr.refl _ _),h3⟩,hb⟩
open Go.RowKit Go.Maps
def nameR(L:List ByteArray)(s:ByteArray):List ByteArray×Int×Int:=if bkChk L=0 then nm L s else ([],0,bkChk L)
theorem A8(w:World)(s:ByteArray):TextsAt (w.alloc (.cells #[.string s] 9)) (some ⟨w.heap.size,0,none⟩) 1 [s]:=
  ⟨rfl,fun _=>⟨w.heap.size,0,rfl,fun i hi=>by
    have e:i=0:=by simp at hi;omega
    subst e
    exact one_new w (.string s) 9⟩⟩
theorem all_is(a al:Option Addr)(n c nl cl:Nat)(L l M:List ByteArray)(N:List Int)(x:Int)(w:World)(h:TextsAt w a n L)(hl:TextsAt w al nl l)(hnl:nl≤17592186044416)(hx:allR L l=(M,N,x)) :
    Calls Tryz.prog 86 #[.agg #[.slice a n c],.slice al nl cl] w fun e w'=>(∃ a' n' c' a2 n2 c2,e = .returned (.tuple #[.agg #[.slice a' n' c'],.slice a2 n2 c2,.int .i64 x])∧TextsAt w' a' n' M∧SlOk a' n' c'∧IntsAt w' a2 n2 N∧n2≤nl∧n2≤c2)∧Below w.heap.size w w':=by
  unfold allR at hx
  by_cases h0:bkChk L=0
  · rw[if_pos h0] at hx
    exact F6 a al n c nl cl L l M N x w h hl hnl ((right_iff L).1 h0) hx
  · rw[if_neg h0] at hx
    have e1:M=[]:=by injection hx with hx _;exact hx.symm
    have e2:N=[]:=by injection hx with _ hx;injection hx with hx _;exact hx.symm
    have e3:bkChk L=x:=by injection hx with _ hx;injection hx with _ hx
    subst e1 e2
    refine (N9 a al n c nl cl L w h x e3 (by rw[←e3];exact h0)).mono ?_
    rintro e w' ⟨rfl,hb⟩
    exact⟨⟨_,_,_,_,_,_,rfl,TextsAt.nil _ _,SlOk.nil,IntsAt.nil _ _,Nat.zero_le _,Nat.le_refl _⟩,hb⟩
theorem Zas(L:List ByteArray)(s:ByteArray):allR L [s]=((nameR L s).1,(if (nameR L s).2.2=0 then [(nameR L s).2.1] else []),(nameR L s).2.2):=by
  unfold allR nameR
  by_cases h0:bkChk L=0
  · rw[if_pos h0,if_pos h0]
    simp only[nmGo,List.nil_append]
    by_cases h1:(nm L s).2.2=0
    · rw[if_pos h1,if_pos h1];rw[h1]
    · rw[if_neg h1,if_neg h1]
      have:(nm L s).1=[]:=by
        unfold nm at *
        by_cases h2:4000<s.size
        · rw[if_pos h2]
        · rw[if_neg h2] at *
          by_cases h3:place s L≠0
          · rw[if_pos h3] at h1;exact absurd rfl h1
          · rw[if_neg h3] at *
            by_cases h4:120≤L.length
            · rw[if_pos h4]
            · rw[if_neg h4] at h1;exact absurd rfl h1
      rw[this]
  · rw[if_neg h0,if_neg h0]
    simp[h0]
theorem Bf{L:List ByteArray}{s:ByteArray}(h:(nameR L s).2.2≠0):(nameR L s).1=[]∧(nameR L s).2.1=0:=by
  unfold nameR at *
  by_cases h0:bkChk L=0
  · rw[if_pos h0] at *
    unfold nm at *
    by_cases h2:4000<s.size
    · rw[if_pos h2];exact⟨rfl,rfl⟩
    · rw[if_neg h2] at *
      by_cases h3:place s L≠0
      · rw[if_pos h3] at h;exact absurd rfl h
      · rw[if_neg h3] at *
        by_cases h4:120≤L.length
        · rw[if_pos h4];exact⟨rfl,rfl⟩
        · rw[if_neg h4] at h;exact absurd rfl h
  · rw[if_neg h0];exact⟨rfl,rfl⟩
end Go.Proofs.YtmomfkikogbdeaaGreatDoor.Bk
namespace Go.Proofs.YtmomfkikogbdeaaGreatDoor
open Go.RowKit
def Yw(b:Zg):List ByteArray:=b.2.2.2.2.map Ya++[Vc b]
def Xk(L:List ByteArray)(b:Zg):List ByteArray×Int×List Int×Int:=
  if Yg b≠0 then ([],0,[],Yg b)
  else if (Bk.allR L (Yw b)).2.2≠0 then ([],0,[],(Bk.allR L (Yw b)).2.2)
  else ((Bk.allR L (Yw b)).1,(Bk.allR L (Yw b)).2.1.getD b.2.2.2.2.length 0,(Bk.allR L (Yw b)).2.1.take b.2.2.2.2.length,0)
def NmR(w w':World)(M:List ByteArray)(nm:Int)(N:List Int)(x:Int)(e:Ending):Prop:=
  ∃ a' n' c' a2 n2 c2,e = .returned (.tuple #[.agg #[.slice a' n' c'],.int .i64 nm,.slice a2 n2 c2,.int .i64 x])∧Bk.TextsAt w' a' n' M∧Bk.SlOk a' n' c'∧Bk.IntsAt w' a2 n2 N∧n2≤c2∧Below w.heap.size w w'
theorem NmR.drew{w w':World}{M:List ByteArray}{nm:Int}{N:List Int}{x:Int}{e:Ending}(h:NmR w w' M nm N x e):NmR w w'.drew M nm N x e:=by
  obtain⟨a,n,c,a2,n2,c2,h1,h2,h3,h4,h5,h6⟩:=h
  exact⟨a,n,c,a2,n2,c2,h1,h2,h3,h4,h5,bel_on h6 (Ze _)⟩
theorem Yz{fn:Func}{p u v z:Tmp}{ty:TypeId}(h:fn.results=#[.cell p ty,.tmp u,.tmp v,.tmp z])(tmps:Array Value)(P:Program)(w:World) :
    (results fn tmps).run P w =
      ((asAddr (tmps.getD p undef)).run P w).andThen fun a w₁=>((loadVar ty a).run P w₁).andThen fun x w₂=>.ok (.tuple #[x,tmps.getD u undef,tmps.getD v undef,tmps.getD z undef]) w₂:=by
  simp only[results,h]
  simp[Sem.run_bind,Result.andThen]
theorem Z8(w:World)(a:Value)(t:TypeId):(w.alloc (.cells #[a] t)).heap[w.heap.size]? = some (.cells [a].toArray t (0,0)):=heap_alloc_new w _
theorem Rm{w:World}{base g cap m:Nat}{xs:List Value}{T:List TxD}{t:ByteArray}(ho:w.ownsRow base 9 1 (.slice (some ⟨g,0,none⟩) (m+1) cap) (m+1) (xs++[.string t]))(hz:T.length=m)(hl:xs.length=m)(hx:∀ j,j<m→xs[j]? = some (txV T j)):Bk.TextsAt w (some ⟨g,0,none⟩) (m+1) (T.map Ya++[t]):=by
  refine⟨by simp[hz],fun _=>⟨g,0,rfl,fun i hi=>?_⟩⟩
  have hi':i<m+1:=by simpa[hz] using hi
  rw[Nat.zero_add,ho.cellAt i (by omega)]
  by_cases h:i<m
  · rw[List.getElem?_append_left (by omega),hx i h]
    rw[List.getElem_append_left (by simp;omega)]
    simp[txV,(by omega:i<T.length)]
  · have e:i=m:=by omega
    subst e
    rw[List.getElem?_append_right (by omega),List.getElem_append_right (by simp;omega)]
    simp[hl,hz]
theorem Fb(ka:Option Addr)(kn kc:Nat)(p h k n:Int)(a:Option Addr)(m c:Nat)(T:List TxD)(x:Int)(w:World)(hT:TxsAt w a m T)(hx:Yg (p,h,k,n,T)=x)(h0:x≠0) :
    Calls Tryz.prog 27 #[.agg #[.slice ka kn kc],.agg #[.int .i64 p,.int .i64 h,.int .i64 k,.int .i64 n,.slice a m c]] w fun e w'=>NmR w w' [] 0 [] x e:=by
  obtain⟨X,hX⟩:∃ X,X=((w.alloc (.cells #[.slice ka kn kc] 24)).alloc (.cells #[.int .i64 p,.int .i64 h,.int .i64 k,.int .i64 n,.slice a m c] 39)).alloc (.cells #[.slice none 0 0] 24):=⟨_,rfl⟩
  have hbX:Below w.heap.size w X:=by rw[hX];exact bel_on (bel_on (bel_new _ _) (bel_new _ _)) (bel_new _ _)
  have hX3:X.heap[w.heap.size+2]? = some (.cells [.slice none 0 0].toArray 24 (0,0)):=by
    rw[hX]
    have:=Z8 ((w.alloc (.cells #[.slice ka kn kc] 24)).alloc (.cells #[.int .i64 p,.int .i64 h,.int .i64 k,.int .i64 n,.slice a m c] 39)) (.slice none 0 0) 24
    rw[show ((w.alloc (.cells #[.slice ka kn kc] 24)).alloc (.cells #[.int .i64 p,.int .i64 h,.int .i64 k,.int .i64 n,.slice a m c] 39)).heap.size=w.heap.size+2 by simp] at this
    exact this
  have C1:=hide (Vv p h k n a m c T x X (hT.later hbX) hx h0)
  have HX3:=hide hX3
  have HBX:=hide hbX
  have gx:(x != 0)=true:=by simp[h0]
  clear hT hx h0 hX3 hbX
  go_enter Tryz.func27,Tryz.ntmps27
  go_wp2_with fail
  rw[←hX]
  clear hX
  refine (unhide C1).mono ?_
  rintro e w1 ⟨rfl,hb1⟩
  have h3:=(hb1.block _ (lt_of_block (unhide HX3))).trans (unhide HX3)
  have z0:=Za h3 0 _ rfl
  have zf:=Zb h3 0
  have zl:=lt_of_block h3
  have HB1:=hide (bel_on (unhide HBX) hb1)
  clear hb1 h3
  go_wp2
  (try simp only[Exit.inBlock,Exit.then])
  refine bodyPost_ret (v:=.tuple #[.agg #[.slice none 0 0],.int .i64 0,.slice none 0 0,.int .i64 x]) ?_ rfl ⟨_,_,_,_,_,_,rfl,Bk.TextsAt.nil _ _,Bk.SlOk.nil,Bk.IntsAt.nil _ _,Nat.le_refl _,?_⟩
  · rw[Yz rfl]
    go_simp
  · exact (unhide HB1).setCell (p:=⟨w.heap.size+2,0,none⟩) (by simp) _
def OutOk(ty:TypeId)(o:Nat)(W:World):Prop:=∃ a n c,W.heap[o]? = some (.cells #[.slice a n c] ty (0,0))
theorem OutOk.later{ty:TypeId}{o:Nat}{W V:World}(h:OutOk ty o W)(hb:Below W.heap.size W V):OutOk ty o V:=by
  obtain⟨a,n,c,h⟩:=h
  exact⟨a,n,c,(hb.block _ (lt_of_block h)).trans h⟩
theorem OutOk.grown{ty:TypeId}{o B:Nat}{W V:World}(h:OutOk ty o W)(hg:W.grownBy V (some B))(hn:o≠B):OutOk ty o V:=by
  obtain⟨a,n,c,h⟩:=h
  exact⟨a,n,c,(hg.block _ (lt_of_block h) (fun e=>hn (Option.some.inj e))).trans h⟩
theorem OutOk.put{ty:TypeId}{o:Nat}{W:World}(h:OutOk ty o W)(b:Nat)(e:b=o)(a':Option Addr)(n' c':Nat):OutOk ty o (W.setCell ⟨b,0,none⟩ (.slice a' n' c')):=by
  subst e
  obtain⟨a,n,c,h⟩:=h
  exact⟨a',n',c',Wa h⟩
theorem OutOk.cell{ty:TypeId}{o:Nat}{W:World}(h:OutOk ty o W):∃ z,W.cell? ⟨o,0,none⟩=some z:=by
  obtain⟨a,n,c,h⟩:=h
  exact⟨.slice a n c,by simp[World.cell?,h]⟩
theorem OutOk.free{ty:TypeId}{o:Nat}{W:World}(h:OutOk ty o W):W.frozen? ⟨o,0,none⟩=false:=by
  obtain⟨a,n,c,h⟩:=h
  simp[World.frozen?,h]
theorem OutOk.other{ty:TypeId}{o b j:Nat}{W:World}{v u:Value}(h:OutOk ty o W)(hc:W.cell? ⟨b,j,none⟩=some v)(hv:∀ a n c,v ≠ .slice a n c):(W.setCell ⟨o,0,none⟩ u).cell? ⟨b,j,none⟩=some v:=by
  have hne:b≠o:=fun e=>by
    subst e
    obtain⟨a,n,c,h⟩:=h
    cases j with
    | zero=>simp[World.cell?,h] at hc;exact hv a n c hc.symm
    | succ i=>simp[World.cell?,h] at hc
  rw[←hc]
  exact World.cell?_of_block (a:=⟨b,j,none⟩) (Below.heap_setCell W ⟨o,0,none⟩ u b (fun e=>hne e))
theorem Pg{ty:TypeId}{o:Nat}{W:World}{a:Option Addr}{n:Nat}{M:List ByteArray}{u:Value}(h:Bk.TextsAt W a n M)(ho:OutOk ty o W):Bk.TextsAt (W.setCell ⟨o,0,none⟩ u) a n M:=by
  refine⟨h.1,fun h0=>?_⟩
  obtain⟨b,off,e,hc⟩:=h.2 h0
  exact⟨b,off,e,fun i hi=>ho.other (hc i hi) (fun _ _ _ q=>by cases q)⟩
theorem Qz{ty:TypeId}{o:Nat}{W:World}{a:Option Addr}{n:Nat}{N:List Int}{u:Value}(h:Bk.IntsAt W a n N)(ho:OutOk ty o W):Bk.IntsAt (W.setCell ⟨o,0,none⟩ u) a n N:=by
  refine⟨h.1,fun h0=>?_⟩
  obtain⟨b,off,e,hc⟩:=h.2 h0
  exact⟨b,off,e,fun i hi=>ho.other (hc i hi) (fun _ _ _ q=>by cases q)⟩
def NmS(ty:TypeId)(w1:World)(B:Nat)(v u:Value)(W:World):Prop:=Gr w1 W (fun q=>q=B+2)∧W.cell? ⟨B,0,none⟩=some v∧W.cell? ⟨B+1,4,none⟩=some u∧OutOk ty (B+2) W
theorem Gr.grow2{w1 W V:World}{S:Nat→Prop}{B:Nat}(h:Gr w1 W S)(hg:W.grownBy V (some B))(hB:w1.heap.size≤B):Gr w1 V S:=h.grown hg (fun k e=>.inr (by injection e with e;omega))
theorem Tk(ka:Option Addr)(kn kc:Nat)(L:List ByteArray)(p h k n:Int)(a:Option Addr)(m c:Nat)(T:List TxD)(M:List ByteArray)(N:List Int)(x:Int)(w:World)(hE:Env w)(hL:Bk.TextsAt w ka kn L)(hT:TxsAt w a m T)(hx:Yg (p,h,k,n,T)=0)(hA:Bk.allR L (Yw (p,h,k,n,T))=(M,N,x))(hN:x=0→N.length=m+1)(M':List ByteArray)(nm:Int)(N':List Int)(hR:(if x=0 then (M,N.getD m 0,N.take m) else (([]:List ByteArray),(0:Int),([]:List Int)))=(M',nm,N')) :
    Calls Tryz.prog 27 #[.agg #[.slice ka kn kc],.agg #[.int .i64 p,.int .i64 h,.int .i64 k,.int .i64 n,.slice a m c]] w fun e w'=>NmR w w' M' nm N' x e:=by
  obtain⟨i0,ii,iz0,iz1,iz2⟩:=info_parts Tryz.info9
  obtain⟨f1,f2,f3,_,f5⟩:=Vn hx
  have hz:T.length=m:=hT.1
  obtain⟨X,hX⟩:∃ X,X=((w.alloc (.cells #[.slice ka kn kc] 24)).alloc (.cells #[.int .i64 p,.int .i64 h,.int .i64 k,.int .i64 n,.slice a m c] 39)).alloc (.cells #[.slice none 0 0] 24):=⟨_,rfl⟩
  have hbX:Below w.heap.size w X:=by rw[hX];exact bel_on (bel_on (bel_new _ _) (bel_new _ _)) (bel_new _ _)
  have hX1:X.heap[w.heap.size]? = some (.cells [.slice ka kn kc].toArray 24 (0,0)):=by
    rw[hX,Below.heap_alloc _ _ _ (by simp;omega),Below.heap_alloc _ _ _ (by simp)];exact Z8 _ _ _
  have hX2:X.heap[w.heap.size+1]? = some (.cells [.int .i64 p,.int .i64 h,.int .i64 k,.int .i64 n,.slice a m c].toArray 39 (0,0)):=by
    rw[hX,Below.heap_alloc _ _ _ (by simp)]
    have:=Zl (w.alloc (.cells #[.slice ka kn kc] 24)) (.int .i64 p) (.int .i64 h) (.int .i64 k) (.int .i64 n) (.slice a m c) 39
    rw[show (w.alloc (.cells #[.slice ka kn kc] 24)).heap.size=w.heap.size+1 by simp] at this
    exact this
  have hX3:X.heap[w.heap.size+2]? = some (.cells [.slice none 0 0].toArray 24 (0,0)):=by
    rw[hX]
    have:=Z8 ((w.alloc (.cells #[.slice ka kn kc] 24)).alloc (.cells #[.int .i64 p,.int .i64 h,.int .i64 k,.int .i64 n,.slice a m c] 39)) (.slice none 0 0) 24
    rw[show ((w.alloc (.cells #[.slice ka kn kc] 24)).alloc (.cells #[.int .i64 p,.int .i64 h,.int .i64 k,.int .i64 n,.slice a m c] 39)).heap.size=w.heap.size+2 by simp] at this
    exact this
  have C1:=hide (Vf p h k n a m c T X (hE.later hbX) (hT.later hbX) hx)
  have HX1:=hide hX1
  have HX2:=hide hX2
  have HX3:=hide hX3
  have HBX:=hide hbX
  have HE:=hide hE
  obtain⟨b,off,rfl,_,hcell⟩:=hT.2 (by omega)
  have PT:=hide (fun W (hb:Below w.heap.size w W)=>(show Calls Tryz.prog 87 #[.slice (some ⟨b,off,none⟩) m c] W fun e w'=>∃ (B:Nat) (xs:List Value),e = .returned (.slice (some ⟨B,0,none⟩) m m)∧w'.ownsRow B 9 1 (.slice (some ⟨B,0,none⟩) m m) m xs∧xs.length=m∧(∀ j,j<m→xs[j]? = some (txV T j))∧B<w'.heap.size∧W.heap.size≤B∧Below W.heap.size W w' from
    (V9 b off m c T W ((unhide HE).later hb) hz (by omega) f5 (fun i hi=>TxAt.kept _ _ _ _ _ hb (hcell i hi))).mono fun e w' ⟨h1,h2⟩=>by
      obtain⟨xs,ho,hx⟩:=h2.ex
      exact⟨W.heap.size,xs,h1,ho,by simpa using ho.1,hx,h2.lt,Nat.le_refl _,h2.bel⟩))
  have hm4:m≤4:=by omega
  have HZ:=hide hz
  obtain⟨t,ht⟩:∃ t,Vc (p,h,k,n,T)=t:=⟨_,rfl⟩
  have hA':Bk.allR L (T.map Ya++[t])=(M,N,x):=by rw[←ht];exact hA
  rw[ht] at C1
  have AL:=hide (fun W al cl (hb:Below w.heap.size w W) (hl:Bk.TextsAt W al (m+1) (T.map Ya++[t]))=>Bk.all_is ka al kn kc (m+1) cl L (T.map Ya++[t]) M N x W (hL.later hb) hl (by omega) hA')
  have HN:=hide hN
  have HR:=hide hR
  clear hE hL hT hx hA hN hR hX1 hX2 hX3 hbX hcell f1 f2 f3 f5 hz hA' ht
  go_enter Tryz.func27,Tryz.ntmps27
  go_wp2_with fail
  rw[←hX]
  clear hX
  refine (unhide C1).mono ?_
  rintro e w1 ⟨rfl,hb1⟩
  have h1:=(hb1.block _ (lt_of_block (unhide HX1))).trans (unhide HX1)
  have h2:=(hb1.block _ (lt_of_block (unhide HX2))).trans (unhide HX2)
  have h3:=(hb1.block _ (lt_of_block (unhide HX3))).trans (unhide HX3)
  have k0:=Za h1 0 _ rfl
  have b4:=Za h2 4 _ rfl
  have z0:=Za h3 0 _ rfl
  have zf:=Zb h3 0
  have l1:=lt_of_block h1
  have l2:=lt_of_block h2
  have l3:=lt_of_block h3
  have HB1:=hide hb1
  have l12:X.heap.size≤w1.heap.size:=hb1.size
  have hw3:w.heap.size+3≤X.heap.size:=by have:=lt_of_block (unhide HX3);omega
  have GB:Hid (∀ W,Gr w1 W (fun q=>q=w.heap.size+2)→Below w.heap.size w W):=fun W g=>g.below (bel_on (unhide HBX) hb1) (by omega) (fun k e=>by rw[e];omega)
  have KS:Hid (∀ W,Gr w1 W (fun q=>q=w.heap.size+2)→OutOk 24 (w.heap.size+2) W→NmS 24 w1 (w.heap.size) (.slice ka kn kc) (.slice (some ⟨b,off,none⟩) m c) W):=
    fun W g o=>⟨g,Za (g.heap h1 (by omega)) 0 _ rfl,Za (g.heap h2 (by omega)) 4 _ rfl,o⟩
  have O1:Hid (OutOk 24 (w.heap.size+2) w1):=⟨_,_,_,h3⟩
  have PT1:=hide (fun W (g:Gr w1 W (fun q=>q=w.heap.size+2))=>(show Calls Tryz.prog 87 #[.slice (some ⟨b,off,none⟩) m c] W fun e w'=>∃ (B:Nat) (xs:List Value),e = .returned (.slice (some ⟨B,0,none⟩) m m)∧w'.ownsRow B 9 1 (.slice (some ⟨B,0,none⟩) m m) m xs∧xs.length=m∧(∀ j,j<m→xs[j]? = some (txV T j))∧B<w'.heap.size∧w1.heap.size≤B∧Below W.heap.size W w' from
    ((unhide PT) W ((unhide GB) W g)).mono fun e w' ⟨B,xs,q1,q2,q3,q4,q5,q6,q7⟩=>⟨B,xs,q1,q2,q3,q4,q5,Nat.le_trans g.size q6,q7⟩))
  have AL1:=hide (fun W al cl (g:Gr w1 W (fun q=>q=w.heap.size+2)) hl=>(unhide AL) W al cl ((unhide GB) W g) hl)
  have l0:w.heap.size+2<w1.heap.size:=l3
  clear hb1 h1 h2 h3 C1 PT AL z0 zf
  go_wp2_with fail
  go_region_held3 (fun W=>Gr w1 W (fun q=>q=w.heap.size+2)∧W.cell? ⟨w.heap.size,0,none⟩=some (.slice ka kn kc)∧W.cell? ⟨w.heap.size+1,4,none⟩=some (.slice (some ⟨b,off,none⟩) m c)∧OutOk 24 (w.heap.size+2) W)
    (first
    | exact (unhide KS) _ (Gr.refl _ _).draw (unhide O1)
    | (go_split_ands;exact (unhide KS) _ (Gr.new (by assumption) _) (OutOk.later (by assumption) (bel_new _ _)))
    | (go_split_ands;exact (unhide KS) _ (Gr.on (by assumption) hbc) (OutOk.later (by assumption) hbc))
    | (go_split_ands;exact (unhide KS) _ (Gr.grow2 (by assumption) hg5 hB1) (OutOk.grown (by assumption) hg5 hne5))
    | exact (unhide KS) _ ((unhide HG6).one (w.heap.size+1+1) 0 (.inl rfl) _) (OutOk.put (unhide HO6) (w.heap.size+1+1) rfl _ _ _))
    (first
    | (refine step_append_lies _ (by rfl) _ _ _ (by rfl) B4 9 i0 _ 1 16 Tryz.underlying22 ii iz0 iz1 iz2 rfl (by omega) (.slice (some ⟨B4,0,none⟩) m m) m xs4 (by rfl) (ho4.alloc _) ⟨w4.heap.size,0,none⟩ 1 1 [.string t] (by rfl) (by rfl) (World.news_of_block (cs:=#[.string t]) (t:=9) (fr:=(0,0)) (heap_alloc_new w4 _)) (by simp[Value.oneCell']) (by omega) (by unfold maxLen;omega) (by omega) (by simp;omega) (w4.heap.size+1) (by simp) ?_;intro gg cap w5 hown5 hgrow5 hat5 hlt5;have TX:=hide (Rm hown5 (unhide HZ) hl4 hx4);have hg5:=hgrow5;change World.grownBy _ _ (some B4) at hg5;(have hne5:w.heap.size+2≠B4:=by omega);clear hown5 hat5 hgrow5)
    | (refine step_append_lies _ (by rfl) _ _ _ (by rfl) B4 9 i0 _ 1 16 Tryz.underlying22 ii iz0 iz1 iz2 rfl (by omega) (.slice (some ⟨B4,0,none⟩) m m) m xs4 (by rfl) ho4 ⟨w1.heap.size,0,none⟩ 1 1 [.string t] (by rfl) (by rfl) (World.news_of_block (cs:=#[.string t]) (t:=9) (fr:=(0,0)) hnb4) (by simp[Value.oneCell']) (by omega) (by unfold maxLen;omega) (by omega) (by omega) w4.heap.size (by rfl) ?_;intro gg cap w5 hown5 hgrow5 hat5 hlt5;have TX:=hide (Rm hown5 (unhide HZ) hl4 hx4);have hg5:=hgrow5;change World.grownBy _ _ (some B4) at hg5;(have hne5:w.heap.size+2≠B4:=by omega);clear hown5 hat5 hgrow5)
    | (go_at_call 87
       refine ((unhide PT1) _ ?_).mono ?_
       · go_split_ands
         assumption
       rintro e w4 ⟨B4,xs4,rfl,ho4,hl4,hx4,hB4,hB1,hbc⟩
       try have hnb4:=(hbc.block w1.heap.size (by simp)).trans (heap_alloc_new w1 (.cells #[.string t] 9)))
    | (go_at_call 86
       refine ((unhide AL1) _ _ _ ?_ (unhide TX)).mono ?_
       · go_split_ands
         assumption
       rintro e w6 ⟨⟨a6,n6,c6,a7,n7,c7,rfl,hT6,sT6,hI6,hn6,hc6⟩,hbc⟩
       have HT6:=hide hT6
       have HS6:=hide sT6
       have HI6:=hide hI6
       have HC6:=hide hc6
       have HO6:=hide (OutOk.later (by go_split_ands;assumption) hbc)
       have HG6:=hide (Gr.on (by go_split_ands;assumption) hbc)
       obtain⟨zz,z6⟩:=(unhide HO6).cell
       have zf6:=(unhide HO6).free
       clear hT6 sT6 hI6 hc6 hg5 hn6))
  all_goals
    rename_i hH
    obtain⟨hGQ,-,hQ4,hQo⟩:=hH
    have hT7:Bk.TextsAt (w6.setCell ⟨w.heap.size+1+1,0,none⟩ (.slice a6 n6 c6)) a6 n6 M:=Pg (unhide HT6) (unhide HO6)
    have hI7:Bk.IntsAt (w6.setCell ⟨w.heap.size+1+1,0,none⟩ (.slice a6 n6 c6)) a7 n7 N:=Qz (unhide HI6) (unhide HO6)
    have hz7:(w6.setCell ⟨w.heap.size+1+1,0,none⟩ (.slice a6 n6 c6)).cell? ⟨w.heap.size+2,0,none⟩=some (.slice a6 n6 c6):=by
      obtain⟨q1,q2,q3,q⟩:=unhide HO6
      have:=Wa (u:=.slice a6 n6 c6) q
      simp[World.cell?,this]
    have hf7:=hQo.free
    obtain⟨Q,hQ⟩:∃ Q,Q=w6.setCell ⟨w.heap.size+1+1,0,none⟩ (.slice a6 n6 c6):=⟨_,rfl⟩
    rw[←hQ] at hGQ hQ4 hQo hT7 hI7 hz7 hf7 ⊢
    have hlQ:w.heap.size+2<Q.heap.size:=Nat.lt_of_lt_of_le l0 hGQ.size
    have HGQ:=hide hGQ
    have HQO:=hide hQo
    have HT7:=hide hT7
    have HI7:=hide hI7
    clear hQ hGQ hQo hT7 hI7 HT6 HI6 HO6 HG6 z6 zf6 TX
    by_cases hx0:x=0
    · subst hx0
      have hNl:=(unhide HN) rfl
      have hn7:m+1=n7:=by rw[←hNl];exact (unhide HI7).1
      have hc7:n7≤c7:=unhide HC6
      obtain⟨b7,o7,rfl,hcs7⟩:=(unhide HI7).2 (by omega)
      have hcm:=hcs7 m (by omega)
      have HG:Hid (N.getD m 0=N[m]):=by show _=_;simp[hNl]
      have hr:=unhide HR
      rw[if_pos rfl] at hr
      injection hr with r1 r2
      injection r2 with r2 r3
      rw[unhide HG] at r2
      rw[r2] at hcm
      subst r1 r3
      have l7:=World.block_lt_of_cell? _ _ hcm
      have hcm2:(Q.setCell ⟨w.heap.size+1+1,0,none⟩ (.slice a6 n6 c6)).cell? ⟨b7,o7+m,none⟩=some (.int .i64 nm):=(unhide HQO).other hcm (fun _ _ _ q=>by cases q)
      have hi1:(0:Int)≤(m:Int):=by omega
      have hi2:(m:Int)<(n7:Int):=by omega
      have hi3:(m:Int)≤(c7:Int):=by omega
      have HF:Hid (NmR w (Q.setCell ⟨w.heap.size+2,0,none⟩ (.slice a6 n6 c6)) M nm (N.take m) 0 (.returned (.tuple #[.agg #[.slice a6 n6 c6],.int .i64 nm,.slice (some ⟨b7,o7,none⟩) m c7,.int .i64 0]))):=
        ⟨a6,n6,c6,some ⟨b7,o7,none⟩,m,c7,rfl,Pg (unhide HT7) (unhide HQO),unhide HS6,Qz ⟨by rw[List.length_take];omega,fun _=>⟨b7,o7,rfl,fun i hi=>by
          have:=hcs7 i (by rw[List.length_take] at hi;omega)
          rw[List.getElem_take];exact this⟩⟩ (unhide HQO),by omega,(unhide GB) _ ((unhide HGQ).one (w.heap.size+2) 0 (.inl rfl) _)⟩
      clear hcs7 hNl r2 HI7 HT7 HQO HG HN HR
      go_wp2_with fail
      go_region
      all_goals
        go_wp2
        (try simp only[Exit.inBlock,Exit.then])
        refine bodyPost_ret (v:=.tuple #[.agg #[.slice a6 n6 c6],.int .i64 nm,.slice (some ⟨b7,o7,none⟩) m c7,.int .i64 0]) ?_ rfl ?_
        · rw[Yz rfl]
          go_simp
        · exact (unhide HF).drew
    · have gx:(x != 0)=true:=by simp[hx0]
      have hr:=unhide HR
      rw[if_neg hx0] at hr
      injection hr with r1 r2
      injection r2 with r2 r3
      subst r1 r2 r3
      have HF:Hid (Below w.heap.size w (Q.setCell ⟨w.heap.size+1+1,0,none⟩ (.slice none 0 0))):=(unhide GB) _ ((unhide HGQ).one (w.heap.size+1+1) 0 (.inl rfl) _)
      clear hx0 HN HT7 HI7 HQO HGQ HR
      go_wp2
      (try simp only[Exit.inBlock,Exit.then])
      refine bodyPost_ret (v:=.tuple #[.agg #[.slice none 0 0],.int .i64 0,.slice none 0 0,.int .i64 x]) ?_ rfl ⟨_,_,_,_,_,_,rfl,Bk.TextsAt.nil _ _,Bk.SlOk.nil,Bk.IntsAt.nil _ _,Nat.le_refl _,?_⟩
      · rw[Yz rfl]
        go_simp
      · exact unhide HF
end Go.Proofs.YtmomfkikogbdeaaGreatDoor
