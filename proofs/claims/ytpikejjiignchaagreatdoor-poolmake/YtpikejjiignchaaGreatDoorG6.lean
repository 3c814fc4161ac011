import Derived.Test.YtpikejjiignchaaGreatDoorG5
import Derived.Test.YtpikejjiignchaaGreatDoorG1
set_option maxHeartbeats 3200000
namespace Go.Proofs.YtpikejjiignchaaGreatDoor.Bk
open Go.RowKit Go.Maps
def allR(L l:List ByteArray):List ByteArray×List Int×Int:=if bkChk L=0 then nmGo L [] l else ([],[],bkChk L)
def IntsAt(w:World)(a:Option Addr)(len:Nat)(Z:List Int):Prop:=
 Z.length=len∧(0<len→∃ b off,a=some ⟨b,off,none⟩∧∀ i (h:i<Z.length),w.cell? ⟨b,off+i,none⟩=some (.int .i64 Z[i]))
theorem IntsAt.later{w w':World}{a:Option Addr}{len:Nat}{Z:List Int}(h:IntsAt w a len Z)(hb:Below w.heap.size w w'):IntsAt w' a len Z:=by
 refine⟨h.1,fun h0=>?_⟩
 obtain⟨b,off,e,hc⟩:=h.2 h0
 exact⟨b,off,e,fun i hi=>Zc hb (hc i hi)⟩
theorem IntsAt.nil(w:World)(a:Option Addr):IntsAt w a 0 []:=⟨rfl,fun h=>absurd h (by omega)⟩
def SlOk(a:Option Addr)(n c:Nat):Prop:=n≤c∧c≤maxLen∧(a=none→n=0∧c=0)
theorem SlOk.nil:SlOk none 0 0:=⟨Nat.le_refl _,by unfold maxLen;omega,fun _=>⟨rfl,rfl⟩⟩
theorem Wr.beside{base p bm g j:Nat}{w:World}{v u:Value}{D:DataW Unit}{L:List ByteArray}(h:Wr base p bm w v D L)(hg:∃ cs,w.heap[g]? = some (.cells cs 3 (0,0))):Wr base p bm (w.setCell ⟨g,j,none⟩ u) v D L:=by
 obtain⟨cs,hg⟩:=hg
 have far:∀ k,k≠g→(w.setCell ⟨g,j,none⟩ u).heap[k]? = w.heap[k]?:=fun k hk=>heap_setCell_other w ⟨g,j,none⟩ k u hk
 refine⟨?_,h.pge,h.mge,?_,?_,h.ism,h.names⟩
 ·rw[far p (fun e=>?_)]
  ·exact h.box
  ·subst e
   rw[h.box] at hg
   injection hg with hg
   injection hg with _ hg
   exact absurd hg (by decide)
 ·refine Vo h.own (fun k cs' _ hk=>far k (fun e=>?_))
  subst e
  rw[hk] at hg
  injection hg with hg
  injection hg with _ hg
  exact absurd hg (by decide)
 ·obtain⟨es,clock,h1,r⟩:=h.map
  refine⟨es,clock,(far bm (fun e=>?_)).trans h1,r⟩
  subst e
  rw[h1] at hg
  cases hg
def Filled(base g n:Nat)(N:List Int)(w:World):Prop:=∃ xs:List Value,w.ownsRow base 3 1 (.slice (some ⟨g,0,none⟩) n n) n xs∧∀ j (h:j<N.length),xs[j]? = some (.int .i64 N[j])
theorem Filled.block{base g n:Nat}{N:List Int}{w:World}(h:Filled base g n N w):base≤g∧∃ cs,w.heap[g]? = some (.cells cs 3 (0,0)):=by
 obtain⟨xs,ho,_⟩:=h
 obtain⟨_,⟨e,_⟩|⟨g',cap,cur,e,hg,hh,_⟩⟩:=ho
 ·cases e
 ·cases e;exact⟨hg,cur,hh⟩
theorem Filled.far{base g n:Nat}{N:List Int}{w w':World}(h:Filled base g n N w)(hf:Far w w'):Filled base g n N w':=by
 obtain⟨xs,ho,hx⟩:=h
 exact⟨xs,Vo ho (fun k cs _ hk=>hf k cs _ hk (by decide) (by decide)),hx⟩
theorem Filled.old{base g n:Nat}{N:List Int}{w:World}(h:Filled base g n N w){k:Nat}(hk:k<n):(∃ v,w.cell? ⟨g,k,none⟩=some v)∧w.frozen? ⟨g,k,none⟩=false∧g<w.heap.size:=by
 obtain⟨xs,ho,_⟩:=h
 have hl:xs.length=n:=by simpa using ho.1
 exact⟨⟨xs[k]'(by omega),by rw[ho.cellAt k (by omega)];simp[hl,hk]⟩,ho.frozenAt k,(ho.lt g rfl).2⟩
theorem Filled.step{base g n:Nat}{N:List Int}{w:World}(h:Filled base g n N w)(hk:N.length<n)(x:Int):Filled base g n (N++[x]) (w.setCell ⟨g,N.length,none⟩ (.int .i64 x)):=by
 obtain⟨xs,ho,hx⟩:=h
 have hl:xs.length=n:=by simpa using ho.1
 refine⟨xs.set N.length (.int .i64 x),(ho.stored N.length _).1,fun j hj=>?_⟩
 by_cases e:j=N.length
 ·subst e;simp[hl,hk]
 ·have hj2:j<N.length:=by simp at hj;omega
  rw[List.getElem?_set_ne (by omega),hx j hj2]
  simp[hj2]
theorem Filled.ints{base g n:Nat}{N:List Int}{w:World}(h:Filled base g n N w)(hn:N.length=n):IntsAt w (some ⟨g,0,none⟩) n N:=by
 obtain⟨xs,ho,hx⟩:=h
 have hl:xs.length=n:=by simpa using ho.1
 refine⟨hn,fun _=>⟨g,0,rfl,fun i hi=>?_⟩⟩
 rw[Nat.zero_add,ho.cellAt i (by omega),hx i hi]
theorem results_cell_tmp2{fn:Func}{p u v:Tmp}{ty:TypeId}(h:fn.results=#[.cell p ty,.tmp u,.tmp v])(tmps:Array Value)(P:Program)(w:World) :
  (results fn tmps).run P w =
   ((asAddr (tmps.getD p undef)).run P w).andThen fun a w₁=>((loadVar ty a).run P w₁).andThen fun x w₂=>.ok (.tuple #[x,tmps.getD u undef,tmps.getD v undef]) w₂:=by
 simp only[results,h]
 simp[Sem.run_bind,Result.andThen]
theorem Cu{w:World}{base n c:Nat}{a:Option Addr}{L:List ByteArray}(h:w.ownsRow base 9 1 (.slice a n c) n (L.map Value.string)):TextsAt w a n L:=by
 obtain⟨a',c',e,_,_,_,ht⟩:=Wb h
 cases e
 exact ht
theorem Zfo{l:List ByteArray}{j:Nat}(h:j<l.length)(L:List ByteArray)(N:List Int):nmGo L N (l.drop j)=if (nm L l[j]).2.2=0 then nmGo (nm L l[j]).1 (N++[(nm L l[j]).2.1]) (l.drop (j+1)) else ([],[],(nm L l[j]).2.2):=by
 rw[List.drop_eq_getElem_cons h,nmGo]
theorem Zcw{l:List ByteArray}{j:Nat}(h:l.length≤j)(L:List ByteArray)(N:List Int):nmGo L N (l.drop j)=(L,N,0):=by
 rw[List.drop_of_length_le h];rfl
set_option maxRecDepth 10000 in
theorem Zgo(a al:Option Addr)(n c nl cl:Nat)(L:List ByteArray)(w:World)(h:TextsAt w a n L)(x:Int)(hx:bkChk L=x)(h0:x≠0) :
  Calls Tryz.prog 80 #[.agg #[.slice a n c],.slice al nl cl] w fun e w'=>e = .returned (.tuple #[.agg #[.slice none 0 0],.slice none 0 0,.int .i64 x])∧Below w.heap.size w w':=by
 have hb1:=Zf w (.cells #[.slice a n c] 24)
 have hb2:=Zf (w.alloc (.cells #[.slice a n c] 24)) (.cells #[.slice none 0 0] 24)
 have hb:=Ze hb1 hb2
 have hs1:(w.alloc (.cells #[.slice a n c] 24)).heap.size=w.heap.size+1:=by simp
 have c1:=heap_alloc_new (w.alloc (.cells #[.slice a n c] 24)) (.cells #[.slice none 0 0] 24)
 rw[hs1] at c1
 have O:=Zb (Ca a n c L _ (h.later hb) x hx)
 have HB:=Zb hb
 have C1:=Zb c1
 have g:(x != 0)=true:=by simp[h0]
 clear h hx hb hb1 hb2 c1 hs1
 go_enter Tryz.func80,Tryz.ntmps80
 go_wp2_with fail
 refine (Za O).mono ?_
 rintro e w2 ⟨v,rfl,-,hb2⟩
 have HB2:=Zb (Ze (Za HB) hb2)
 have c1:=(hb2.block _ (lt_of_block (Za C1))).trans (Za C1)
 have d0:w2.cell? ⟨w.heap.size+1,0,none⟩=some (.slice none 0 0):=by simp[World.cell?,c1]
 have df:w2.frozen? ⟨w.heap.size+1,0,none⟩=false:=by simp[World.frozen?,c1]
 have hl2:w.heap.size+1<w2.heap.size:=lt_of_block c1
 clear hb2 c1
 go_wp2
 (try simp only[Exit.inBlock,Exit.then])
 refine bodyPost_ret (v:=.tuple #[.agg #[.slice none 0 0],.slice none 0 0,.int .i64 x]) ?_ rfl ⟨rfl,?_⟩
 ·rw[results_cell_tmp2 rfl]
  go_simp
 ·exact (Za HB2).setCell (Nat.le_succ _) _
set_option maxRecDepth 10000 in
theorem Bn(a al:Option Addr)(n c nl cl:Nat)(L l M:List ByteArray)(N:List Int)(x:Int)(w:World)(h:TextsAt w a n L)(hl:TextsAt w al nl l)(hnl:nl≤17592186044416)(hR:Right L)(hx:nmGo L [] l=(M,N,x)) :
  Calls Tryz.prog 80 #[.agg #[.slice a n c],.slice al nl cl] w fun e w'=>(∃ a' n' c' a2 n2 c2,e = .returned (.tuple #[.agg #[.slice a' n' c'],.slice a2 n2 c2,.int .i64 x])∧(∀ w2,Gr w' w2 (fun k=>k<w.heap.size)→TextsAt w2 a' n' M)∧SlOk a' n' c'∧IntsAt w' a2 n2 N∧n2≤nl∧n2≤c2)∧Below w.heap.size w w':=by
 obtain⟨i0,hi,hz0,hz1,hz2⟩:=info_parts Tryz.infoInt
 have hb1:=Zf w (.cells #[.slice a n c] 24)
 have hb2:=Zf (w.alloc (.cells #[.slice a n c] 24)) (.cells #[.slice none 0 0] 24)
 have hb:=Ze hb1 hb2
 have hs1:(w.alloc (.cells #[.slice a n c] 24)).heap.size=w.heap.size+1:=by simp
 have hs2:((w.alloc (.cells #[.slice a n c] 24)).alloc (.cells #[.slice none 0 0] 24)).heap.size=w.heap.size+2:=by simp
 have c1:=heap_alloc_new (w.alloc (.cells #[.slice a n c] 24)) (.cells #[.slice none 0 0] 24)
 rw[hs1] at c1
 have O:=Zb (Ca a n c L _ (h.later hb) 0 ((right_iff L).2 hR))
 rw[hs2] at O
 have HB:=Zb hb
 have C1:=Zb c1
 have HLL:=Zb hl
 have HNL:=Zb hnl
 have HR:=Zb hR
 have HX:=Zb hx
 clear h hl hx hb hb1 hb2 c1 hs1 hs2 hR
 go_enter Tryz.func80,Tryz.ntmps80
 go_wp2_with fail
 refine (Za O).mono ?_
 rintro e w2 ⟨v,rfl,hwr,hb2⟩
 obtain⟨p,bm,v0,D0,rfl,hw0⟩:=hwr (by trivial)
 have hw2s:w.heap.size+2≤w2.heap.size:=Nat.le_trans hw0.pge (Nat.le_of_lt (lt_of_block hw0.box))
 have c1:=(hb2.block _ (by omega)).trans (Za C1)
 have HBW:Hid (Below w.heap.size w w2):=(Za HB).trans (hb2.mono (by omega))
 have HW:=Zb hw0
 have C2:=Zb c1
 clear hw0 hwr hb2 c1
 go_wp2_with (at_make;refine wpList_make_full _ rfl _ _ 25 rfl (w.heap.size+2) 3 i0 (.int .i64 0) 1 Tryz.underlying25 hi hz0 hz1 .i64 .i64 _ _ nl rfl rfl rfl rfl (by rw[hz2];have:=Za HNL;omega) (by have:=Za HNL;unfold maxLen;omega) hw2s ?_;intro w3 hown3 hgrow3)
 have hb3:Below w2.heap.size w2 w3:=(Below.refl _ _).grown hgrow3 (Nat.le_refl _) (fun k h=>by cases h)
 have HW3:=Zb ((Za HW).keep hb3)
 have HF3:Hid (Filled (w.heap.size+2) w2.heap.size nl [] w3):=⟨_,hown3,fun j hj=>absurd hj (by simp)⟩
 have C3:=Zb ((hb3.block _ (lt_of_block (Za C2))).trans (Za C2))
 have HB3:=Zb (Ze (Za HBW) hb3)
 obtain⟨g,hg⟩:∃ g,w2.heap.size=g:=⟨_,rfl⟩
 rw[hg] at HF3 ⊢
 clear hb3 hown3 hgrow3 HW C2 HBW hg
 go_loopw [26] (fun i wr=>∃ (j:Nat) (L':List ByteArray) (N':List Int),j≤nl∧i = .int .i64 j∧Below w.heap.size w wr∧Hid (∃ v D,Wr (w.heap.size+2) p bm wr v D L')∧Hid (Filled (w.heap.size+2) g nl N' wr)∧Hid (N'.length=j∧Right L'∧nmGo L' N' (l.drop j)=(M,N,x))∧Hid (wr.heap[w.heap.size+1]? = some (.cells #[.slice none 0 0] 24 (0,0)))) (fun i _=>nl - (intOf i).toNat)
 case atStart=>exact⟨0,L,[],Nat.zero_le _,rfl,Za HB3,⟨_,_,Za HW3⟩,HF3,⟨rfl,Za HR,Za HX⟩,C3⟩
 case round=>
  obtain⟨j,L',N',hk,rfl,hbw,HWr,HF,HN,HC⟩:=hrel
  have HB4:=Zb hbw
  by_cases hlt:j<nl
  ·obtain⟨hz,hcs⟩:=Za HLL
   obtain⟨b,off,rfl,hc⟩:=hcs (by omega)
   have hlj:j<l.length:=by omega
   have f:=Zc hbw (hc j hlj)
   obtain⟨v,D,hwr⟩:=Za HWr
   obtain⟨q1,q2,q3⟩:=Za HN
   rw[Zfo hlj] at q3
   obtain⟨s,hs⟩:∃ s,l[j]=s:=⟨_,rfl⟩
   rw[hs] at f q3
   obtain⟨r,hr⟩:∃ r,nm L' s=r:=⟨_,rfl⟩
   rw[hr] at q3
   obtain⟨M',n',e'⟩:=r
   simp only at q3
   have CN:=Zb (Zfp (w.heap.size+2) p bm v D L' M' s n' e' wr hwr q2.1 hr)
   have NR:Hid (e'=0→Right M'):=fun h=>by
    have:=nm_right (L:=L') (s:=s) q2
    rw[hr] at this
    exact this h
   clear hwr hs hc hcs hbw hr
   by_cases he:e'=0
   ·subst he
    rw[if_pos rfl] at q3
    have Q3:=Zb q3
    have hq1:=Zb q1
    clear q3 q2 q1
    go_wp2_with fail
    refine (Za CN).mono ?_
    rintro y w5 ⟨rfl,hw5,hb5,hf5⟩
    have F5:=(Za HF).far hf5
    obtain⟨⟨u,hu⟩,hfz,hgl⟩:=F5.old hlt
    have HF5:=Zb F5
    have hq:N'.length=j:=Za hq1
    have ST:=Zb (F5.step (by omega) n')
    rw[hq] at ST
    have HB5:=Zb ((Za HB4).trans (hb5.mono (by omega)))
    have W5:Hid (∃ v D,Wr (w.heap.size+2) p bm (w5.setCell ⟨g,j,none⟩ (.int .i64 n')) v D M'):=by
     obtain⟨v',D',h'⟩:=(by first|exact hw5|exact hw5 rfl|exact hw5 (by trivial):∃ v' D',Wr (w.heap.size+2) p bm w5 v' D' M')
     exact⟨v',D',h'.beside F5.block.2⟩
    have C5:Hid ((w5.setCell ⟨g,j,none⟩ (.int .i64 n')).heap[w.heap.size+1]? = some (.cells #[.slice none 0 0] 24 (0,0))):=by
     show _=_
     rw[heap_setCell_other _ _ _ _ (by show w.heap.size+1≠g;have:=F5.block.1;omega),hb5.block _ (by omega)]
     exact Za HC
    have HB6:=Zb ((Za HB5).setCell (p:=⟨g,j,none⟩) (by show w.heap.size≤g;have:=F5.block.1;omega) (.int .i64 n'))
    clear hw5 hb5 hf5 F5
    go_wp2
    go_roundw
    case rel=>exact⟨j+1,M',N'++[n'],by omega,by go_num,Za HB6,W5,ST,⟨by simp;exact Za hq1,(Za NR) (by trivial),Za Q3⟩,C5⟩
    case measure=>simp[intOf];omega
   ·rw[if_neg he] at q3
    have e1:M=[]:=by injection q3 with q3 _;exact q3.symm
    have e2:N=[]:=by injection q3 with _ q3;injection q3 with q3 _;exact q3.symm
    have e3:x=e':=by injection q3 with _ q3;injection q3 with _ q3;exact q3.symm
    subst e1 e2 e3
    have g5:(x != 0)=true:=by simp[he]
    clear q3 q2 q1
    go_wp2_with fail
    refine (Za CN).mono ?_
    rintro y w5 ⟨rfl,-,hb5,hf5⟩
    have F5:=(Za HF).far hf5
    obtain⟨⟨u,hu⟩,hfz,hgl⟩:=F5.old hlt
    have hgb:w.heap.size+2≤g:=F5.block.1
    have c5:(w5.setCell ⟨g,j,none⟩ (.int .i64 n')).heap[w.heap.size+1]? = some (.cells #[.slice none 0 0] 24 (0,0)):=by
     rw[heap_setCell_other _ _ _ _ (by show w.heap.size+1≠g;omega),hb5.block _ (by omega)]
     exact Za HC
    obtain⟨Z,hZ⟩:∃ Z,Z=w5.setCell ⟨g,j,none⟩ (.int .i64 n'):=⟨_,rfl⟩
    have HB6:=Zb (((Za HB4).trans (hb5.mono (by omega))).setCell (p:=⟨g,j,none⟩) (by show w.heap.size≤g;omega) (.int .i64 n'))
    rw[←hZ] at c5 HB6
    have d0:Z.cell? ⟨w.heap.size+1,0,none⟩=some (.slice none 0 0):=by simp[World.cell?,c5]
    have df:Z.frozen? ⟨w.heap.size+1,0,none⟩=false:=by simp[World.frozen?,c5]
    clear hb5 hf5 F5 c5
    rw[hZ] at d0 df HB6
    clear hZ
    go_wp2
    (try simp only[Exit.inBlock,Exit.then])
    refine bodyPost_ret (v:=.tuple #[.agg #[.slice none 0 0],.slice none 0 0,.int .i64 x]) ?_ rfl ⟨⟨_,_,_,_,_,_,rfl,fun _ _=>TextsAt.nil _ _,SlOk.nil,IntsAt.nil _ _,Nat.zero_le _,Nat.le_refl _⟩,?_⟩
    ·rw[results_cell_tmp2 rfl]
     go_simp
    ·exact (Za HB6).setCell (Nat.le_succ _) _
  ·have e:j=nl:=by omega
   subst e
   obtain⟨q1,q2,q3⟩:=Za HN
   rw[Zcw (by rw[(Za HLL).1];exact Nat.le_refl _)] at q3
   have e1:M=L':=by injection q3 with q3 _;exact q3.symm
   have e2:N=N':=by injection q3 with _ q3;injection q3 with q3 _;exact q3.symm
   have e3:x=0:=by injection q3 with _ q3;injection q3 with _ q3;exact q3.symm
   subst e1 e2 e3
   obtain⟨v,D,hwr⟩:=Za HWr
   obtain⟨d1,d2,-⟩:=hwr.cell0
   have ho:=hwr.own
   obtain⟨a',c',rfl,s1,s2,s3,s4⟩:=Wb hwr.own
   have HOK:Hid (SlOk a' M.length c'):=⟨s1,s2,s3⟩
   have HT:Hid (∀ u w2,Gr (wr.setCell ⟨w.heap.size+1,0,none⟩ u) w2 (fun k=>k<w.heap.size)→TextsAt w2 a' M.length M):=fun u w2 g2=>Cu (Vo ho (fun k cs hge hk=>(g2.block k (by simpa[World.setCell] using lt_of_block hk) (by omega)).trans (heap_setCell_other _ _ _ _ (by show k≠w.heap.size+1;omega))))
   have HI:Hid (∀ u,IntsAt (wr.setCell ⟨w.heap.size+1,0,none⟩ u) (some ⟨g,0,none⟩) j N):=fun u=>by
    obtain⟨xs,hxs,hx2⟩:=Za HF
    exact Filled.ints ⟨xs,Vo hxs (fun k cs hge _=>heap_setCell_other _ _ _ _ (by show k≠w.heap.size+1;omega)),hx2⟩ q1
   have c5:=Za HC
   have d0:wr.cell? ⟨w.heap.size+1,0,none⟩=some (.slice none 0 0):=by simp[World.cell?,c5]
   have df:wr.frozen? ⟨w.heap.size+1,0,none⟩=false:=by simp[World.frozen?,c5]
   have hpne:w.heap.size+1≠p:=by have:=hwr.pge;omega
   clear q1 q2 q3 hwr ho s1 s2 s3 s4 c5 hbw
   go_wp2
   (try simp only[Exit.inBlock,Exit.then])
   refine bodyPost_ret (v:=.tuple #[.agg #[.slice a' M.length c'],.slice (some ⟨g,0,none⟩) j j,.int .i64 0]) ?_ rfl ⟨⟨_,_,_,_,_,_,rfl,(Za HT) _,Za HOK,(Za HI) _,Nat.le_refl _,Nat.le_refl _⟩,?_⟩
   ·rw[results_cell_tmp2 rfl]
    go_simp
   ·exact (Za HB4).setCell (Nat.le_succ _) _
open Go.RowKit Go.Maps
def nameR(L:List ByteArray)(s:ByteArray):List ByteArray×Int×Int:=if bkChk L=0 then nm L s else ([],0,bkChk L)
theorem Dm(w:World)(s:ByteArray):TextsAt (w.alloc (.cells #[.string s] 9)) (some ⟨w.heap.size,0,none⟩) 1 [s]:=
 ⟨rfl,fun _=>⟨w.heap.size,0,rfl,fun i hi=>by
  have e:i=0:=by simp at hi;omega
  subst e
  exact Qf w (.string s) 9⟩⟩
theorem Zgn(L:List ByteArray)(s:ByteArray):allR L [s]=((nameR L s).1,(if (nameR L s).2.2=0 then [(nameR L s).2.1] else []),(nameR L s).2.2):=by
 unfold allR nameR
 by_cases h0:bkChk L=0
 ·rw[if_pos h0,if_pos h0]
  simp only[nmGo,List.nil_append]
  by_cases h1:(nm L s).2.2=0
  ·rw[if_pos h1,if_pos h1];rw[h1]
  ·rw[if_neg h1,if_neg h1]
   have:(nm L s).1=[]:=by
    unfold nm at *
    by_cases h2:4000<s.size
    ·rw[if_pos h2]
    ·rw[if_neg h2] at *
     by_cases h3:Zk s L≠0
     ·rw[if_pos h3] at h1;exact absurd rfl h1
     ·rw[if_neg h3] at *
      by_cases h4:120≤L.length
      ·rw[if_pos h4]
      ·rw[if_neg h4] at h1;exact absurd rfl h1
   rw[this]
 ·rw[if_neg h0,if_neg h0]
  simp[h0]
theorem Zcx{L:List ByteArray}{s:ByteArray}(h:(nameR L s).2.2≠0):(nameR L s).1=[]∧(nameR L s).2.1=0:=by
 unfold nameR at *
 by_cases h0:bkChk L=0
 ·rw[if_pos h0] at *
  unfold nm at *
  by_cases h2:4000<s.size
  ·rw[if_pos h2];exact⟨rfl,rfl⟩
  ·rw[if_neg h2] at *
   by_cases h3:Zk s L≠0
   ·rw[if_pos h3] at h;exact absurd rfl h
   ·rw[if_neg h3] at *
    by_cases h4:120≤L.length
    ·rw[if_pos h4];exact⟨rfl,rfl⟩
    ·rw[if_neg h4] at h;exact absurd rfl h
 ·rw[if_neg h0];exact⟨rfl,rfl⟩
open Go.RowKit Go.Maps
theorem Zew{s t:ByteArray}(h:s≠t):s.toList≠t.toList:=fun e=>h (by
 rw[ByteArray.toList_eq,ByteArray.toList_eq] at e
 have h4:s.data=t.data:=by rw[←Array.toList_inj];exact e
 cases s;cases t;simp_all)
theorem Zbk{s t:ByteArray}(h:s≠t):(s.toList == t.toList)=false:=by simp[Zew h]
open Go.RowKit Go.Maps
theorem Cq(z:Array Value)(n:Nat):(Builtin.zeroCells z n).size=n*z.size:=by simp[Builtin.zeroCells]
theorem Zdm(n:Nat)(w:World)(hn:n≤240) :
  Calls Tryz.prog 146 #[.slice none 0 0,.int .i64 n] w fun e w'=>∃ v,e = .returned v∧w'.ownsRow w.heap.size 9 1 v 0 []∧Below w.heap.size w w':=by
 obtain⟨i0,hi,hz0,hz1,hz2⟩:=info_parts Tryz.info9
 by_cases h:n=0
 ·subst h
  exact (Any8.slices_Grow_room Tryz.growS none 0 0 0 w (Nat.le_refl _) (by omega) (by omega) (by omega)).mono fun e w' ⟨h1,h2⟩=>⟨_,h1,⟨rfl,Or.inl ⟨rfl,rfl⟩⟩,h2 ▸ Below.refl _ _⟩
 ·refine (Any8.slices_Grow_grow Tryz.growS i0 (.string ⟨#[]⟩) hi hz0 (by rw[hz1];decide) none 0 0 n [] w (Nat.le_refl _) (by omega) (by rw[hz2];omega) (by omega) (by simp) (fun _=>rfl) (fun a h=>by cases h)).mono fun e w' ⟨h1,h2⟩=>⟨_,h1,?_,?_⟩
  ·rw[h2]
   have hge:=grownCap_ge w (0+n) 0 (Tryz.growS_ren.t 25)
   have hle:=grownCap_le_maxLen w (0+n) 0 (Tryz.growS_ren.t 25) (by unfold maxLen;omega)
   refine⟨rfl,Or.inr ⟨w.heap.size,_,_,rfl,Nat.le_refl _,heap_alloc_new _ _,Nat.zero_le _,hle,?_,rfl⟩⟩
   simp only[Array.size_append,Cq,List.size_toArray,List.length_nil]
   show 0+(0+n - 0)*1+_*1=_*1
   omega
  ·rw[h2]
   exact⟨rfl,rfl,rfl,by simp,fun k hk=>Below.heap_alloc w.drew _ k hk⟩
theorem TextsAt.news{w:World}{x:Addr}{len:Nat}{L:List ByteArray}(h:TextsAt w (some x) len L)(j:Nat)(u:Value)(hj:(L.map Value.string)[j]? = some u):w.cell? (x.add j)=some u:=by
 have hjl:j<L.length:=by
  rcases Nat.lt_or_ge j L.length with h|h
  ·exact h
  ·rw[List.getElem?_eq_none (by simpa using h)] at hj;cases hj
 have hz:=h.1
 obtain⟨b,off,hx,hc⟩:=h.2 (by omega)
 cases hx
 have hadd:(⟨b,off,none⟩:Addr).add j=⟨b,off+j,none⟩:=by unfold Addr.add;split <;> simp_all
 rw[hadd,hc j hjl]
 simpa[hjl] using hj
set_option maxRecDepth 100000 in
theorem A8(B:Nat)(ak:Option Addr)(y:Addr)(lenk capk len cap:Nat)(k l:List ByteArray)(w:World)(hsum:lenk+len≤240)(hK:TextsAt w ak lenk k)(hL:TextsAt w (some y) len l)
  (hkn:ak=none→lenk=0∧capk=0)
  (c0:w.cell? ⟨B,0,none⟩=some (.slice ak lenk capk)) (c1:w.cell? ⟨B,1,none⟩=some (.slice (some y) len cap)) :
  Calls Tryz.prog 106 #[.slice (some ⟨B,0,none⟩) 2 2] w fun e w'=>∃ a' cap',e = .returned (.slice a' (lenk+len) cap')∧TextsAt w' a' (lenk+len) (k++l)∧SlOk a' (lenk+len) cap'∧(∀ y,a'=some y→w.heap.size≤y.block)∧Below w.heap.size w w':=by
 obtain⟨i0,hi,hz0,hz1,hz2⟩:=info_parts Tryz.info9
 have hBl:B<w.heap.size:=World.block_lt_of_cell? _ _ c0
 have hzk:=hK.1
 have hzl:=hL.1
 have HK:=Zb hK
 have HL:=Zb hL
 have HKN:=Zb hkn
 have HZK:=Zb hzk
 have HZL:=Zb hzl
 clear hK hL hkn hzk hzl
 go_enter Tryz.func106,Tryz.ntmps106
 go_wp2
 refine wp_loop_rounds 3 ?_
 rw[rounds_succ]
 go_wp2
 rw[rounds_succ]
 go_wp2
 rw[rounds_succ]
 have GR:=Zb (Zdm (lenk+len) w hsum)
 rw[Int.natCast_add] at GR
 go_wp2_with fail
 refine (Za GR).mono ?_
 rintro e w1 ⟨v,rfl,hw1,hb1⟩
 have HW1:=Zb hw1
 have HB1:=Zb hb1
 have c01:=(hb1.cell (p:=⟨B,0,none⟩) hBl).trans c0
 have c11:=(hb1.cell (p:=⟨B,1,none⟩) hBl).trans c1
 clear hw1 hb1
 rcases ak with _|x
 ·go_wp2
  refine wp_loop_rounds 3 ?_
  rw[rounds_succ]
  obtain⟨rfl,rfl⟩:=(Za HKN) (by trivial)
  have ek:k=[]:=List.length_eq_zero_iff.1 (Za HZK)
  subst ek
  go_wp2_with (at_builtin;refine wpList_append_own_none rfl _ _ 22 rfl w.heap.size 9 i0 1 Tryz.underlying22 hi _ _ _ rfl (Za HW1) rfl ?_)
  have HW2:Hid (w1.ownsRow w.heap.size 9 1 v (0+0) (([]:List ByteArray).map Value.string)):=Za HW1
  have HB2:=HB1
  have c02:=c01
  have c12:=c11
  clear c01 c11
  go_wp2
  rw[rounds_succ]
  go_wp2_with (at_builtin;refine wpList_append_own _ rfl _ _ 22 rfl w.heap.size 9 i0 (.string ⟨#[]⟩) 1 16 Tryz.underlying22 hi hz0 hz1 hz2 rfl (by decide) _ _ _ rfl (Za HW2) y len cap (l.map Value.string) rfl (by rw[List.length_map,Za HZL];omega) (fun j u hj=>((Za HL).later (Za HB2)).news j u hj) (fun u hu=>by obtain⟨x,_,rfl⟩:=List.mem_map.1 hu;rfl) (by unfold maxLen;omega) (by omega) (Za HB2).size ?_;intro v2 w3 hown3 hgrow3 _)
  have HW3:Hid (w3.ownsRow w.heap.size 9 1 v2 ((0+0)+len) ((([]:List ByteArray)++l).map Value.string)):=by rw[List.map_append];exact hown3
  have HB3:=Zb ((Za HB2).grown hgrow3 (Za HB2).size (Uv (Za HW2)))
  clear hown3 hgrow3
  obtain⟨a',cap',hv,s1,s2,s3,hO⟩:=Wb (Za HW3)
  have HGE:Hid (∀ y,a'=some y→w.heap.size≤y.block):=fun y e=>Uv (Za HW3) y.block (by rw[hv,e];rfl)
  have HV:=Zb hv
  have HO2:=Zb hO
  have HOK:Hid (SlOk a' ((0+0)+len) cap'):=⟨s1,s2,s3⟩
  clear hv hO c02 c12 s1 s2 s3
  go_wp2
  rw[rounds_succ]
  go_wp2
  go_ret
  refine⟨a',cap',?_,?_,?_,Za HGE,Za HB3⟩
  ·rw[Za HV];simp
  ·simpa using Za HO2
  ·simpa using Za HOK
 ·go_wp2
  refine wp_loop_rounds 3 ?_
  rw[rounds_succ]
  go_wp2_with (at_builtin;refine wpList_append_own _ rfl _ _ 22 rfl w.heap.size 9 i0 (.string ⟨#[]⟩) 1 16 Tryz.underlying22 hi hz0 hz1 hz2 rfl (by decide) _ _ _ rfl (Za HW1) x lenk capk (k.map Value.string) rfl (by rw[List.length_map,Za HZK];omega) (fun j u hj=>((Za HK).later (Za HB1)).news j u hj) (fun u hu=>by obtain⟨x,_,rfl⟩:=List.mem_map.1 hu;rfl) (by unfold maxLen;omega) (by omega) (Za HB1).size ?_;intro v1 w2 hown2 hgrow2 _)
  have HW2:Hid (w2.ownsRow w.heap.size 9 1 v1 (0+lenk) (k.map Value.string)):=Zb (by simpa using hown2)
  have HB2:=Zb ((Za HB1).grown hgrow2 (Za HB1).size (Uv (Za HW1)))
  have c02:=((Za HB2).cell (p:=⟨B,0,none⟩) hBl).trans c0
  have c12:=((Za HB2).cell (p:=⟨B,1,none⟩) hBl).trans c1
  clear hown2 hgrow2
  clear c01 c11
  go_wp2
  rw[rounds_succ]
  go_wp2_with (at_builtin;refine wpList_append_own _ rfl _ _ 22 rfl w.heap.size 9 i0 (.string ⟨#[]⟩) 1 16 Tryz.underlying22 hi hz0 hz1 hz2 rfl (by decide) _ _ _ rfl (Za HW2) y len cap (l.map Value.string) rfl (by rw[List.length_map,Za HZL];omega) (fun j u hj=>((Za HL).later (Za HB2)).news j u hj) (fun u hu=>by obtain⟨x,_,rfl⟩:=List.mem_map.1 hu;rfl) (by unfold maxLen;omega) (by omega) (Za HB2).size ?_;intro v2 w3 hown3 hgrow3 _)
  have HW3:Hid (w3.ownsRow w.heap.size 9 1 v2 ((0+lenk)+len) ((k++l).map Value.string)):=by rw[List.map_append];exact hown3
  have HB3:=Zb ((Za HB2).grown hgrow3 (Za HB2).size (Uv (Za HW2)))
  clear hown3 hgrow3
  obtain⟨a',cap',hv,s1,s2,s3,hO⟩:=Wb (Za HW3)
  have HGE:Hid (∀ y,a'=some y→w.heap.size≤y.block):=fun y e=>Uv (Za HW3) y.block (by rw[hv,e];rfl)
  have HV:=Zb hv
  have HO2:=Zb hO
  have HOK:Hid (SlOk a' ((0+lenk)+len) cap'):=⟨s1,s2,s3⟩
  clear hv hO c02 c12 s1 s2 s3
  go_wp2
  rw[rounds_succ]
  go_wp2
  go_ret
  refine⟨a',cap',?_,?_,?_,Za HGE,Za HB3⟩
  ·rw[Za HV];simp
  ·simpa using Za HO2
  ·simpa using Za HOK
open Go.RowKit Go.Maps
theorem Gy{s:ByteArray}{L:List ByteArray}{k:Nat}(h:k<L.length)(h0:Zk s (L.take k)=0)(e:L[k]≠s):Zk s (L.take (k+1))=0:=by
 rw[List.take_succ_eq_append_getElem h,Wd,if_pos h0]
 have:Zk s [L[k]]=0:=by rw[place_zero];simp;exact fun h2=>e h2.symm
 rw[this];rfl
theorem Le{s:ByteArray}{L:List ByteArray}{k:Nat}(h:k<L.length)(h0:Zk s (L.take k)=0)(e:L[k]=s):Zk s L=k+1:=by
 have h1:Zk s (L.take (k+1))=k+1:=by
  rw[List.take_succ_eq_append_getElem h,Wd,if_pos h0,e]
  simp[Zk];omega
 rw[Qc] at h1
 split at h1
 ·exact h1
 ·omega
def idx(s:ByteArray)(L:List ByteArray):Int:=(Zk s L:Int) - 1
set_option maxRecDepth 10000 in
theorem Zdg(a:Option Addr)(n c:Nat)(L:List ByteArray)(s:ByteArray)(x:Int)(w:World)(hn:n≤maxLen)(h:TextsAt w a n L)(hx:idx s L=x) :
  Calls Tryz.prog 40 #[.slice a n c,.string s] w fun e w'=>e = .returned (.int .i64 x)∧Below w.heap.size w w':=by
 have HT:=Zb h
 have HX:=Zb hx
 unfold maxLen at hn
 clear h hx
 go_enter Tryz.func40,Tryz.ntmps40
 go_wp2
 go_loop [8] (fun i=>∃ j:Nat,j≤n∧i = .int .i64 j∧Hid (Zk s (L.take j)=0)) (fun i=>n - (intOf i).toNat)
 case atStart=>exact⟨0,Nat.zero_le _,rfl,rfl⟩
 case round=>
  obtain⟨j,hk,rfl,A⟩:=hrel
  by_cases hlt:j<n
  ·obtain⟨hz,hcs⟩:=Za HT
   obtain⟨b,off,rfl,hc⟩:=hcs (by omega)
   have h1:j<L.length:=by omega
   have f:=hc j h1
   have PS:=Zb (Gy h1 (Za A))
   have PH:=Zb (Le h1 (Za A))
   obtain⟨t,ht⟩:∃ t,L[j]=t:=⟨_,rfl⟩
   rw[ht] at f PS PH
   clear ht A hc hcs hz
   by_cases e:t=s
   ·subst e
    have R:Hid (x=j):=by show _=_;rw[←Za HX];unfold idx;rw[(Za PH) rfl];omega
    clear PS PH
    go_wp2
    go_ret
    exact⟨by rw[Za R];rfl,Below.refl _ _⟩
   ·have R:=Zb ((Za PS) e)
    have g:=Zbk (fun h:s=t=>e h.symm)
    clear PS PH e
    go_wp2
    go_round
    case rel=>exact⟨j+1,by omega,by go_num,R⟩
    case measure=>simp[intOf];omega
  ·have R:Hid (x = -1):=by
    have h:=Za A
    rw[List.take_of_length_le (by rw[(Za HT).1];omega)] at h
    show _=_;rw[←Za HX];unfold idx;rw[h];rfl
   clear A
   go_wp2
   go_ret
   exact⟨by rw[Za R];rfl,Below.refl _ _⟩
open Go.RowKit Go.Maps
theorem Zhr{L:List ByteArray}{j:Nat}(h:j<L.length):(idx L[j] L<(j:Int))↔Zk L[j] (L.take j)≠0:=by
 have h1:=Zcl h
 unfold idx
 rw[Qc]
 by_cases h2:Zk L[j] L≤j
 ·rw[if_pos h2];constructor
  ·intro _;omega
  ·intro _;omega
 ·rw[if_neg h2];constructor
  ·intro h3;omega
  ·intro h3;exact absurd rfl h3
theorem Zhs(s:ByteArray)(L:List ByteArray) : -1≤idx s L∧idx s L<L.length:=by
 have:=Dh s L
 unfold idx;omega
set_option maxRecDepth 10000 in
theorem rcheck_is(a:Option Addr)(n c:Nat)(L:List ByteArray)(w:World)(h:TextsAt w a n L)(x:Int)(hx:bkChk L=x) :
  Calls Tryz.prog 14 #[.agg #[.slice a n c]] w fun e w'=>e = .returned (.int .i64 x)∧Below w.heap.size w w':=by
 have hb:=Zf w (.cells #[.slice a n c] 24)
 have c0:=Qf w (.slice a n c) 24
 obtain⟨W,hW⟩:∃ W,W=w.alloc (.cells #[.slice a n c] 24):=⟨_,rfl⟩
 have hz:=h.1
 by_cases h1:120<n
 ·have e:x=2:=by rw[←hx];unfold bkChk;rw[if_pos (by omega)]
  subst e
  have g:(120:Int)<(n:Int):=by omega
  have HB:=Zb hb
  clear h hx h1 hz hb c0 hW
  go_enter Tryz.func14,Tryz.ntmps14
  go_wp2
  go_ret
  exact⟨rfl,Za HB⟩
 ·have g:¬(120:Int)<(n:Int):=by omega
  have HX:Hid (Jl [] L=x):=by show _=_;rw[←hx];unfold bkChk;rw[if_neg (by omega)]
  rw[←hW] at hb c0
  have HB:=Zb hb
  have HT:=Zb (h.later hb)
  have C0:=Zb c0
  have hn:n≤120:=by omega
  clear h hx h1 hb c0 hz
  go_enter Tryz.func14,Tryz.ntmps14
  go_wp2
  rw[←hW]
  clear hW
  go_loopw [12] (fun i wr=>∃ j:Nat,j≤n∧i = .int .i64 j∧Below W.heap.size W wr∧Hid (Jl (L.take j) (L.drop j)=x)) (fun i _=>n - (intOf i).toNat)
  case atStart=>exact⟨0,Nat.zero_le _,rfl,Below.refl _ _,Za HX⟩
  case round=>
   obtain⟨j,hk,rfl,hbw,A⟩:=hrel
   have HBW:=Zb hbw
   by_cases hlt:j<n
   ·have ht:=(Za HT).later hbw
    obtain⟨hz,hcs⟩:=ht
    obtain⟨b,off,rfl,hc⟩:=hcs (by omega)
    have hlj:j<L.length:=by omega
    have f:=hc j hlj
    have c1:=Zc hbw (Za C0)
    have hl1:w.heap.size<wr.heap.size:=World.block_lt_of_cell? _ _ c1
    have S:=Zgq hlj
    rw[Za A] at S
    have IL:=Zhr hlj
    have IG:=Zhs L[j] L
    obtain⟨s,hs⟩:∃ s,L[j]=s:=⟨_,rfl⟩
    rw[hs] at f S IL IG
    have IX:=Zb (Zdg (some ⟨b,off,none⟩) n c L s (idx s L) wr (by unfold maxLen;omega) ((Za HT).later hbw) rfl)
    obtain⟨q,hq⟩:∃ q,idx s L=q:=⟨_,rfl⟩
    rw[hq] at IL IX IG
    clear hs hq hbw A hc hcs hz
    by_cases h2:4000<s.size
    ·rw[if_pos h2] at S
     subst S
     have g2:(4000:Int)<(s.size:Int):=by omega
     clear h2 IL IG
     go_wp2
     go_ret
     exact⟨rfl,Ze (Za HB) (Za HBW)⟩
    ·rw[if_neg h2] at S
     have g2:¬(4000:Int)<(s.size:Int):=by omega
     by_cases h3:Zk s (L.take j)≠0
     ·rw[if_pos h3] at S
      subst S
      have g3:=IL.2 h3
      clear h2 h3 IL IG
      go_wp2_with fail
      refine (Za IX).mono ?_
      rintro e w2 ⟨rfl,hb2⟩
      have HB2:=Zb (Ze (Ze (Za HB) (Za HBW)) hb2)
      clear hb2
      go_wp2
      go_ret
      exact⟨rfl,Za HB2⟩
     ·rw[if_neg h3] at S
      have HS:Hid (Jl (L.take (j+1)) (L.drop (j+1))=x):=S.symm
      have g3:¬q<(j:Int):=fun h=>h3 (IL.1 h)
      clear h2 h3 IL IG S
      go_wp2_with fail
      refine (Za IX).mono ?_
      rintro e w2 ⟨rfl,hb2⟩
      have HB2:=Zb (Ze (Za HBW) hb2)
      clear hb2
      go_wp2
      go_roundw
      case rel=>exact⟨j+1,by omega,by go_num,Za HB2,HS⟩
      case measure=>simp[intOf];omega
   ·have R:Hid (x=0):=by show _=_;rw[←Za A];exact Zeh (by rw[(Za HT).1];omega)
    clear A hbw
    go_wp2
    go_ret
    exact⟨by rw[Za R];rfl,Ze (Za HB) (Za HBW)⟩
set_option maxRecDepth 10000 in
theorem named_is(a:Option Addr)(n c:Nat)(L M:List ByteArray)(s:ByteArray)(k x:Int)(w:World)(hL:L.length≤120)(h:TextsAt w a n L)(hs:SlOk a n c)(hx:nm L s=(M,k,x)) :
  Calls Tryz.prog 58 #[.slice a n c,.string s] w fun e w'=>(∃ a' n' c',e = .returned (.tuple #[.slice a' n' c',.int .i64 k,.int .i64 x])∧TextsAt w' a' n' M∧SlOk a' n' c'∧(a'=a∧n'=n∨∀ y,a'=some y→w.heap.size≤y.block))∧Below w.heap.size w w':=by
 have hz:=h.1
 by_cases h1:4000<s.size
 ·have e1:nm L s=([],0,2):=by unfold nm;rw[if_pos h1]
  rw[e1] at hx
  obtain⟨rfl,hn2⟩:=Prod.mk.injEq .. ▸ hx
  obtain⟨rfl,rfl⟩:=Prod.mk.injEq .. ▸ hn2
  have g:(4000:Int)<(s.size:Int):=by omega
  clear hx hn2 e1 h1 h hs hL hz
  go_enter Tryz.func58,Tryz.ntmps58
  go_wp2
  go_ret3
  exact⟨⟨_,_,_,rfl,TextsAt.nil _ _,SlOk.nil,Or.inr (fun y e=>by cases e)⟩,Below.refl _ _⟩
 ·have g:¬(4000:Int)<(s.size:Int):=by omega
  have hn:n≤120:=by omega
  have HX:Hid ((if Zk s L≠0 then (L,(Zk s L:Int),0) else if 120≤L.length then ([],0,12) else (L++[s],(L.length:Int)+1,0))=(M,k,x)):=by
   show _=_
   rw[←hx];unfold nm;rw[if_neg h1]
  have HT:=Zb h
  have HS:=Zb hs
  clear h hs hx h1 hz hL
  go_enter Tryz.func58,Tryz.ntmps58
  go_wp2
  go_loop [14] (fun i=>∃ j:Nat,j≤n∧i = .int .i64 j∧Hid (Zk s (L.take j)=0)) (fun i=>n - (intOf i).toNat)
  case atStart=>exact⟨0,Nat.zero_le _,rfl,rfl⟩
  case round=>
   obtain⟨j,hk,rfl,A⟩:=hrel
   by_cases hlt:j<n
   ·obtain⟨hz,hcs⟩:=Za HT
    obtain⟨b,off,rfl,hc⟩:=hcs (by omega)
    have hlj:j<L.length:=by omega
    have f:=hc j hlj
    have PS:=Zb (Gy hlj (Za A))
    have PH:=Zb (Le hlj (Za A))
    obtain⟨t,ht⟩:∃ t,L[j]=t:=⟨_,rfl⟩
    rw[ht] at f PS PH
    clear ht A hc hcs hz
    by_cases e:t=s
    ·subst e
     have e2:=(Za PH) rfl
     have q:=Za HX
     rw[e2,if_pos (by omega)] at q
     have q1:L=M:=by injection q
     have q2:((j+1:Nat):Int)=k:=by injection q with _ q;injection q
     have q3:(0:Int)=x:=by injection q with _ q;injection q
     subst q1 q3
     have q4:k=(j:Int)+1:=by omega
     subst q4
     clear PS PH q q2 e2
     go_wp2
     go_ret3
     exact⟨⟨_,_,_,rfl,Za HT,Za HS,Or.inl ⟨rfl,rfl⟩⟩,Below.refl _ _⟩
    ·have R:=Zb ((Za PS) e)
     have g2:=Zbk e
     clear PS PH e
     go_wp2
     go_round
     case rel=>exact⟨j+1,by omega,by go_num,R⟩
     case measure=>simp[intOf];omega
   ·have p0:=Za A
    rw[List.take_of_length_le (by rw[(Za HT).1];omega)] at p0
    have q:=Za HX
    rw[p0,if_neg (by omega)] at q
    have hzl:=(Za HT).1
    by_cases h2:120≤L.length
    ·rw[if_pos h2] at q
     obtain⟨rfl,hn2⟩:=Prod.mk.injEq .. ▸ q
     obtain⟨rfl,rfl⟩:=Prod.mk.injEq .. ▸ hn2
     have g2:(120:Int)≤(n:Int):=by omega
     clear q hn2 p0 h2 A hzl
     go_wp2
     go_ret3
     exact⟨⟨_,_,_,rfl,TextsAt.nil _ _,SlOk.nil,Or.inr (fun y e=>by cases e)⟩,Below.refl _ _⟩
    ·rw[if_neg h2] at q
     obtain⟨rfl,hn2⟩:=Prod.mk.injEq .. ▸ q
     obtain⟨rfl,rfl⟩:=Prod.mk.injEq .. ▸ hn2
     have g2:¬(120:Int)≤(n:Int):=by omega
     have hb1:=Zf w (.cells #[.string s] 9)
     have hs1:(w.alloc (.cells #[.string s] 9)).heap.size=w.heap.size+1:=by simp
     have hb2:=Zf (w.alloc (.cells #[.string s] 9)) (.cells #[.slice a n c,.slice (some ⟨w.heap.size,0,none⟩) 1 1] 22)
     have c0:((w.alloc (.cells #[.string s] 9)).alloc (.cells #[.slice a n c,.slice (some ⟨w.heap.size,0,none⟩) 1 1] 22)).cell? ⟨w.heap.size+1,0,none⟩=some (.slice a n c):=by rw[←hs1,World.cell?_alloc_at _ _ _ _ rfl];rfl
     have c1:((w.alloc (.cells #[.string s] 9)).alloc (.cells #[.slice a n c,.slice (some ⟨w.heap.size,0,none⟩) 1 1] 22)).cell? ⟨w.heap.size+1,1,none⟩=some (.slice (some ⟨w.heap.size,0,none⟩) 1 1):=by rw[←hs1,World.cell?_alloc_at _ _ _ _ rfl];rfl
     have CT:=Zb (A8 (w.heap.size+1) a ⟨w.heap.size,0,none⟩ n c 1 1 L [s] _ (by omega) ((Za HT).later (Ze hb1 hb2)) ((Dm w s).later hb2) (Za HS).2.2 c0 c1)
     have HB:=Zb (Ze hb1 hb2)
     have hzz:=Zb hzl
     clear q hn2 p0 h2 A hb1 hb2 hs1 c0 c1 hzl
     go_wp2_with fail
     refine (Za CT).mono ?_
     rintro e w2 ⟨a',cap',rfl,t1,t2,t3,hb2⟩
     have T3:Hid (∀ y,a'=some y→w.heap.size≤y.block):=fun y e=>Nat.le_trans (Za HB).size (t3 y e)
     have HB2:=Zb (Ze (Za HB) hb2)
     have T1:=Zb t1
     have T2:=Zb t2
     clear t1 t2 t3 hb2
     go_wp2
     go_ret3
     refine⟨⟨a',n+1,cap',?_,Za T1,Za T2,Or.inr (Za T3)⟩,Za HB2⟩
     rw[Za hzz];rfl
end Go.Proofs.YtpikejjiignchaaGreatDoor.Bk
