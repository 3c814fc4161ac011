/- The contract of spend. -/
import Derived.Test.YtmomfkikogbdeaaGreatDoorLockRunCToCoinSpend
import Derived.Test.YtmomfkikogbdeaaGreatDoorCoinTakeToBlkHead
import Derived.Test.YtmomfkikogbdeaaGreatDoorLockMathToTxSum
set_option maxHeartbeats 12800000
set_option maxRecDepth 10000
namespace Go.Proofs.YtmomfkikogbdeaaGreatDoor
open Go.RowKit
theorem Zm(w:World)(a b c:Value)(t:TypeId):(w.alloc (.cells #[a,b,c] t)).heap[w.heap.size]? = some (.cells [a,b,c].toArray t (0,0)):=heap_alloc_new w _
def Spent(w0 w':World)(p ni:Nat)(K:List CV)(S M:List Zd)(a':Option Addr)(n' c':Nat):Prop:=
 ∃ (v':Value) (K' T:List CV),T.map (·.1)=S∧K'.map (·.1)=M∧Srt M∧K'.length≤K.length∧n'=T.length∧T.length=ni∧w'.ownsRow w0.heap.size 124 6 (.slice a' n' c') n' (Zh T)∧(∀ z∈T,LkAt w0 z)∧(∀ z∈K',z∈K)∧(∀ z∈T,z∈K)∧Pu w0 w' p v' K'∧(∃ s,(Value.slice a' n' c').ownBlock=some s∧v'.ownBlock≠some s∧s≠p)
theorem Am(w0 w:World)(p:Nat)(v:Value)(K:List CV)(ai:Option Addr)(ni ci:Nat)(I:List InD)(h:Int)(x:Int)(S M:List Zd)(hP:Pu w0 w p v K)(hs:Srt (K.map (·.1)))(hn:K.length≤4096)(hr:∀ z∈K,ck1 z.1=0)(hI:InsAt w0 ai ni I)(hni:ni≤6)(hx:Zk h I [] (K.map (·.1))=(x,S,M)) :
  Calls Tryz.prog 146 #[.pointer (some ⟨p,0,none⟩),.slice ai ni ci,.int .i64 h] w fun e w'=>∃ a' n' c',e = .returned (.tuple #[.slice a' n' c',.int .i64 x])∧Below w0.heap.size w0 w' ∧
   (x=0→Spent w0 w' p ni K S M a' n' c'):=by
 obtain⟨i0,hi0,hz0,hz1,hz2⟩:=info_parts Tryz.infoCoin
 have hB:w0.heap.size≤w.heap.size:=hP.bel.size
 have hpw:p<w.heap.size:=hP.lt
 have HP:=hide hP
 have HS:=hide hs
 have HR:=hide hr
 have HI:=hide hI
 have HZ:=hide hI.1
 have HX:=hide hx
 clear hP hs hr hI hx
 go_enter Tryz.func146,Tryz.ntmps146
 go_wp2_with (at_make;refine wpList_make_full _ rfl _ _ 29 rfl w0.heap.size 124 i0 zeroC 6 Tryz.underlying29 hi0 hz0 hz1 .i64 .i64 _ _ ni rfl rfl rfl rfl (by rw[hz2];omega) (by unfold maxLen;omega) hB ?_;intro w2 hown2 hgrow2)
 rw[Ff] at hown2
 have hbw2:Below w.heap.size w w2:=(Below.refl _ _).grown hgrow2 (Nat.le_refl _) (fun k h=>by cases h)
 have hs2:w.heap.size<w2.heap.size:=(hown2.lt w.heap.size rfl).2
 have ST:Hid (Pu w0 w2 p v K∧w2.ownsRow w0.heap.size 124 6 (.slice (some ⟨w.heap.size,0,none⟩) ni ni) ni (Zh ([]++List.replicate (ni - 0) Ws))∧v.ownBlock≠some w.heap.size):=
  ⟨(unhide HP).kept hbw2,hown2,fun e=>by have:=((unhide HP).own.lt _ e).2;omega⟩
 clear hown2 hgrow2 hbw2
 go_loopw [20] (fun i wr=>∃ (k:Nat) (T K':List CV) (v':Value),k≤ni∧i = .int .i64 k∧Hid (Zk h I [] (K.map (·.1))=Zk h (I.drop k) (T.map (·.1)) (K'.map (·.1)))∧Hid (Srt (K'.map (·.1)))∧K'.length≤K.length∧Hid (T.length=k)∧Hid ((∀ z∈K',z∈K)∧(∀ z∈T,z∈K)) ∧
  Hid (Pu w0 wr p v' K')∧Hid (wr.ownsRow w0.heap.size 124 6 (.slice (some ⟨w.heap.size,0,none⟩) ni ni) ni (Zh (T++List.replicate (ni - k) Ws)))∧Hid (∀ z∈T,LkAt w0 z)∧Hid (v'.ownBlock≠some w.heap.size)∧w.heap.size<wr.heap.size) (fun i _=>ni - (intOf i).toNat)
 case atStart=>exact⟨0,[],K,v,Nat.zero_le _,rfl,rfl,HS,Nat.le_refl _,rfl,⟨fun z hz=>hz,fun z hz=>(by cases hz)⟩,(unhide ST).1,(unhide ST).2.1,(fun z hz=>(by cases hz):∀ z∈([]:List CV),LkAt w0 z),(unhide ST).2.2,hs2⟩
 case round=>
  obtain⟨k,T,K',v',hk,rfl,A,HS',hKl,HT,HSub,HP',HO',HL,HNE,hsr⟩:=hrel
  clear ST HS
  by_cases hlt:k<ni
  ·have hlk:k<I.length:=by rw[unhide HZ];exact hlt
   obtain⟨b,off,rfl,hbl,hcell⟩:=(unhide HI).2 (by omega)
   have hin0:=hcell k hlk
   have E1:=hide (Gf h I k hlk (T.map (·.1)) (K'.map (·.1)))
   have E2:=hide (Gg h I k hlk (T.map (·.1)) (K'.map (·.1)))
   have E3:=hide (Ht h I k hlk (T.map (·.1)) (K'.map (·.1)))
   have E4:=hide (L0 h I k hlk (T.map (·.1)) (K'.map (·.1)))
   obtain⟨y,hy⟩:∃ y,I[k]=y:=⟨_,rfl⟩
   rw[hy] at hin0 E1 E2 E3 E4
   obtain⟨y1,y2,key⟩:=y
   obtain⟨g1',g2',ka,kn,kc,g3',g4,_⟩:=hin0
   have g1:=cell_later (unhide HP').bel g1'
   have g2:=cell_later (unhide HP').bel g2'
   have g3:=cell_later (unhide HP').bel g3'
   have HKEY:Hid (OpsAt w0 ka kn key):=g4
   clear g1' g2' g3' g4
   simp only at g1 g2 g3 E1 E2 E3 E4
   obtain⟨X,hX⟩:∃ X,X=wr.alloc (.cells #[.int .i64 y1,.int .i64 y2,.slice ka kn kc] 119):=⟨_,rfl⟩
   have hbX:Below wr.heap.size wr X:=by rw[hX];exact bel_new _ _
   have hX1:X.heap[wr.heap.size]? = some (.cells [.int .i64 y1,.int .i64 y2,.slice ka kn kc].toArray 119 (0,0)):=by rw[hX];exact Zm _ _ _ _ _
   have hPX:=(unhide HP').kept hbX
   have hOX:=(Gr.of (S:=fun _=>False) hbX).own (unhide HO') (fun _ _ q=>q)
   have x0:=Za hX1 0 _ rfl
   have x1:=Za hX1 1 _ rfl
   have hxl:wr.heap.size<X.heap.size:=lt_of_block hX1
   have HX1:=hide hX1
   have HPX:=hide hPX
   have HOX:=hide hOX
   have hpr:p<wr.heap.size:=(unhide HP').lt
   cases hf:Xl (y1,y2) (K'.map (·.1)) with
   | false=>
    have C:=hide (L6 w0 X p v' K' (y1,y2) hPX (unhide HS') (by omega) hf)
    have R:Hid (x=7):=by
     have e:=unhide A
     rw[(unhide E1) (Lz hf),unhide HX] at e
     injection e
    clear E1 E2 E3 E4 hbX hX1 hPX hOX hf hy A
    go_wp2_with fail
    rw[←hX]
    clear hX
    go_wp2_with fail
    refine (unhide C).mono ?_
    rintro e w3 ⟨rfl,hb3⟩
    have HB3:=hide (((unhide HPX).kept hb3).bel)
    unfold zeroC
    clear hb3
    go_wp2
    go_ret2
    exact⟨_,_,_,by rw[unhide R];rfl,bel_on (unhide HB3) (bel_new _ _),fun e=>absurd e (by rw[unhide R];decide)⟩
   | true=>
    have C:=hide (L5 w0 X p v' K' (y1,y2) hPX (unhide HS') (by omega) hf)
    clear hbX hX1 hPX hOX hf hy
    go_wp2_with fail
    rw[←hX]
    clear hX
    go_wp2_with fail
    refine (unhide C).mono ?_
    rintro e w3 ⟨z,v3,K3,rfl,ht,hzm,hsub,hlen,hP3,hG3,hv3⟩
    have hzK:z∈K:=(unhide HSub).1 z hzm
    have hzr:=Z9 ((unhide HR) z hzK)
    have hzl:=(unhide HP').lk z hzm
    have hch1:1≤ch z.1:=hzr.2.2.2.2.2.2.1
    have hch2:ch z.1≤1000:=hzr.2.2.2.2.2.2.2.1
    have hsrt3:=Dh ht (unhide HS')
    have hnS:¬PuS p v' wr.heap.size:=by
     rintro (e|e)
     ·omega
     ·have:=((unhide HP').own.lt _ e).2;omega
    have hh3:=hG3.heap (unhide HX1) hnS
    have hnS2:¬PuS p v' w.heap.size:=by
     rintro (e|e)
     ·omega
     ·exact (unhide HNE) e
    have hO3:=hG3.own (unhide HOX) (fun q hq=>by cases hq;exact hnS2)
    have E2':=hide ((unhide E2) _ _ ht)
    have E3':=hide ((unhide E3) _ _ ht)
    have E4':=hide ((unhide E4) _ _ ht)
    obtain⟨Y,hY⟩:∃ Y,Y=w3.alloc (.cells #[.int .i64 z.1.1,.int .i64 z.1.2.1,.int .i64 (cv z.1),.slice z.2.1 z.2.2.1 z.2.2.2,.int .i64 (ch z.1),.bool (cr z.1)] 124):=⟨_,rfl⟩
    have hbY:Below w3.heap.size w3 Y:=by rw[hY];exact bel_new _ _
    have hY1:Y.heap[w3.heap.size]? = some (.cells (Hw z).toArray 124 (0,0)):=by rw[hY];exact Xn _ _ _ _ _ _ _ _
    have hPY:=hP3.kept hbY
    have hOY:=(Gr.of (S:=fun _=>False) hbY).own hO3 (fun _ _ q=>q)
    have hhY:=(hbY.block _ (lt_of_block hh3)).trans hh3
    have hw3r:wr.heap.size<w3.heap.size:=lt_of_block hh3
    have hyl:w3.heap.size<Y.heap.size:=lt_of_block hY1
    have q2:=Za hhY 2 _ rfl
    have q3:=Za hh3 2 _ rfl
    have r3:=Za hY1 3 _ rfl
    have r4:=Za hY1 4 _ rfl
    have r5:=Za hY1 5 _ rfl
    have OP:=hide (fun bb xx hb hx=>A6 z.2.1 ka z.2.2.1 z.2.2.2 kn kc (ck z.1) key h bb xx Y (hzl.1.later hPY.bel) ((unhide HKEY).later hPY.bel) hb hx)
    by_cases hla:cr z.1=true∧h<ch z.1+2
    ·have R:Hid (x=10):=by
      have e:=unhide A
      rw[(unhide E2') hla,unhide HX] at e
      injection e
     have hc1:cr z.1=true:=hla.1
     have hc2:h<ch z.1+2:=hla.2
     have HBY:=hide hPY.bel
     rw[hc1] at hY r5
     unfold cnV
     rw[hc1]
     clear E1 E2 E3 E4 E2' E3' E4' A hla C hbY hY1 hPY hOY hhY hP3 hG3 hO3 hh3 ht hsub hsrt3 hzl hzr hnS hnS2 q2 r3 g1 g2 g3 x0 x1
     go_wp2_with fail
     rw[←hY]
     clear hY
     go_wp2
     go_ret2
     exact⟨_,_,_,by rw[unhide R];rfl,unhide HBY,fun e=>absurd e (by rw[unhide R];decide)⟩
    ·have hD:Hid ((cr z.1 && decide (h<ch z.1+2))=false):=by
      show _=_
      rw[Bool.and_eq_false_iff,decide_eq_false_iff_not]
      cases q:cr z.1 with
      | true=>exact .inr fun e=>hla ⟨q,e⟩
      | false=>exact .inl rfl
     obtain⟨bb,hbb⟩:∃ bb,Yk (ck z.1) key h=bb:=⟨_,rfl⟩
     obtain⟨xx,hxx⟩:∃ xx,Xw (ck z.1) key h=xx:=⟨_,rfl⟩
     have OP2:=hide ((unhide OP) bb xx hbb hxx)
     have HPY:=hide hPY
     have HOY:=hide hOY
     have HY1:=hide hY1
     have hv3s:v3.ownBlock≠some w.heap.size:=by rw[hv3];exact unhide HNE
     have HV3:=hide hv3s
     have HS3:=hide hsrt3
     have HSUB:=hide hsub
     have HZL:=hide hzl
     have HZK:=hide hzK
     have HHY:=hide hhY
     obtain⟨hd,hdd⟩:∃ hd,ch z.1=hd:=⟨_,rfl⟩
     obtain⟨rr,hrr⟩:∃ rr,cr z.1=rr:=⟨_,rfl⟩
     cases bb with
     | false=>
      have R:Hid (x=8):=by
       have e:=unhide A
       rw[(unhide E3') hla hbb,unhide HX] at e
       injection e
      unfold cnV
      rw[hdd] at hD hY r4 hch1 hch2 ⊢
      rw[hrr] at hD hY r5 ⊢
      clear E1 E2 E3 E4 E2' E3' E4' A hla C hbY hY1 hPY hOY hhY hP3 hG3 hO3 hh3 ht hsub hsrt3 hzl hzr hnS hnS2 g1 g2 g3 x0 x1 OP hbb hxx hv3s hdd hrr
      cases rr with
      | false=>
       clear hD
       go_wp2_with fail
       rw[←hY]
       clear hY
       refine (unhide OP2).mono ?_
       rintro e w5 ⟨rfl,hb5⟩
       have HB5:=hide ((unhide HPY).kept hb5).bel
       clear hb5
       go_wp2
       go_ret2
       exact⟨_,_,_,by rw[unhide R];rfl,unhide HB5,fun e=>absurd e (by rw[unhide R];decide)⟩
      | true=>
       have hD2:¬(h<hd+2):=by have:=unhide hD;simpa using this
       clear hD
       go_wp2_with fail
       rw[←hY]
       clear hY
       refine (unhide OP2).mono ?_
       rintro e w5 ⟨rfl,hb5⟩
       have HB5:=hide ((unhide HPY).kept hb5).bel
       clear hb5
       go_wp2
       go_ret2
       exact⟨_,_,_,by rw[unhide R];rfl,unhide HB5,fun e=>absurd e (by rw[unhide R];decide)⟩
     | true=>
      have hxx0:xx=0:=by rw[←hxx];exact A7 hbb
      subst hxx0
      have A2:Hid (Zk h I [] (K.map (·.1))=Zk h (I.drop (k+1)) ((T++[z]).map (·.1)) (K3.map (·.1))):=by
       show _=_
       rw[unhide A,(unhide E4') hla hbb,List.map_append];rfl
      have HR':Hid (T++List.replicate (ni - k) Ws=T++Ws :: List.replicate (ni - (k+1)) Ws):=by
       show _=_
       rw[show ni - k=(ni - (k+1))+1 by omega,List.replicate_succ]
      have HLEN:Hid (K3.length≤K.length):=by show _≤_;omega
      have hkI:(k:Int)<(ni:Int):=by omega
      unfold cnV
      rw[hdd] at hD hY r4 hch1 hch2 ⊢
      rw[hrr] at hD hY r5 ⊢
      have HDD:=hide hdd
      have HRR:=hide hrr
      clear E1 E2 E3 E4 E2' E3' E4' A hla C hbY hY1 hPY hOY hhY hP3 hG3 hO3 hh3 ht hsub hsrt3 hzl hzr hnS hnS2 g1 g2 g3 x0 x1 OP hbb hxx hv3s hdd hrr
      have TAIL:Hid (∀ w5,Below Y.heap.size Y w5→(w5.cell? ⟨w3.heap.size,0,none⟩=some (.int .i64 z.1.1)∧w5.cell? ⟨w3.heap.size,1,none⟩=some (.int .i64 z.1.2.1)∧w5.cell? ⟨w3.heap.size,2,none⟩=some (.int .i64 (cv z.1))∧w5.cell? ⟨w3.heap.size,3,none⟩=some (.slice z.2.1 z.2.2.1 z.2.2.2)∧w5.cell? ⟨w3.heap.size,4,none⟩=some (.int .i64 hd)∧w5.cell? ⟨w3.heap.size,5,none⟩=some (.bool rr)) ∧
        (∃ u0 u1 u2 u3 u4 u5,w5.cell? ⟨w.heap.size,k*6,none⟩=some u0∧w5.cell? ⟨w.heap.size,k*6+1,none⟩=some u1∧w5.cell? ⟨w.heap.size,k*6+2,none⟩=some u2∧w5.cell? ⟨w.heap.size,k*6+3,none⟩=some u3∧w5.cell? ⟨w.heap.size,k*6+4,none⟩=some u4∧w5.cell? ⟨w.heap.size,k*6+5,none⟩=some u5)∧(∀ j,w5.frozen? ⟨w.heap.size,j,none⟩=false)∧w.heap.size<w5.heap.size ∧
        Hid (∃ (T' K':List CV) (v':Value),Hid (Zk h I [] (K.map (·.1))=Zk h (I.drop (k+1)) (T'.map (·.1)) (K'.map (·.1)))∧Hid (Srt (K'.map (·.1)))∧K'.length≤K.length∧Hid (T'.length=k+1)∧Hid ((∀ z∈K',z∈K)∧(∀ z∈T',z∈K)) ∧
         Hid (Pu w0 ((((((w5.setCell ⟨w.heap.size,k*6,none⟩ (.int .i64 z.1.1)).setCell ⟨w.heap.size,k*6+1,none⟩ (.int .i64 z.1.2.1)).setCell ⟨w.heap.size,k*6+2,none⟩ (.int .i64 (cv z.1))).setCell ⟨w.heap.size,k*6+3,none⟩ (.slice z.2.1 z.2.2.1 z.2.2.2)).setCell ⟨w.heap.size,k*6+4,none⟩ (.int .i64 hd)).setCell ⟨w.heap.size,k*6+5,none⟩ (.bool rr)) p v' K') ∧
         Hid (((((((w5.setCell ⟨w.heap.size,k*6,none⟩ (.int .i64 z.1.1)).setCell ⟨w.heap.size,k*6+1,none⟩ (.int .i64 z.1.2.1)).setCell ⟨w.heap.size,k*6+2,none⟩ (.int .i64 (cv z.1))).setCell ⟨w.heap.size,k*6+3,none⟩ (.slice z.2.1 z.2.2.1 z.2.2.2)).setCell ⟨w.heap.size,k*6+4,none⟩ (.int .i64 hd)).setCell ⟨w.heap.size,k*6+5,none⟩ (.bool rr)).ownsRow w0.heap.size 124 6 (.slice (some ⟨w.heap.size,0,none⟩) ni ni) ni (Zh (T'++List.replicate (ni - (k+1)) Ws)))∧Hid (∀ z∈T',LkAt w0 z)∧Hid (v'.ownBlock≠some w.heap.size) ∧
         w.heap.size<((((((w5.setCell ⟨w.heap.size,k*6,none⟩ (.int .i64 z.1.1)).setCell ⟨w.heap.size,k*6+1,none⟩ (.int .i64 z.1.2.1)).setCell ⟨w.heap.size,k*6+2,none⟩ (.int .i64 (cv z.1))).setCell ⟨w.heap.size,k*6+3,none⟩ (.slice z.2.1 z.2.2.1 z.2.2.2)).setCell ⟨w.heap.size,k*6+4,none⟩ (.int .i64 hd)).setCell ⟨w.heap.size,k*6+5,none⟩ (.bool rr)).heap.size)):=by
       intro w5 hb5
       have hy5:=(hb5.block _ (lt_of_block (unhide HY1))).trans (unhide HY1)
       have hP5:=(unhide HPY).kept hb5
       have hO5:=(Gr.of (S:=fun _=>False) hb5).own (unhide HOY) (fun _ _ q=>q)
       rw[unhide HR'] at hO5
       have hTk:=unhide HT
       have hat:∀ j,j<6→w5.cell? ⟨w.heap.size,k*6+j,none⟩=(Hw Ws)[j]?:=fun j hj=>by
        rw[World.ownsRow.cellAt hO5 _ (by omega),←hTk,Vt _ _ _ j hj]
       refine⟨⟨Za hy5 0 _ rfl,Za hy5 1 _ rfl,Za hy5 2 _ rfl,Za hy5 3 _ rfl,by rw[←unhide HDD];exact Za hy5 4 _ rfl,by rw[←unhide HRR];exact Za hy5 5 _ rfl⟩,
        ⟨_,_,_,_,_,_,(hat 0 (by decide)).trans rfl,(hat 1 (by decide)).trans rfl,(hat 2 (by decide)).trans rfl,(hat 3 (by decide)).trans rfl,(hat 4 (by decide)).trans rfl,(hat 5 (by decide)).trans rfl⟩,fun j=>hO5.frozenAt j,(hO5.lt _ rfl).2,?_⟩
       have hG:=(Gr.refl w5 (fun q=>q=w.heap.size)).sixAt w.heap.size (k*6) (.inl rfl) (.int .i64 z.1.1) (.int .i64 z.1.2.1) (.int .i64 (cv z.1)) (.slice z.2.1 z.2.2.1 z.2.2.2) (.int .i64 hd) (.bool rr)
       have hO6:=Ni hO5 (k*6) (.int .i64 z.1.1) (.int .i64 z.1.2.1) (.int .i64 (cv z.1)) (.slice z.2.1 z.2.2.1 z.2.2.2) (.int .i64 hd) (.bool rr)
       rw[←unhide HDD,←unhide HRR] at hO6 hG ⊢
       have hset:=Uz T (List.replicate (ni - (k+1)) Ws) Ws z
       rw[hTk] at hset
       rw[hset] at hO6
       refine⟨T++[z],K3,v3,A2,HS3,unhide HLEN,?_,?_,?_,?_,?_,HV3,Nat.lt_of_lt_of_le (hO5.lt _ rfl).2 hG.size⟩
       ·show _=_;rw[List.length_append,hTk];rfl
       ·refine⟨fun q hq=>(unhide HSub).1 q ((unhide HSUB) q hq),fun q hq=>?_⟩
        rcases List.mem_append.1 hq with hq|hq
        ·exact (unhide HSub).2 q hq
        ·rw[List.mem_singleton.1 hq];exact unhide HZK
       ·refine⟨hG.below hP5.bel hP5.bel.size (fun q hq=>by rw[hq];exact hB),hP5.ge,hG.heap hP5.box (by omega),hG.own hP5.own (fun q hq e=>(unhide HV3) (by rw[hq,e])),hP5.ne,hP5.lk⟩
       ·show World.ownsRow _ _ _ _ _ _ _
        rw[List.append_assoc]
        exact hO6
       ·intro q hq
        rcases List.mem_append.1 hq with hq|hq
        ·exact (unhide HL) q hq
        ·rw[List.mem_singleton.1 hq];exact unhide HZL
      cases rr with
      | false=>
       clear hD
       go_wp2_with fail
       rw[←hY]
       clear hY
       refine (unhide OP2).mono ?_
       rintro e w5 ⟨rfl,hb5⟩
       obtain⟨⟨s0,s1,s2,s3,s4,s5⟩,⟨u0,u1,u2,u3,u4,u5,t0,t1,t2,t3,t4,t5⟩,hfz,hsl5,HEND⟩:=(unhide TAIL) w5 hb5
       have z0:=hfz (k*6)
       have z1:=hfz (k*6+1)
       have z2:=hfz (k*6+2)
       have z3:=hfz (k*6+3)
       have z4:=hfz (k*6+4)
       have z5:=hfz (k*6+5)
       have hb5s:=hb5.size
       have m5:w3.heap.size<w5.heap.size:=World.block_lt_of_cell? _ _ s0
       have n1:¬(w3.heap.size=w.heap.size):=by omega
       have n2:¬(w.heap.size=w3.heap.size):=by omega
       clear hb5 hfz TAIL OP2 q2 q3 r3 r4 r5
       go_wp2
       go_roundw
       case rel=>
        obtain⟨T',K',v',f1,f2,f3,f4,f5,f6,f7,f8,f9,f10⟩:=unhide HEND
        exact⟨k+1,T',K',v',by omega,by go_num,f1,f2,f3,f4,f5,f6,f7,f8,f9,f10⟩
       case measure=>simp[intOf];omega
      | true=>
       have hD2:¬(h<hd+2):=by have:=unhide hD;simpa using this
       clear hD
       go_wp2_with fail
       rw[←hY]
       clear hY
       refine (unhide OP2).mono ?_
       rintro e w5 ⟨rfl,hb5⟩
       obtain⟨⟨s0,s1,s2,s3,s4,s5⟩,⟨u0,u1,u2,u3,u4,u5,t0,t1,t2,t3,t4,t5⟩,hfz,hsl5,HEND⟩:=(unhide TAIL) w5 hb5
       have z0:=hfz (k*6)
       have z1:=hfz (k*6+1)
       have z2:=hfz (k*6+2)
       have z3:=hfz (k*6+3)
       have z4:=hfz (k*6+4)
       have z5:=hfz (k*6+5)
       have hb5s:=hb5.size
       have m5:w3.heap.size<w5.heap.size:=World.block_lt_of_cell? _ _ s0
       have n1:¬(w3.heap.size=w.heap.size):=by omega
       have n2:¬(w.heap.size=w3.heap.size):=by omega
       clear hb5 hfz TAIL OP2 q2 q3 r3 r4 r5
       go_wp2
       go_roundw
       case rel=>
        obtain⟨T',K',v',f1,f2,f3,f4,f5,f6,f7,f8,f9,f10⟩:=unhide HEND
        exact⟨k+1,T',K',v',by omega,by go_num,f1,f2,f3,f4,f5,f6,f7,f8,f9,f10⟩
       case measure=>simp[intOf];omega
  ·have e:k=ni:=by omega
   subst e
   have R:=unhide A
   rw[Hu h I k (by rw[unhide HZ];exact Nat.le_refl _),unhide HX] at R
   have R1:Hid (x=0):=by show _=_;injection R
   have R2:S=T.map (·.1):=by injection R with _ R;injection R
   have R3:M=K'.map (·.1):=by injection R with _ R;injection R
   subst R2 R3
   have HO2:Hid (wr.ownsRow w0.heap.size 124 6 (.slice (some ⟨w.heap.size,0,none⟩) k k) k (Zh T)):=by
    have:=unhide HO'
    rw[Nat.sub_self,List.replicate_zero,List.append_nil] at this
    exact this
   clear R A HO'
   go_wp2
   go_ret2
   exact⟨some ⟨w.heap.size,0,none⟩,k,k,by rw[unhide R1];rfl,(unhide HP').bel,fun _=>⟨v',K',T,rfl,rfl,unhide HS',hKl,(unhide HT).symm,unhide HT,unhide HO2,unhide HL,(unhide HSub).1,(unhide HSub).2,unhide HP',w.heap.size,rfl,unhide HNE,by omega⟩⟩
theorem Wn(p h k n:Int)(a:Option Addr)(m c:Nat)(T:List TxD)(x:Int)(w:World)(hT:TxsAt w a m T)(hx:Yg (p,h,k,n,T)=x) :
  Calls Tryz.prog 85 #[.agg #[.int .i64 p,.int .i64 h,.int .i64 k,.int .i64 n,.slice a m c]] w fun e w'=>e = .returned (.int .i64 x)∧Below w.heap.size w w':=by
 subst hx
 obtain⟨X,hX⟩:∃ X,X=w.alloc (.cells #[.int .i64 p,.int .i64 h,.int .i64 k,.int .i64 n,.slice a m c] 39):=⟨_,rfl⟩
 have hbX:Below w.heap.size w X:=by rw[hX];exact bel_new _ _
 have hX1:X.heap[w.heap.size]? = some (.cells [.int .i64 p,.int .i64 h,.int .i64 k,.int .i64 n,.slice a m c].toArray 39 (0,0)):=by rw[hX];exact Zl _ _ _ _ _ _ _
 have HX1:=hide hX1
 have HBX:=hide hbX
 have HT:=hide (hT.later hbX)
 have hz:T.length=m:=hT.1
 unfold Yg
 simp only
 rw[hz]
 clear hbX hX1 hT
 cases q:Xy p h k n with
 | false=>
  have C:=hide (J8 p h k n a m c false X q)
  rw[if_pos rfl]
  clear q hz
  go_enter Tryz.func85,Tryz.ntmps85
  go_wp2_with fail
  rw[←hX]
  clear hX
  refine (unhide C).mono ?_
  rintro e w1 ⟨rfl,hb1⟩
  have HB1:=hide (bel_on (unhide HBX) hb1)
  clear hb1
  go_wp2
  go_ret
  exact⟨rfl,unhide HB1⟩
 | true=>
  have C:=hide (J8 p h k n a m c true X q)
  rw[if_neg (by decide)]
  clear q
  by_cases h4:4<m
  ·rw[if_pos h4]
   clear hz
   go_enter Tryz.func85,Tryz.ntmps85
   go_wp2_with fail
   rw[←hX]
   clear hX
   refine (unhide C).mono ?_
   rintro e w1 ⟨rfl,hb1⟩
   have hx1:=(hb1.block _ (lt_of_block (unhide HX1))).trans (unhide HX1)
   have c4:=Za hx1 4 _ rfl
   have l1:=lt_of_block hx1
   have HB1:=hide (bel_on (unhide HBX) hb1)
   clear hb1 hx1
   go_wp2
   go_ret
   exact⟨rfl,unhide HB1⟩
  ·rw[if_neg h4]
   by_cases h0:m=0
   ·subst h0
    rw[if_pos rfl]
    clear hz h4
    go_enter Tryz.func85,Tryz.ntmps85
    go_wp2_with fail
    rw[←hX]
    clear hX
    refine (unhide C).mono ?_
    rintro e w1 ⟨rfl,hb1⟩
    have hx1:=(hb1.block _ (lt_of_block (unhide HX1))).trans (unhide HX1)
    have c4:=Za hx1 4 _ rfl
    have l1:=lt_of_block hx1
    have HB1:=hide (bel_on (unhide HBX) hb1)
    clear hb1 hx1
    go_wp2
    go_ret
    exact⟨rfl,unhide HB1⟩
   ·rw[if_neg h0]
    have g0:((m:Int) == 0)=false:=by simp[h0]
    have HZ:=hide hz
    obtain⟨b,off,rfl,hbl,hcell⟩:=(unhide HT).2 (by omega)
    have HC:=hide hcell
    clear hz hcell
    go_enter Tryz.func85,Tryz.ntmps85
    go_wp2_with fail
    rw[←hX]
    clear hX
    refine (unhide C).mono ?_
    rintro e w1 ⟨rfl,hb1⟩
    have hx1:=(hb1.block _ (lt_of_block (unhide HX1))).trans (unhide HX1)
    have c4:=Za hx1 4 _ rfl
    have l1:=lt_of_block hx1
    have HX2:=hide hb1
    clear hb1 hx1
    go_wp2
    go_loopw [20] (fun i wr=>∃ k:Nat,k≤m∧i = .int .i64 k∧Hid (Y7 h 0 T=Y7 h k (T.drop k))∧Hid (Below X.heap.size X wr)) (fun i _=>m - (intOf i).toNat)
    case atStart=>exact⟨0,Nat.zero_le _,rfl,rfl,HX2⟩
    case round=>
     obtain⟨j,hj,rfl,A,HBr⟩:=hrel
     clear c4 l1 HX2
     by_cases hlt:j<m
     ·have hlk:j<T.length:=by rw[unhide HZ];exact hlt
      have hin:=TxAt.kept _ _ _ _ _ (unhide HBr) ((unhide HC) j hlk)
      have ST:=hide (Cg h T j hlk)
      obtain⟨t,ht⟩:∃ t,T[j]=t:=⟨_,rfl⟩
      rw[ht] at hin ST
      obtain⟨t1,I,O⟩:=t
      obtain⟨g0',⟨ai,ni,ci,g1,hI,sI⟩,ao,no,co,g2,hO,_⟩:=hin
      have A2:Hid (Y7 h 0 T=if Zp (t1,I,O)≠0 then Zp (t1,I,O) else if Ul (t1,I,O) j h=false then 4 else Y7 h (j+1) (T.drop (j+1))):=by show _=_;rw[unhide A,unhide ST]
      simp only at g0' g1 g2 hI hO
      obtain⟨Y,hY⟩:∃ Y,Y=wr.alloc (.cells #[.int .i64 t1,.slice ai ni ci,.slice ao no co] 59):=⟨_,rfl⟩
      have hbY:Below wr.heap.size wr Y:=by rw[hY];exact bel_new _ _
      have hY1:Y.heap[wr.heap.size]? = some (.cells [.int .i64 t1,.slice ai ni ci,.slice ao no co].toArray 59 (0,0)):=by rw[hY];exact Zm _ _ _ _ _
      have HY1:=hide hY1
      have HBY:=hide (bel_on (unhide HBr) hbY)
      have hhY:=((unhide HBY).block _ (lt_of_block (unhide HX1))).trans (unhide HX1)
      have y0:=Za hY1 0 _ rfl
      have y1:=Za hY1 1 _ rfl
      have y2:=Za hY1 2 _ rfl
      have yl:=lt_of_block hY1
      obtain⟨x,hx⟩:∃ x,Zp (t1,I,O)=x:=⟨_,rfl⟩
      obtain⟨o,ho⟩:∃ o,Ul (t1,I,O) j h=o:=⟨_,rfl⟩
      have CT:=hide (W7 t1 ai ao ni ci no co I O Y (hI.later hbY) (hO.later hbY) sI)
      have CS:=hide (fun W=>Do t1 ai ao ni ci no co I O j h o W hI.1 ho)
      rw[hx] at A2 CT
      rw[ho] at A2
      clear hbY hY1 hhY A ST ht hI hO sI hx ho
      by_cases hx0:x=0
      ·subst hx0
       have A3:Hid (Y7 h 0 T=if o=false then 4 else Y7 h (j+1) (T.drop (j+1))):=by
        have q:=unhide A2
        rw[if_neg (by decide)] at q
        exact q
       clear A2
       go_wp2_with fail
       rw[←hY]
       clear hY
       go_wp2_with fail
       refine (unhide CT).mono ?_
       rintro e w2 ⟨rfl,hb2⟩
       have hy2:=(hb2.block _ (lt_of_block (unhide HY1))).trans (unhide HY1)
       have HB2:=hide (bel_on (unhide HBY) hb2)
       have hh2:=((unhide HB2).block _ (lt_of_block (unhide HX1))).trans (unhide HX1)
       have z0:=Za hy2 0 _ rfl
       have z1:=Za hy2 1 _ rfl
       have z2:=Za hy2 2 _ rfl
       have zl:=lt_of_block hy2
       have k1:=Za hh2 1 _ rfl
       have kl:=lt_of_block hh2
       clear hb2 hy2 hh2 y0 y1 y2 yl g0' g1 g2
       go_wp2_with fail
       refine ((unhide CS) _).mono ?_
       rintro e w3 ⟨rfl,hb3⟩
       have HB3:=hide (bel_on (unhide HB2) hb3)
       clear hb3
       cases o with
       | false=>
        have R:Hid (Y7 h 0 T=4):=by show _=_;rw[unhide A3];rfl
        have HBF:=hide (bel_on (unhide HBX) (unhide HB3))
        clear A3
        go_wp2
        go_ret
        exact⟨by rw[unhide R];rfl,unhide HBF⟩
       | true=>
        have R:Hid (Y7 h 0 T=Y7 h (j+1) (T.drop (j+1))):=by show _=_;rw[unhide A3];rfl
        clear A3
        go_wp2
        go_roundw
        case rel=>exact⟨j+1,by omega,by go_num,R,HB3⟩
        case measure=>simp[intOf];omega
      ·have R:Hid (Y7 h 0 T=x):=by show _=_;rw[unhide A2,if_pos hx0]
       have gx:(x != 0)=true:=by simp[hx0]
       clear A2 hx0
       go_wp2_with fail
       rw[←hY]
       clear hY
       go_wp2_with fail
       refine (unhide CT).mono ?_
       rintro e w2 ⟨rfl,hb2⟩
       have HBF:=hide (bel_on (unhide HBX) (bel_on (unhide HBY) hb2))
       clear hb2
       go_wp2
       go_ret
       exact⟨by rw[unhide R];rfl,unhide HBF⟩
     ·have R:Hid (Y7 h 0 T=0):=by show _=_;rw[unhide A,Ft h T j (by rw[unhide HZ];omega)]
      have HBF:=hide (bel_on (unhide HBX) (unhide HBr))
      clear A
      go_wp2
      go_ret
      exact⟨by rw[unhide R];rfl,unhide HBF⟩
theorem T7:∀ (L pre:List InD),Z3 pre L=0→∀ x∈L,Ri x=true∧chk x.2.2=0
 | [],_,_,x,hx=>by cases hx
 | y :: r,pre,h,x,hx=>by
  unfold Z3 at h
  split at h
  ·rename_i h1
   rcases List.mem_cons.1 hx with rfl|hx
   ·unfold Xe at h1
    split at h1
    ·cases h1
    ·rename_i h2
     split at h1
     ·rename_i h3;exact absurd h1 h3
     ·rename_i h3
      exact⟨by simpa using h2,by simpa using h3⟩
   ·exact T7 r _ h x hx
  ·contradiction
theorem Rd:∀ (L:List Zw),Z4 L=0→∀ x∈L,1≤x.1∧chk x.2=0
 | [],_,x,hx=>by cases hx
 | y :: r,h,x,hx=>by
  unfold Z4 at h
  split at h
  ·rename_i h1
   rcases List.mem_cons.1 hx with rfl|hx
   ·unfold Yp at h1
    split at h1
    ·cases h1
    ·rename_i h2
     exact⟨by omega,h1⟩
   ·exact Rd r h x hx
  ·contradiction
theorem Ao:∀ (Z:List Int) (s:Int),(sm s Z).2=0→∀ z∈Z,0≤z∧z≤1000000000
 | [],_,_,z,hz=>by cases hz
 | y :: r,s,h,z,hz=>by
  unfold sm at h
  split at h
  ·rename_i h1
   split at h
   ·rcases List.mem_cons.1 hz with rfl|hz
    ·exact h1
    ·exact Ao r _ h z hz
   ·cases h
  ·cases h
structure TxOk(t:TxD):Prop where
 ins6:t.2.1.length≤6
 outs6:t.2.2.length≤6
 some:0<t.2.2.length
 hgt:0≤t.1∧t.1≤1000
 fit:Gt t=true
 chkI:Z3 [] t.2.1=0
 ins:∀ x∈t.2.1,Ri x=true∧chk x.2.2=0
 outs:∀ x∈t.2.2,(1≤x.1∧x.1≤1000000000)∧chk x.2=0
theorem TxOk.of{t:TxD}(h:Zp t=0):TxOk t:=by
 unfold Zp at h
 split at h
 ·cases h
 ·rename_i h1
  split at h
  ·cases h
  ·rename_i h2
   split at h
   ·cases h
   ·rename_i h3
    split at h
    ·rename_i h4;exact absurd h h4
    ·rename_i h4
     have h4':Z3 [] t.2.1=0:=by simpa using h4
     have h3':Gt t=true:=by simpa using h3
     unfold Z6 at h
     split at h
     ·rename_i h5
      refine⟨by omega,by omega,by omega,?_,h3',h4',T7 _ _ h4',fun x hx=>?_⟩
      ·unfold Gt at h3'
       split at h3'
       ·simp only[Bool.and_eq_true,decide_eq_true_eq] at h3';omega
       ·have:t.1=0:=by simpa using h3'
        omega
      ·have a:=Rd _ h5 x hx
       have b:=Ao _ _ h x.1 (List.mem_map.2 ⟨x,hx,rfl⟩)
       exact⟨⟨a.1,b.2⟩,a.2⟩
     ·contradiction
theorem Kh(x:InD):Ri x=true↔(1≤x.1∧x.1≤120)∧(0≤x.2.1∧x.2.1≤5):=by
 unfold Ri;simp only[Bool.and_eq_true,decide_eq_true_eq]
end Go.Proofs.YtmomfkikogbdeaaGreatDoor
