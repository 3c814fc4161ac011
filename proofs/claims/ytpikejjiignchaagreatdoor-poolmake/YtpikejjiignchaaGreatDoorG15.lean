import Derived.Test.YtpikejjiignchaaGreatDoorG14
set_option maxHeartbeats 12800000
set_option maxRecDepth 10000
namespace Go.Proofs.YtpikejjiignchaaGreatDoor
open Go.RowKit
theorem Zl(w:World)(a b c:Value)(t:TypeId):(w.alloc (.cells #[a,b,c] t)).heap[w.heap.size]? = some (.cells [a,b,c].toArray t (0,0)):=heap_alloc_new w _
def Spent(w0 w':World)(p ni:Nat)(K:List CV)(S M:List Zg)(a':Option Addr)(n' c':Nat):Prop:=
 ∃ (v':Value) (K' T:List CV),T.map (·.1)=S∧K'.map (·.1)=M∧Srt M∧K'.length≤K.length∧n'=T.length∧T.length=ni∧w'.ownsRow w0.heap.size 103 6 (.slice a' n' c') n' (Zj T)∧(∀ z∈T,LkAt w0 z)∧(∀ z∈K',z∈K)∧(∀ z∈T,z∈K)∧Pu w0 w' p v' K'∧(∃ s,(Value.slice a' n' c').ownBlock=some s∧v'.ownBlock≠some s∧s≠p)
theorem Zbt(w0 w:World)(p:Nat)(v:Value)(K:List CV)(ai:Option Addr)(ni ci:Nat)(I:List InD)(h:Int)(x:Int)(S M:List Zg)(hP:Pu w0 w p v K)(hs:Srt (K.map (·.1)))(hn:K.length≤4096)(hr:∀ z∈K,ck1 z.1=0)(hI:InsAt w0 ai ni I)(hni:ni≤6)(hx:Zm h I [] (K.map (·.1))=(x,S,M)) :
  Calls Tryz.prog 141 #[.pointer (some ⟨p,0,none⟩),.slice ai ni ci,.int .i64 h] w fun e w'=>∃ a' n' c',e = .returned (.tuple #[.slice a' n' c',.int .i64 x])∧Below w0.heap.size w0 w' ∧
   (x=0→Spent w0 w' p ni K S M a' n' c'):=by
 obtain⟨i0,hi0,hz0,hz1,hz2⟩:=info_parts Tryz.infoCoin
 have hB:w0.heap.size≤w.heap.size:=hP.bel.size
 have hpw:p<w.heap.size:=hP.lt
 have HP:=Zb hP
 have HS:=Zb hs
 have HR:=Zb hr
 have HI:=Zb hI
 have HZ:=Zb hI.1
 have HX:=Zb hx
 clear hP hs hr hI hx
 go_enter Tryz.func141,Tryz.ntmps141
 go_wp2_with (at_make;refine wpList_make_full _ rfl _ _ 29 rfl w0.heap.size 103 i0 zeroC 6 Tryz.underlying29 hi0 hz0 hz1 .i64 .i64 _ _ ni rfl rfl rfl rfl (by rw[hz2];omega) (by unfold maxLen;omega) hB ?_;intro w2 hown2 hgrow2)
 rw[Zab] at hown2
 have hbw2:Below w.heap.size w w2:=(Below.refl _ _).grown hgrow2 (Nat.le_refl _) (fun k h=>by cases h)
 have hs2:w.heap.size<w2.heap.size:=(hown2.lt w.heap.size rfl).2
 have ST:Hid (Pu w0 w2 p v K∧w2.ownsRow w0.heap.size 103 6 (.slice (some ⟨w.heap.size,0,none⟩) ni ni) ni (Zj ([]++List.replicate (ni - 0) Ub))∧v.ownBlock≠some w.heap.size):=
  ⟨(Za HP).kept hbw2,hown2,fun e=>by have:=((Za HP).own.lt _ e).2;omega⟩
 clear hown2 hgrow2 hbw2
 go_loopw [20] (fun i wr=>∃ (k:Nat) (T K':List CV) (v':Value),k≤ni∧i = .int .i64 k∧Hid (Zm h I [] (K.map (·.1))=Zm h (I.drop k) (T.map (·.1)) (K'.map (·.1)))∧Hid (Srt (K'.map (·.1)))∧K'.length≤K.length∧Hid (T.length=k)∧Hid ((∀ z∈K',z∈K)∧(∀ z∈T,z∈K)) ∧
  Hid (Pu w0 wr p v' K')∧Hid (wr.ownsRow w0.heap.size 103 6 (.slice (some ⟨w.heap.size,0,none⟩) ni ni) ni (Zj (T++List.replicate (ni - k) Ub)))∧Hid (∀ z∈T,LkAt w0 z)∧Hid (v'.ownBlock≠some w.heap.size)∧w.heap.size<wr.heap.size) (fun i _=>ni - (intOf i).toNat)
 case atStart=>exact⟨0,[],K,v,Nat.zero_le _,rfl,rfl,HS,Nat.le_refl _,rfl,⟨fun z hz=>hz,fun z hz=>(by cases hz)⟩,(Za ST).1,(Za ST).2.1,(fun z hz=>(by cases hz):∀ z∈([]:List CV),LkAt w0 z),(Za ST).2.2,hs2⟩
 case round=>
  obtain⟨k,T,K',v',hk,rfl,A,HS',hKl,HT,HSub,HP',HO',HL,HNE,hsr⟩:=hrel
  clear ST HS
  by_cases hlt:k<ni
  ·have hlk:k<I.length:=by rw[Za HZ];exact hlt
   obtain⟨b,off,rfl,hbl,hcell⟩:=(Za HI).2 (by omega)
   have hin0:=hcell k hlk
   have E1:=Zb (Rz h I k hlk (T.map (·.1)) (K'.map (·.1)))
   have E2:=Zb (R0 h I k hlk (T.map (·.1)) (K'.map (·.1)))
   have E3:=Zb (Sp h I k hlk (T.map (·.1)) (K'.map (·.1)))
   have E4:=Zb (Gj h I k hlk (T.map (·.1)) (K'.map (·.1)))
   obtain⟨y,hy⟩:∃ y,I[k]=y:=⟨_,rfl⟩
   rw[hy] at hin0 E1 E2 E3 E4
   obtain⟨y1,y2,key⟩:=y
   obtain⟨g1',g2',ka,kn,kc,g3',g4,_⟩:=hin0
   have g1:=Zc (Za HP').bel g1'
   have g2:=Zc (Za HP').bel g2'
   have g3:=Zc (Za HP').bel g3'
   have HKEY:Hid (OpsAt w0 ka kn key):=g4
   clear g1' g2' g3' g4
   simp only at g1 g2 g3 E1 E2 E3 E4
   obtain⟨X,hX⟩:∃ X,X=wr.alloc (.cells #[.int .i64 y1,.int .i64 y2,.slice ka kn kc] 124):=⟨_,rfl⟩
   have hbX:Below wr.heap.size wr X:=by rw[hX];exact Zf _ _
   have hX1:X.heap[wr.heap.size]? = some (.cells [.int .i64 y1,.int .i64 y2,.slice ka kn kc].toArray 124 (0,0)):=by rw[hX];exact Zl _ _ _ _ _
   have hPX:=(Za HP').kept hbX
   have hOX:=(Gr.of (S:=fun _=>False) hbX).own (Za HO') (fun _ _ q=>q)
   have x0:=Zd hX1 0 _ rfl
   have x1:=Zd hX1 1 _ rfl
   have hxl:wr.heap.size<X.heap.size:=lt_of_block hX1
   have HX1:=Zb hX1
   have HPX:=Zb hPX
   have HOX:=Zb hOX
   have hpr:p<wr.heap.size:=(Za HP').lt
   cases hf:We (y1,y2) (K'.map (·.1)) with
   | false=>
    have C:=Zb (Ad w0 X p v' K' (y1,y2) hPX (Za HS') (by omega) hf)
    have R:Hid (x=7):=by
     have e:=Za A
     rw[(Za E1) (Fu hf),Za HX] at e
     injection e
    clear E1 E2 E3 E4 hbX hX1 hPX hOX hf hy A
    go_wp2_with fail
    rw[←hX]
    clear hX
    go_wp2_with fail
    refine (Za C).mono ?_
    rintro e w3 ⟨rfl,hb3⟩
    have HB3:=Zb (((Za HPX).kept hb3).bel)
    unfold zeroC
    clear hb3
    go_wp2
    go_ret2
    exact⟨_,_,_,by rw[Za R];rfl,Ze (Za HB3) (Zf _ _),fun e=>absurd e (by rw[Za R];decide)⟩
   | true=>
    have C:=Zb (Ac w0 X p v' K' (y1,y2) hPX (Za HS') (by omega) hf)
    clear hbX hX1 hPX hOX hf hy
    go_wp2_with fail
    rw[←hX]
    clear hX
    go_wp2_with fail
    refine (Za C).mono ?_
    rintro e w3 ⟨z,v3,K3,rfl,ht,hzm,hsub,hlen,hP3,hG3,hv3⟩
    have hzK:z∈K:=(Za HSub).1 z hzm
    have hzr:=Yp ((Za HR) z hzK)
    have hzl:=(Za HP').lk z hzm
    have hch1:1≤ch z.1:=hzr.2.2.2.2.2.2.1
    have hch2:ch z.1≤1000:=hzr.2.2.2.2.2.2.2.1
    have hsrt3:=Tx ht (Za HS')
    have hnS:¬PuS p v' wr.heap.size:=by
     rintro (e|e)
     ·omega
     ·have:=((Za HP').own.lt _ e).2;omega
    have hh3:=hG3.heap (Za HX1) hnS
    have hnS2:¬PuS p v' w.heap.size:=by
     rintro (e|e)
     ·omega
     ·exact (Za HNE) e
    have hO3:=hG3.own (Za HOX) (fun q hq=>by cases hq;exact hnS2)
    have E2':=Zb ((Za E2) _ _ ht)
    have E3':=Zb ((Za E3) _ _ ht)
    have E4':=Zb ((Za E4) _ _ ht)
    obtain⟨Y,hY⟩:∃ Y,Y=w3.alloc (.cells #[.int .i64 z.1.1,.int .i64 z.1.2.1,.int .i64 (cv z.1),.slice z.2.1 z.2.2.1 z.2.2.2,.int .i64 (ch z.1),.bool (cr z.1)] 103):=⟨_,rfl⟩
    have hbY:Below w3.heap.size w3 Y:=by rw[hY];exact Zf _ _
    have hY1:Y.heap[w3.heap.size]? = some (.cells (Nn z).toArray 103 (0,0)):=by rw[hY];exact Uc _ _ _ _ _ _ _ _
    have hPY:=hP3.kept hbY
    have hOY:=(Gr.of (S:=fun _=>False) hbY).own hO3 (fun _ _ q=>q)
    have hhY:=(hbY.block _ (lt_of_block hh3)).trans hh3
    have hw3r:wr.heap.size<w3.heap.size:=lt_of_block hh3
    have hyl:w3.heap.size<Y.heap.size:=lt_of_block hY1
    have q2:=Zd hhY 2 _ rfl
    have q3:=Zd hh3 2 _ rfl
    have r3:=Zd hY1 3 _ rfl
    have r4:=Zd hY1 4 _ rfl
    have r5:=Zd hY1 5 _ rfl
    have OP:=Zb (fun bb xx hb hx=>Zcs z.2.1 ka z.2.2.1 z.2.2.2 kn kc (ck z.1) key h bb xx Y (hzl.1.later hPY.bel) ((Za HKEY).later hPY.bel) hb hx)
    by_cases hla:cr z.1=true∧h<ch z.1+2
    ·have R:Hid (x=10):=by
      have e:=Za A
      rw[(Za E2') hla,Za HX] at e
      injection e
     have hc1:cr z.1=true:=hla.1
     have hc2:h<ch z.1+2:=hla.2
     have HBY:=Zb hPY.bel
     rw[hc1] at hY r5
     unfold cnV
     rw[hc1]
     clear E1 E2 E3 E4 E2' E3' E4' A hla C hbY hY1 hPY hOY hhY hP3 hG3 hO3 hh3 ht hsub hsrt3 hzl hzr hnS hnS2 q2 r3 g1 g2 g3 x0 x1
     go_wp2_with fail
     rw[←hY]
     clear hY
     go_wp2
     go_ret2
     exact⟨_,_,_,by rw[Za R];rfl,Za HBY,fun e=>absurd e (by rw[Za R];decide)⟩
    ·have hD:Hid ((cr z.1 && decide (h<ch z.1+2))=false):=by
      show _=_
      rw[Bool.and_eq_false_iff,decide_eq_false_iff_not]
      cases q:cr z.1 with
      | true=>exact .inr fun e=>hla ⟨q,e⟩
      | false=>exact .inl rfl
     obtain⟨bb,hbb⟩:∃ bb,Yw (ck z.1) key h=bb:=⟨_,rfl⟩
     obtain⟨xx,hxx⟩:∃ xx,Ww (ck z.1) key h=xx:=⟨_,rfl⟩
     have OP2:=Zb ((Za OP) bb xx hbb hxx)
     have HPY:=Zb hPY
     have HOY:=Zb hOY
     have HY1:=Zb hY1
     have hv3s:v3.ownBlock≠some w.heap.size:=by rw[hv3];exact Za HNE
     have HV3:=Zb hv3s
     have HS3:=Zb hsrt3
     have HSUB:=Zb hsub
     have HZL:=Zb hzl
     have HZK:=Zb hzK
     have HHY:=Zb hhY
     obtain⟨hd,hdd⟩:∃ hd,ch z.1=hd:=⟨_,rfl⟩
     obtain⟨rr,hrr⟩:∃ rr,cr z.1=rr:=⟨_,rfl⟩
     cases bb with
     | false=>
      have R:Hid (x=8):=by
       have e:=Za A
       rw[(Za E3') hla hbb,Za HX] at e
       injection e
      unfold cnV
      rw[hdd] at hD hY r4 hch1 hch2 ⊢
      rw[hrr] at hD hY r5 ⊢
      clear E1 E2 E3 E4 E2' E3' E4' A hla C hbY hY1 hPY hOY hhY hP3 hG3 hO3 hh3 ht hsub hsrt3 hzl hzr hnS hnS2 g1 g2 g3 x0 x1 OP hbb hxx hv3s hdd hrr
      cases rr with
      | false=>
       clear hD
       go_wp2_with fail
       rw[←hY]
       clear hY
       refine (Za OP2).mono ?_
       rintro e w5 ⟨rfl,hb5⟩
       have HB5:=Zb ((Za HPY).kept hb5).bel
       clear hb5
       go_wp2
       go_ret2
       exact⟨_,_,_,by rw[Za R];rfl,Za HB5,fun e=>absurd e (by rw[Za R];decide)⟩
      | true=>
       have hD2:¬(h<hd+2):=by have:=Za hD;simpa using this
       clear hD
       go_wp2_with fail
       rw[←hY]
       clear hY
       refine (Za OP2).mono ?_
       rintro e w5 ⟨rfl,hb5⟩
       have HB5:=Zb ((Za HPY).kept hb5).bel
       clear hb5
       go_wp2
       go_ret2
       exact⟨_,_,_,by rw[Za R];rfl,Za HB5,fun e=>absurd e (by rw[Za R];decide)⟩
     | true=>
      have hxx0:xx=0:=by rw[←hxx];exact Zct hbb
      subst hxx0
      have A2:Hid (Zm h I [] (K.map (·.1))=Zm h (I.drop (k+1)) ((T++[z]).map (·.1)) (K3.map (·.1))):=by
       show _=_
       rw[Za A,(Za E4') hla hbb,List.map_append];rfl
      have HR':Hid (T++List.replicate (ni - k) Ub=T++Ub :: List.replicate (ni - (k+1)) Ub):=by
       show _=_
       rw[show ni - k=(ni - (k+1))+1 by omega,List.replicate_succ]
      have HLEN:Hid (K3.length≤K.length):=by show _≤_;omega
      have hkI:(k:Int)<(ni:Int):=by omega
      unfold cnV
      rw[hdd] at hD hY r4 hch1 hch2 ⊢
      rw[hrr] at hD hY r5 ⊢
      have HDD:=Zb hdd
      have HRR:=Zb hrr
      clear E1 E2 E3 E4 E2' E3' E4' A hla C hbY hY1 hPY hOY hhY hP3 hG3 hO3 hh3 ht hsub hsrt3 hzl hzr hnS hnS2 g1 g2 g3 x0 x1 OP hbb hxx hv3s hdd hrr
      have TAIL:Hid (∀ w5,Below Y.heap.size Y w5→(w5.cell? ⟨w3.heap.size,0,none⟩=some (.int .i64 z.1.1)∧w5.cell? ⟨w3.heap.size,1,none⟩=some (.int .i64 z.1.2.1)∧w5.cell? ⟨w3.heap.size,2,none⟩=some (.int .i64 (cv z.1))∧w5.cell? ⟨w3.heap.size,3,none⟩=some (.slice z.2.1 z.2.2.1 z.2.2.2)∧w5.cell? ⟨w3.heap.size,4,none⟩=some (.int .i64 hd)∧w5.cell? ⟨w3.heap.size,5,none⟩=some (.bool rr)) ∧
        (∃ u0 u1 u2 u3 u4 u5,w5.cell? ⟨w.heap.size,k*6,none⟩=some u0∧w5.cell? ⟨w.heap.size,k*6+1,none⟩=some u1∧w5.cell? ⟨w.heap.size,k*6+2,none⟩=some u2∧w5.cell? ⟨w.heap.size,k*6+3,none⟩=some u3∧w5.cell? ⟨w.heap.size,k*6+4,none⟩=some u4∧w5.cell? ⟨w.heap.size,k*6+5,none⟩=some u5)∧(∀ j,w5.frozen? ⟨w.heap.size,j,none⟩=false)∧w.heap.size<w5.heap.size ∧
        Hid (∃ (T' K':List CV) (v':Value),Hid (Zm h I [] (K.map (·.1))=Zm h (I.drop (k+1)) (T'.map (·.1)) (K'.map (·.1)))∧Hid (Srt (K'.map (·.1)))∧K'.length≤K.length∧Hid (T'.length=k+1)∧Hid ((∀ z∈K',z∈K)∧(∀ z∈T',z∈K)) ∧
         Hid (Pu w0 ((((((w5.setCell ⟨w.heap.size,k*6,none⟩ (.int .i64 z.1.1)).setCell ⟨w.heap.size,k*6+1,none⟩ (.int .i64 z.1.2.1)).setCell ⟨w.heap.size,k*6+2,none⟩ (.int .i64 (cv z.1))).setCell ⟨w.heap.size,k*6+3,none⟩ (.slice z.2.1 z.2.2.1 z.2.2.2)).setCell ⟨w.heap.size,k*6+4,none⟩ (.int .i64 hd)).setCell ⟨w.heap.size,k*6+5,none⟩ (.bool rr)) p v' K') ∧
         Hid (((((((w5.setCell ⟨w.heap.size,k*6,none⟩ (.int .i64 z.1.1)).setCell ⟨w.heap.size,k*6+1,none⟩ (.int .i64 z.1.2.1)).setCell ⟨w.heap.size,k*6+2,none⟩ (.int .i64 (cv z.1))).setCell ⟨w.heap.size,k*6+3,none⟩ (.slice z.2.1 z.2.2.1 z.2.2.2)).setCell ⟨w.heap.size,k*6+4,none⟩ (.int .i64 hd)).setCell ⟨w.heap.size,k*6+5,none⟩ (.bool rr)).ownsRow w0.heap.size 103 6 (.slice (some ⟨w.heap.size,0,none⟩) ni ni) ni (Zj (T'++List.replicate (ni - (k+1)) Ub)))∧Hid (∀ z∈T',LkAt w0 z)∧Hid (v'.ownBlock≠some w.heap.size) ∧
         w.heap.size<((((((w5.setCell ⟨w.heap.size,k*6,none⟩ (.int .i64 z.1.1)).setCell ⟨w.heap.size,k*6+1,none⟩ (.int .i64 z.1.2.1)).setCell ⟨w.heap.size,k*6+2,none⟩ (.int .i64 (cv z.1))).setCell ⟨w.heap.size,k*6+3,none⟩ (.slice z.2.1 z.2.2.1 z.2.2.2)).setCell ⟨w.heap.size,k*6+4,none⟩ (.int .i64 hd)).setCell ⟨w.heap.size,k*6+5,none⟩ (.bool rr)).heap.size)):=by
       intro w5 hb5
       have hy5:=(hb5.block _ (lt_of_block (Za HY1))).trans (Za HY1)
       have hP5:=(Za HPY).kept hb5
       have hO5:=(Gr.of (S:=fun _=>False) hb5).own (Za HOY) (fun _ _ q=>q)
       rw[Za HR'] at hO5
       have hTk:=Za HT
       have hat:∀ j,j<6→w5.cell? ⟨w.heap.size,k*6+j,none⟩=(Nn Ub)[j]?:=fun j hj=>by
        rw[World.ownsRow.cellAt hO5 _ (by omega),←hTk,Qq _ _ _ j hj]
       refine⟨⟨Zd hy5 0 _ rfl,Zd hy5 1 _ rfl,Zd hy5 2 _ rfl,Zd hy5 3 _ rfl,by rw[←Za HDD];exact Zd hy5 4 _ rfl,by rw[←Za HRR];exact Zd hy5 5 _ rfl⟩,
        ⟨_,_,_,_,_,_,(hat 0 (by decide)).trans rfl,(hat 1 (by decide)).trans rfl,(hat 2 (by decide)).trans rfl,(hat 3 (by decide)).trans rfl,(hat 4 (by decide)).trans rfl,(hat 5 (by decide)).trans rfl⟩,fun j=>hO5.frozenAt j,(hO5.lt _ rfl).2,?_⟩
       have hG:=(Gr.refl w5 (fun q=>q=w.heap.size)).sixAt w.heap.size (k*6) (.inl rfl) (.int .i64 z.1.1) (.int .i64 z.1.2.1) (.int .i64 (cv z.1)) (.slice z.2.1 z.2.2.1 z.2.2.2) (.int .i64 hd) (.bool rr)
       have hO6:=Bs hO5 (k*6) (.int .i64 z.1.1) (.int .i64 z.1.2.1) (.int .i64 (cv z.1)) (.slice z.2.1 z.2.2.1 z.2.2.2) (.int .i64 hd) (.bool rr)
       rw[←Za HDD,←Za HRR] at hO6 hG ⊢
       have hset:=J7 T (List.replicate (ni - (k+1)) Ub) Ub z
       rw[hTk] at hset
       rw[hset] at hO6
       refine⟨T++[z],K3,v3,A2,HS3,Za HLEN,?_,?_,?_,?_,?_,HV3,Nat.lt_of_lt_of_le (hO5.lt _ rfl).2 hG.size⟩
       ·show _=_;rw[List.length_append,hTk];rfl
       ·refine⟨fun q hq=>(Za HSub).1 q ((Za HSUB) q hq),fun q hq=>?_⟩
        rcases List.mem_append.1 hq with hq|hq
        ·exact (Za HSub).2 q hq
        ·rw[List.mem_singleton.1 hq];exact Za HZK
       ·refine⟨hG.below hP5.bel hP5.bel.size (fun q hq=>by rw[hq];exact hB),hP5.ge,hG.heap hP5.box (by omega),hG.own hP5.own (fun q hq e=>(Za HV3) (by rw[hq,e])),hP5.ne,hP5.lk⟩
       ·show World.ownsRow _ _ _ _ _ _ _
        rw[List.append_assoc]
        exact hO6
       ·intro q hq
        rcases List.mem_append.1 hq with hq|hq
        ·exact (Za HL) q hq
        ·rw[List.mem_singleton.1 hq];exact Za HZL
      cases rr with
      | false=>
       clear hD
       go_wp2_with fail
       rw[←hY]
       clear hY
       refine (Za OP2).mono ?_
       rintro e w5 ⟨rfl,hb5⟩
       obtain⟨⟨s0,s1,s2,s3,s4,s5⟩,⟨u0,u1,u2,u3,u4,u5,t0,t1,t2,t3,t4,t5⟩,hfz,hsl5,HEND⟩:=(Za TAIL) w5 hb5
       have z0:=hfz (k*6)
       have z1:=hfz (k*6+1)
       have z2:=hfz (k*6+2)
       have z3:=hfz (k*6+3)
       have z4:=hfz (k*6+4)
       have z5:=hfz (k*6+5)
       have hb5s:=hb5.size
       have m5:w3.heap.size<w5.heap.size:=World.block_lt_of_cell? _ _ s0
       have n1:¬(w3.heap.size=w.heap.size):=by omega
       have n2:¬(w.heap.size=w3.heap.size):=by omega
       clear hb5 hfz TAIL OP2 q2 q3 r3 r4 r5
       go_wp2
       go_roundw
       case rel=>
        obtain⟨T',K',v',f1,f2,f3,f4,f5,f6,f7,f8,f9,f10⟩:=Za HEND
        exact⟨k+1,T',K',v',by omega,by go_num,f1,f2,f3,f4,f5,f6,f7,f8,f9,f10⟩
       case measure=>simp[intOf];omega
      | true=>
       have hD2:¬(h<hd+2):=by have:=Za hD;simpa using this
       clear hD
       go_wp2_with fail
       rw[←hY]
       clear hY
       refine (Za OP2).mono ?_
       rintro e w5 ⟨rfl,hb5⟩
       obtain⟨⟨s0,s1,s2,s3,s4,s5⟩,⟨u0,u1,u2,u3,u4,u5,t0,t1,t2,t3,t4,t5⟩,hfz,hsl5,HEND⟩:=(Za TAIL) w5 hb5
       have z0:=hfz (k*6)
       have z1:=hfz (k*6+1)
       have z2:=hfz (k*6+2)
       have z3:=hfz (k*6+3)
       have z4:=hfz (k*6+4)
       have z5:=hfz (k*6+5)
       have hb5s:=hb5.size
       have m5:w3.heap.size<w5.heap.size:=World.block_lt_of_cell? _ _ s0
       have n1:¬(w3.heap.size=w.heap.size):=by omega
       have n2:¬(w.heap.size=w3.heap.size):=by omega
       clear hb5 hfz TAIL OP2 q2 q3 r3 r4 r5
       go_wp2
       go_roundw
       case rel=>
        obtain⟨T',K',v',f1,f2,f3,f4,f5,f6,f7,f8,f9,f10⟩:=Za HEND
        exact⟨k+1,T',K',v',by omega,by go_num,f1,f2,f3,f4,f5,f6,f7,f8,f9,f10⟩
       case measure=>simp[intOf];omega
  ·have e:k=ni:=by omega
   subst e
   have R:=Za A
   rw[Sq h I k (by rw[Za HZ];exact Nat.le_refl _),Za HX] at R
   have R1:Hid (x=0):=by show _=_;injection R
   have R2:S=T.map (·.1):=by injection R with _ R;injection R
   have R3:M=K'.map (·.1):=by injection R with _ R;injection R
   subst R2 R3
   have HO2:Hid (wr.ownsRow w0.heap.size 103 6 (.slice (some ⟨w.heap.size,0,none⟩) k k) k (Zj T)):=by
    have:=Za HO'
    rw[Nat.sub_self,List.replicate_zero,List.append_nil] at this
    exact this
   clear R A HO'
   go_wp2
   go_ret2
   exact⟨some ⟨w.heap.size,0,none⟩,k,k,by rw[Za R1];rfl,(Za HP').bel,fun _=>⟨v',K',T,rfl,rfl,Za HS',hKl,(Za HT).symm,Za HT,Za HO2,Za HL,(Za HSub).1,(Za HSub).2,Za HP',w.heap.size,rfl,Za HNE,by omega⟩⟩
theorem M5{w w1 w2:World}(h1:Below w.heap.size w w1)(h2:Below w1.heap.size w1 w2):Below w.heap.size w w2:=h1.trans (h2.mono h1.size)
structure FillV(B:Nat)(e:TypeId)(p:Nat)(f:Nat→Value)(w wr:World)(k:Nat):Prop where
 ex:∃ xs:List Value,wr.ownsRow B e 1 (.slice (some ⟨B,0,none⟩) p p) p xs∧∀ j,j<k→xs[j]? = some (f j)
 bel:Below B w wr
theorem FillV.lt{B:Nat}{e:TypeId}{p:Nat}{f:Nat→Value}{w wr:World}{k:Nat}(h:FillV B e p f w wr k):B<wr.heap.size:=by
 obtain⟨_,ho,_⟩:=h.ex
 exact (ho.lt B rfl).2
theorem FillV.old{B:Nat}{e:TypeId}{p:Nat}{f:Nat→Value}{w wr:World}{k:Nat}(h:FillV B e p f w wr k)(hk:k<p):∃ v,wr.cell? ⟨B,k,none⟩=some v:=by
 obtain⟨xs,ho,_⟩:=h.ex
 have hl:xs.length=p:=by simpa using ho.1
 exact⟨xs[k]'(by omega),by rw[ho.cellAt k (by omega)];simp[hl,hk]⟩
theorem FillV.free{B:Nat}{e:TypeId}{p:Nat}{f:Nat→Value}{w wr:World}{k:Nat}(h:FillV B e p f w wr k)(j:Nat):wr.frozen? ⟨B,j,none⟩=false:=by
 obtain⟨xs,ho,_⟩:=h.ex
 exact ho.frozenAt j
theorem FillV.step{B:Nat}{e:TypeId}{p:Nat}{f:Nat→Value}{w wr:World}{k:Nat}(h:FillV B e p f w wr k)(hk:k<p){v:Value}(hv:v=f k):FillV B e p f w (wr.setCell ⟨B,k,none⟩ v) (k+1):=by
 obtain⟨xs,ho,hf⟩:=h.ex
 have hl:xs.length=p:=by simpa using ho.1
 refine⟨⟨xs.set k v,(ho.stored k _).1,fun j hj=>?_⟩,h.bel.setCell (Nat.le_refl _) _⟩
 by_cases e:j=k
 ·subst e;simp[hl,hk,hv]
 ·rw[List.getElem?_set_ne (by omega)];exact hf j (by omega)
theorem FillV.keep{B:Nat}{e:TypeId}{p:Nat}{f:Nat→Value}{w wr w':World}{k:Nat}(h:FillV B e p f w wr k)(hb:Below wr.heap.size wr w'):FillV B e p f w w' k:=by
 obtain⟨xs,ho,hf⟩:=h.ex
 refine⟨⟨xs,?_,hf⟩,h.bel.trans (hb.mono (Nat.le_of_lt h.lt))⟩
 obtain⟨hl,h0|⟨g,cap,cur,hv,hg,hh,r⟩⟩:=ho
 ·exact⟨hl,.inl h0⟩
 ·exact⟨hl,.inr ⟨g,cap,cur,hv,hg,(hb.block g (lt_of_block hh)).trans hh,r⟩⟩
theorem FillV.cells{B:Nat}{e:TypeId}{p:Nat}{f:Nat→Value}{w wr:World}{k:Nat}(h:FillV B e p f w wr k)(hk:k≤p)(i:Nat)(hi:i<k):wr.cell? ⟨B,i,none⟩=some (f i):=by
 obtain⟨xs,ho,hf⟩:=h.ex
 rw[ho.cellAt i (by omega)]
 exact hf i hi
theorem Yx(w:World)(x y z:Value)(t:TypeId):(w.alloc (.cells #[x,y,z] t)).cell? ⟨w.heap.size,0,none⟩=some x∧(w.alloc (.cells #[x,y,z] t)).cell? ⟨w.heap.size,1,none⟩=some y∧(w.alloc (.cells #[x,y,z] t)).cell? ⟨w.heap.size,2,none⟩=some z:=
 ⟨by rw[World.cell?_alloc_at _ _ _ _ rfl];rfl,by rw[World.cell?_alloc_at _ _ _ _ rfl];rfl,by rw[World.cell?_alloc_at _ _ _ _ rfl];rfl⟩
theorem V6(w:World)(x y:Value)(t:TypeId):(w.alloc (.cells #[x,y] t)).cell? ⟨w.heap.size,0,none⟩=some x∧(w.alloc (.cells #[x,y] t)).cell? ⟨w.heap.size,1,none⟩=some y:=
 ⟨by rw[World.cell?_alloc_at _ _ _ _ rfl];rfl,by rw[World.cell?_alloc_at _ _ _ _ rfl];rfl⟩
theorem Hr(a:Option Addr)(len cap:Nat)(l:List (Int×Int))(x:Int)(w:World)(hx:chk l=x)(h:OpsAt w a len l) :
  Calls Tryz.prog 185 #[.slice a len cap] w fun e w'=>e = .returned (.int .i64 x)∧Below w.heap.size w w':=by
 subst hx;exact Ua a len cap l w h
theorem Kv(b off n c:Nat)(L:List InD)(w:World)(hn:n≤6)(hcap:n≤c)(hz:L.length=n)(hlb:b<w.heap.size)(hc:∀ i (h:i<L.length),InAt w b (off+i*3) L[i]) :
  Calls Tryz.prog 156 #[.slice (some ⟨b,off,none⟩) n c] w fun e w'=>e = .returned (.int .i64 (Zz [] L))∧Below w.heap.size w w':=by
 have HC:=Zb hc
 have HZ:=Zb hz
 clear hc hz
 go_enter Tryz.func156,Tryz.ntmps156
 go_wp2
 go_loopw [8] (fun i wr=>∃ k:Nat,k≤n∧i = .int .i64 k∧Hid (Zz [] L=Zz (L.take k) (L.drop k))∧Below w.heap.size w wr) (fun i _=>n - (intOf i).toNat)
 case atStart=>exact⟨0,Nat.zero_le _,rfl,rfl,Below.refl _ _⟩
 case round=>
  obtain⟨k,hk,rfl,A,hb⟩:=hrel
  have HB:=Zb hb
  by_cases hlt:k<n
  ·have hlk:k<L.length:=by rw[Za HZ];exact hlt
   have hin:=InAt.kept _ _ _ _ _ hb ((Za HC) k hlk)
   have IA:Hid (InsAt wr (some ⟨b,off,none⟩) k (L.take k)):=by
    have h0:InsAt wr (some ⟨b,off,none⟩) n L:=⟨Za HZ,fun _=>⟨b,off,rfl,Nat.lt_of_lt_of_le hlb hb.size,fun i hi=>InAt.kept _ _ _ _ _ hb ((Za HC) i hi)⟩⟩
    exact RowsAt.take h0 k hk
   have ST:=Zb (Po L k hlk)
   have SS:=Zb (Pp L k hlk)
   obtain⟨x,hx⟩:∃ x,L[k]=x:=⟨_,rfl⟩
   rw[hx] at hin ST SS
   obtain⟨x1,x2,key⟩:=x
   obtain⟨g1,g2,ka,kn,kc,g3,g4,_⟩:=hin
   simp only at g1 g2 g3 g4
   have hba:=Zf wr (.cells #[.int .i64 x1,.int .i64 x2,.slice ka kn kc] 124)
   obtain⟨n1,n2,n3⟩:=Yx wr (.int .i64 x1) (.int .i64 x2) (.slice ka kn kc) 124
   have HBA:=Zb hba
   have KO:=Zb (g4.later hba)
   have N1:=Zb n1
   have N2:=Zb n2
   have N3:=Zb n3
   clear hb hx g4 hba n1 n2 n3
   cases hp:T8 (x1,x2,key) with
   | false=>
    have C1:=Zb (Qk x1 x2 false _ hp:Calls Tryz.prog 184 _ (wr.alloc (.cells #[.int .i64 x1,.int .i64 x2,.slice ka kn kc] 124)) _)
    have R:Hid (Zz [] L=3):=by
     have e:=Lv (pre:=L.take k) hp
     show _=_
     rw[Za A,(Za ST) (by rw[e];decide),e]
    clear A ST SS hp IA
    go_wp2_with fail
    refine (Za C1).mono ?_
    rintro e w2 ⟨rfl,hb2⟩
    have HB2:=Zb (Ze (Ze (Za HB) (Za HBA)) hb2)
    clear hb2
    go_wp2
    go_ret
    exact⟨by rw[Za R];rfl,Za HB2⟩
   | true=>
    have C1:=Zb (Qk x1 x2 true _ hp:Calls Tryz.prog 184 _ (wr.alloc (.cells #[.int .i64 x1,.int .i64 x2,.slice ka kn kc] 124)) _)
    have HP:=Zb hp
    clear hp
    by_cases hk0:chk key=0
    ·cases ht:(L.take k).any (Wj (x1,x2,key)) with
     | true=>
      have R:Hid (Zz [] L=6):=by
       have e:=Tu (pre:=L.take k) (Za HP) hk0 ht
       show _=_
       rw[Za A,(Za ST) (by rw[e];decide),e]
      have HT:=Zb ht
      have HK:=Zb hk0
      clear A ST SS ht hk0
      go_wp2_with fail
      refine (Za C1).mono ?_
      rintro e w2 ⟨rfl,hb2⟩
      have m3:=Zc hb2 (Za N3)
      have HB2:=Zb hb2
      have HB2':=Zb (Ze (Za HBA) hb2)
      have hs2:wr.heap.size<w2.heap.size:=World.block_lt_of_cell? _ _ m3
      clear hb2
      go_wp2_with fail
      refine (Hr ka kn kc key 0 _ (Za HK) ((Za KO).later (Za HB2))).mono ?_
      rintro e w3 ⟨rfl,hb3⟩
      have HB3:=Zb (Ze (Za HB2') hb3)
      have CT:=Zb (J8 (some ⟨b,off,none⟩) k c (L.take k) (x1,x2,key) wr.heap.size true w3 (by omega) ((Za IA).later (Za HB3)) (Zc hb3 (Zc (Za HB2) (Za N1))) (Zc hb3 (Zc (Za HB2) (Za N2))) (Za HT))
      clear hb3 m3
      go_wp2_with fail
      refine (Za CT).mono ?_
      rintro e w4 ⟨rfl,hb4⟩
      have HB4:=Zb (Ze (Ze (Za HB) (Za HB3)) hb4)
      clear hb4
      go_wp2
      go_ret
      exact⟨by rw[Za R];rfl,Za HB4⟩
     | false=>
      have R:Hid (Zz [] L=Zz (L.take (k+1)) (L.drop (k+1))):=by
       have e:=Lw (pre:=L.take k) (Za HP) hk0 ht
       show _=_
       rw[Za A,(Za SS) e]
      have HT:=Zb ht
      have HK:=Zb hk0
      clear A ST SS ht hk0
      go_wp2_with fail
      refine (Za C1).mono ?_
      rintro e w2 ⟨rfl,hb2⟩
      have m3:=Zc hb2 (Za N3)
      have HB2:=Zb hb2
      have HB2':=Zb (Ze (Za HBA) hb2)
      have hs2:wr.heap.size<w2.heap.size:=World.block_lt_of_cell? _ _ m3
      clear hb2
      go_wp2_with fail
      refine (Hr ka kn kc key 0 _ (Za HK) ((Za KO).later (Za HB2))).mono ?_
      rintro e w3 ⟨rfl,hb3⟩
      have HB3:=Zb (Ze (Za HB2') hb3)
      have CT:=Zb (J8 (some ⟨b,off,none⟩) k c (L.take k) (x1,x2,key) wr.heap.size false w3 (by omega) ((Za IA).later (Za HB3)) (Zc hb3 (Zc (Za HB2) (Za N1))) (Zc hb3 (Zc (Za HB2) (Za N2))) (Za HT))
      clear hb3 m3
      go_wp2_with fail
      refine (Za CT).mono ?_
      rintro e w4 ⟨rfl,hb4⟩
      have HB4:=Zb (Ze (Ze (Za HB) (Za HB3)) hb4)
      clear hb4
      go_wp2
      go_roundw
      case rel=>exact⟨k+1,by omega,by go_num,R,Za HB4⟩
      case measure=>simp[intOf];omega
    ·obtain⟨z,hz⟩:∃ z,chk key=z:=⟨_,rfl⟩
     have R:Hid (Zz [] L=z):=by
      have e:=Hv (pre:=L.take k) (Za HP) hk0
      show _=_
      rw[Za A,(Za ST) (by rw[e];exact hk0),e];exact hz
     have HK:=Zb hz
     rw[hz] at hk0
     have gz:(z != 0)=true:=by simp[hk0]
     clear A ST SS hz hk0 IA
     go_wp2_with fail
     refine (Za C1).mono ?_
     rintro e w2 ⟨rfl,hb2⟩
     have m3:=Zc hb2 (Za N3)
     have HB2:=Zb hb2
     have HB2':=Zb (Ze (Za HBA) hb2)
     have hs2:wr.heap.size<w2.heap.size:=World.block_lt_of_cell? _ _ m3
     clear hb2
     go_wp2_with fail
     refine (Hr ka kn kc key z _ (Za HK) ((Za KO).later (Za HB2))).mono ?_
     rintro e w3 ⟨rfl,hb3⟩
     have HB3:=Zb (Ze (Ze (Za HB) (Za HB2')) hb3)
     clear hb3 m3
     go_wp2
     go_ret
     exact⟨by rw[Za R];rfl,Za HB3⟩
  ·have R:Hid (Zz [] L=0):=by show _=_;rw[Za A,Ht L k (by rw[Za HZ];omega)]
   clear A hb
   go_wp2
   go_ret
   exact⟨by rw[Za R];rfl,Za HB⟩
theorem Kw(a:Option Addr)(c:Nat)(w:World) :
  Calls Tryz.prog 156 #[.slice a 0 c] w fun e w'=>e = .returned (.int .i64 0)∧w=w':=by
 go_enter Tryz.func156,Tryz.ntmps156
 go_wp2
 refine wp_loop_rounds 1 ?_
 rw[rounds_succ]
 go_wp2
 go_ret
 exact⟨rfl,rfl⟩
theorem Pr(a:Option Addr)(n c:Nat)(L:List InD)(x:Int)(w:World)(hn:n≤6)(hs:SlOk a n c)(h:InsAt w a n L)(hx:Zz [] L=x) :
  Calls Tryz.prog 156 #[.slice a n c] w fun e w'=>e = .returned (.int .i64 x)∧Below w.heap.size w w':=by
 subst hx
 obtain⟨hz,hc⟩:=h
 by_cases h0:n=0
 ·subst h0
  have e:L=[]:=List.length_eq_zero_iff.1 hz
  subst e
  exact (Kw a c w).mono fun e w' ⟨q1,q2⟩=>⟨q1,q2 ▸ Below.refl _ _⟩
 ·obtain⟨b,off,rfl,hl,hcell⟩:=hc (by omega)
  exact Kv b off n c L w hn hs.1 hz hl hcell
theorem Tryz.infoInt:(Tryz.prog.info? 3).map (fun i=>(i.zero,i.size,i.bytes))=some (some (.int .i64 0),1,8):=by kernel_rfl
def Cm(L:List Zw)(j:Nat):Value:=.int .i64 ((L.map (·.1)).getD j 0)
theorem Rp{x:Zw}(h:x.1<1):Yo x=3:=by unfold Yo;rw[if_pos h]
theorem Vf{x:Zw}(h:¬x.1<1):Yo x=chk x.2:=by unfold Yo;rw[if_neg h]
theorem Hy(b off n c:Nat)(L:List Zw)(w:World)(hn:n≤6)(hpos:0<n)(hz:L.length=n)(hc:∀ i (h:i<L.length),OutAt w b (off+i*2) L[i]) :
  Calls Tryz.prog 157 #[.slice (some ⟨b,off,none⟩) n c] w fun e w'=>e = .returned (.int .i64 (Zs L))∧Below w.heap.size w w':=by
 obtain⟨i0,hi,hz0,hz1,hz2⟩:=info_parts Tryz.infoInt
 have HC:=Zb hc
 have HZ:=Zb hz
 have HP:=Zb hpos
 clear hc hz hpos
 go_enter Tryz.func157,Tryz.ntmps157
 go_wp2_with (at_make;refine wpList_make_full _ rfl _ _ 25 rfl w.heap.size 3 i0 (.int .i64 0) 1 Tryz.underlying25 hi hz0 hz1 .i64 .i64 _ _ n rfl rfl rfl rfl (by rw[hz2];omega) (by unfold maxLen;omega) (Nat.le_refl _) ?_;intro w2 hown2 hgrow2)
 have hst:FillV w.heap.size 3 n (Cm L) w w2 0:=⟨⟨_,hown2,fun j hj=>absurd hj (by omega)⟩,(Below.refl _ _).grown hgrow2 (Nat.le_refl _) (fun k h=>by cases h)⟩
 have HST:=Zb hst
 clear hst hown2 hgrow2
 go_loopw [14] (fun i wr=>∃ k:Nat,k≤n∧i = .int .i64 k∧Hid (Zx L=Zx (L.drop k))∧FillV w.heap.size 3 n (Cm L) w wr k) (fun i _=>n - (intOf i).toNat)
 case atStart=>exact⟨0,Nat.zero_le _,rfl,rfl,Za HST⟩
 case round=>
  obtain⟨k,hk,rfl,A,hfl⟩:=hrel
  have HF:=Zb hfl
  have hb:Below w.heap.size w wr:=hfl.bel
  have HB:=Zb hb
  by_cases hlt:k<n
  ·have hlk:k<L.length:=by rw[Za HZ];exact hlt
   have hin:=OutAt.kept _ _ _ _ _ hb ((Za HC) k hlk)
   have ST:=Zb (Qu L k hlk)
   have SS:=Zb (Qv L k hlk)
   have hcv:Cm L k = .int .i64 (L[k]).1:=by unfold Cm;simp[hlk]
   obtain⟨x,hx⟩:∃ x,L[k]=x:=⟨_,rfl⟩
   rw[hx] at hin ST SS hcv
   have HCV:=Zb hcv
   obtain⟨x1,key⟩:=x
   obtain⟨g1,ka,kn,kc,g3,g4,_⟩:=hin
   simp only at g1 g3 g4
   have hba:=Zf wr (.cells #[.int .i64 x1,.slice ka kn kc] 101)
   obtain⟨n1,n2⟩:=V6 wr (.int .i64 x1) (.slice ka kn kc) 101
   have HBA:=Zb hba
   have KO:=Zb (g4.later hba)
   have N1:=Zb n1
   have N2:=Zb n2
   clear hb hx g4 hba n1 n2 hfl hcv
   by_cases hlo:x1<1
   ·have R:Hid (Zs L=3):=by
     have e:Yo (x1,key)=3:=Rp hlo
     have e2:Zx L=3:=by rw[Za A,(Za ST) (by rw[e];decide),e]
     show _=_
     unfold Zs;rw[e2];rfl
    have HB2:=Zb (Ze (Za HB) (Za HBA))
    clear A ST SS
    go_wp2
    go_ret
    exact⟨by rw[Za R];rfl,Za HB2⟩
   ·by_cases hk0:chk key=0
    ·have R:Hid (Zx L=Zx (L.drop (k+1))):=by
      have e:Yo (x1,key)=0:=by rw[Vf hlo];exact hk0
      show _=_
      rw[Za A,(Za SS) e]
     have HK:=Zb hk0
     clear A ST SS hk0
     go_wp2_with fail
     refine (Hr ka kn kc key 0 _ (Za HK) (Za KO)).mono ?_
     rintro e w3 ⟨rfl,hb3⟩
     have m1:=Zc hb3 (Za N1)
     have hf3:=((Za HF).keep (Za HBA)).keep hb3
     obtain⟨v,hold⟩:=hf3.old hlt
     have hfree:=hf3.free k
     have HF3:=Zb hf3
     have hs3:wr.heap.size<w3.heap.size:=World.block_lt_of_cell? _ _ m1
     clear hb3 hf3
     go_wp2
     go_roundw
     case rel=>exact⟨k+1,by omega,by go_num,R,(Za HF3).step hlt (Za HCV).symm⟩
     case measure=>simp[intOf];omega
    ·obtain⟨z,hz⟩:∃ z,chk key=z:=⟨_,rfl⟩
     have R:Hid (Zs L=z):=by
      have e:Yo (x1,key)=chk key:=Vf hlo
      have e2:Zx L=z:=by rw[Za A,(Za ST) (by rw[e];exact hk0),e];exact hz
      show _=_
      unfold Zs;rw[e2,if_neg (by rw[←hz];exact hk0)]
     have HK:=Zb hz
     rw[hz] at hk0
     have gz:(z != 0)=true:=by simp[hk0]
     clear A ST SS hz hk0
     go_wp2_with fail
     refine (Hr ka kn kc key z _ (Za HK) (Za KO)).mono ?_
     rintro e w3 ⟨rfl,hb3⟩
     have HB3:=Zb (Ze (Ze (Za HB) (Za HBA)) hb3)
     clear hb3
     go_wp2
     go_ret
     exact⟨by rw[Za R];rfl,Za HB3⟩
  ·have e:k=n:=by omega
   subst e
   have R:Hid (Zs L=(sm 0 (L.map (·.1))).2):=by
    show _=_
    unfold Zs;rw[Za A,Jj L k (by rw[Za HZ];exact Nat.le_refl _)];rfl
   have hrow:RowAt wr (some ⟨w.heap.size,0,none⟩) k (L.map (·.1)):=by
    refine⟨by rw[List.length_map];exact Za HZ,by unfold maxLen;omega,fun _=>⟨w.heap.size,0,rfl,fun i hi=>?_⟩⟩
    rw[Nat.zero_add,hfl.cells (Nat.le_refl _) i hi];rfl
   have SM:=Zb (Zev (some ⟨w.heap.size,0,none⟩) k k (L.map (·.1)) wr hrow)
   obtain⟨s,hs⟩:∃ s,sm 0 (L.map (·.1))=s:=⟨_,rfl⟩
   rw[hs] at SM R
   obtain⟨s1,s2⟩:=s
   clear A hb hfl hrow hs hlt hk
   go_wp2_with fail
   refine (Za SM).mono ?_
   rintro e w' ⟨rfl,rfl⟩
   go_wp2
   go_ret
   exact⟨by rw[Za R];rfl,Za HB⟩
theorem My(a:Option Addr)(n c:Nat)(L:List Zw)(x:Int)(w:World)(hn:n≤6)(hpos:0<n)(h:OutsAt w a n L)(hx:Zs L=x) :
  Calls Tryz.prog 157 #[.slice a n c] w fun e w'=>e = .returned (.int .i64 x)∧Below w.heap.size w w':=by
 subst hx
 obtain⟨hz,hc⟩:=h
 obtain⟨b,off,rfl,_,hcell⟩:=hc hpos
 exact Hy b off n c L w hn hpos hz hcell
theorem J5(h:Int)(ai ao:Option Addr)(ni ci no co:Nat)(o:Bool)(w:World)(ho:(if ni=0 then decide (1≤h) && decide (h≤1000) else decide (h=0))=o) :
  Calls Tryz.prog 155 #[.agg #[.int .i64 h,.slice ai ni ci,.slice ao no co]] w fun e w'=>e = .returned (.bool o)∧Below w.heap.size w w':=by
 have HB:=Zb (Zf w (.cells #[.int .i64 h,.slice ai ni ci,.slice ao no co] 52))
 by_cases h0:ni=0
 ·subst h0
  rw[if_pos rfl] at ho
  have C:Hid (∀ w,Calls Tryz.prog 114 #[.int .i64 h,.int .i64 1,.int .i64 1000] w fun e w'=>e = .returned (.bool o)∧w=w'):=fun w=>Yq h 1 1000 o w ho.symm
  clear ho
  go_enter Tryz.func155,Tryz.ntmps155
  go_wp2_with fail
  refine ((Za C) _).mono ?_
  rintro e w' ⟨rfl,rfl⟩
  go_wp2
  go_ret
  exact⟨rfl,Za HB⟩
 ·rw[if_neg h0] at ho
  have g:((ni:Int) == 0)=false:=by simp;omega
  by_cases hh:h=0
  ·rw[decide_eq_true hh] at ho
   subst ho hh
   go_enter Tryz.func155,Tryz.ntmps155
   go_wp2
   go_ret
   exact⟨rfl,Za HB⟩
  ·rw[decide_eq_false hh] at ho
   subst ho
   have g2:(h == 0)=false:=by simp[hh]
   go_enter Tryz.func155,Tryz.ntmps155
   go_wp2
   go_ret
   exact⟨rfl,Za HB⟩
theorem Gc(h:Int)(I:List InD)(O:List Zw)(ni:Nat)(hz:I.length=ni):Hf (h,I,O)=if ni=0 then decide (1≤h) && decide (h≤1000) else decide (h=0):=by
 unfold Hf;simp only[hz]
theorem Un(h:Int)(ai ao:Option Addr)(ni ci no co:Nat)(I:List InD)(O:List Zw)(w:World)(hI:InsAt w ai ni I)(hO:OutsAt w ao no O)(sI:SlOk ai ni ci) :
  Calls Tryz.prog 116 #[.agg #[.int .i64 h,.slice ai ni ci,.slice ao no co]] w fun e w'=>e = .returned (.int .i64 (Zo (h,I,O)))∧Below w.heap.size w w':=by
 have hb:=Zf w (.cells #[.int .i64 h,.slice ai ni ci,.slice ao no co] 52)
 obtain⟨n0,n1,n2⟩:=Yx w (.int .i64 h) (.slice ai ni ci) (.slice ao no co) 52
 have HB:=Zb hb
 have N0:=Zb n0
 have N1:=Zb n1
 have N2:=Zb n2
 have HI:=Zb (hI.later hb)
 have HO:=Zb (hO.later hb)
 have HS:=Zb sI
 have zi:=hI.1
 have zo:=hO.1
 clear hb n0 n1 n2 hI hO sI
 by_cases h1:6<ni
 ·have e:Zo (h,I,O)=2:=by unfold Zo;rw[if_pos (Or.inl (by show 6<I.length;omega))]
  rw[e]
  have g:(6:Int)<(ni:Int):=by omega
  clear e h1 zi zo
  go_enter Tryz.func116,Tryz.ntmps116
  go_wp2
  go_ret
  exact⟨rfl,Za HB⟩
 ·by_cases h2:6<no
  ·have e:Zo (h,I,O)=2:=by unfold Zo;rw[if_pos (Or.inr (by show 6<O.length;omega))]
   rw[e]
   have g:¬(6:Int)<(ni:Int):=by omega
   have g':(6:Int)<(no:Int):=by omega
   clear e h1 h2 zi zo
   go_enter Tryz.func116,Tryz.ntmps116
   go_wp2
   go_ret
   exact⟨rfl,Za HB⟩
  ·have g:¬(6:Int)<(ni:Int):=by omega
   have g':¬(6:Int)<(no:Int):=by omega
   have e1:¬(6<I.length∨6<O.length):=by omega
   by_cases h3:no=0
   ·have e:Zo (h,I,O)=4:=by unfold Zo;rw[if_neg e1,if_pos (by show O.length=0;omega)]
    rw[e]
    subst h3
    clear e e1 h1 h2 zi zo
    go_enter Tryz.func116,Tryz.ntmps116
    go_wp2
    go_ret
    exact⟨rfl,Za HB⟩
   ·have g3:((no:Int) == 0)=false:=by simp;omega
    have e3:¬O.length=0:=by omega
    cases hf:Hf (h,I,O) with
    | false=>
     have e:Zo (h,I,O)=3:=by unfold Zo;rw[if_neg e1,if_neg e3,if_pos hf]
     rw[e]
     have C:=Zb (J5 h ai ao ni ci no co false (w.alloc (.cells #[.int .i64 h,.slice ai ni ci,.slice ao no co] 52)) (by rw[←Gc h I O ni zi];exact hf))
     clear e e1 e3 h1 h2 h3 zi zo hf
     go_enter Tryz.func116,Tryz.ntmps116
     go_wp2_with fail
     refine (Za C).mono ?_
     rintro e w2 ⟨rfl,hb2⟩
     have HB2:=Zb (Ze (Za HB) hb2)
     clear hb2
     go_wp2
     go_ret
     exact⟨rfl,Za HB2⟩
    | true=>
     have C:=Zb (J5 h ai ao ni ci no co true (w.alloc (.cells #[.int .i64 h,.slice ai ni ci,.slice ao no co] 52)) (by rw[←Gc h I O ni zi];exact hf))
     have e4:¬Hf (h,I,O)=false:=by rw[hf];decide
     by_cases h5:Zz [] I=0
     ·obtain⟨z,hz⟩:∃ z,Zs O=z:=⟨_,rfl⟩
      have e:Zo (h,I,O)=z:=by
       unfold Zo;rw[if_neg e1,if_neg e3,if_neg e4,if_neg (by intro q;exact q h5)];exact hz
      rw[e]
      have H5:=Zb h5
      have HZ:=Zb hz
      have H6i:Hid (ni≤6):=by show _≤_;omega
      have H6o:Hid (no≤6∧0<no):=⟨by omega,by omega⟩
      clear e e1 e3 e4 h1 h2 h3 zi zo hf h5 hz
      go_enter Tryz.func116,Tryz.ntmps116
      go_wp2_with fail
      refine (Za C).mono ?_
      rintro e w2 ⟨rfl,hb2⟩
      have m1:=Zc hb2 (Za N1)
      have M2:=Zb (Zc hb2 (Za N2))
      have hs2:w.heap.size<w2.heap.size:=World.block_lt_of_cell? _ _ m1
      have CI:=Zb (Pr ai ni ci I 0 w2 (Za H6i) (Za HS) ((Za HI).later hb2) (Za H5))
      have HB2:=Zb hb2
      clear hb2
      go_wp2_with fail
      refine (Za CI).mono ?_
      rintro e w3 ⟨rfl,hb3⟩
      have m2:=Zc hb3 (Za M2)
      have hs3:w.heap.size<w3.heap.size:=World.block_lt_of_cell? _ _ m2
      have CO:=Zb (My ao no co O z w3 (Za H6o).1 (Za H6o).2 (((Za HO).later (Za HB2)).later hb3) (Za HZ))
      have HB3:=Zb (Ze (Ze (Za HB) (Za HB2)) hb3)
      clear hb3 m1 hs2
      go_wp2_with fail
      refine (Za CO).mono ?_
      rintro e w4 ⟨rfl,hb4⟩
      have HB4:=Zb (Ze (Za HB3) hb4)
      clear hb4
      go_wp2
      go_ret
      exact⟨rfl,Za HB4⟩
     ·obtain⟨z,hz⟩:∃ z,Zz [] I=z:=⟨_,rfl⟩
      have e:Zo (h,I,O)=z:=by
       unfold Zo;rw[if_neg e1,if_neg e3,if_neg e4,if_pos h5];exact hz
      rw[e]
      have HZ:=Zb hz
      rw[hz] at h5
      have gz:(z != 0)=true:=by simp[h5]
      have H6i:Hid (ni≤6):=by show _≤_;omega
      clear e e1 e3 e4 h1 h2 h3 zi zo hf h5 hz
      go_enter Tryz.func116,Tryz.ntmps116
      go_wp2_with fail
      refine (Za C).mono ?_
      rintro e w2 ⟨rfl,hb2⟩
      have m1:=Zc hb2 (Za N1)
      have hs2:w.heap.size<w2.heap.size:=World.block_lt_of_cell? _ _ m1
      have CI:=Zb (Pr ai ni ci I z w2 (Za H6i) (Za HS) ((Za HI).later hb2) (Za HZ))
      have HB2:=Zb hb2
      clear hb2
      go_wp2_with fail
      refine (Za CI).mono ?_
      rintro e w3 ⟨rfl,hb3⟩
      have HB3:=Zb (Ze (Ze (Za HB) (Za HB2)) hb3)
      clear hb3
      go_wp2
      go_ret
      exact⟨rfl,Za HB3⟩
end Go.Proofs.YtpikejjiignchaaGreatDoor
