import Derived.Test.YtpikejjiignchaaGreatDoorG31
set_option maxHeartbeats 6400000
namespace Go.Proofs.YtpikejjiignchaaGreatDoor
open Go.RowKit
set_option maxRecDepth 10000 in
theorem Zch(h:Int)(ai ao:Option Addr)(ni ci no co:Nat)(I:List InD)(O:List Zw)(z:Int)(w:World)(hI:InsAt w ai ni I)(hO:OutsAt w ao no O)(h6i:ni≤6)(h6o:no≤6)(ho0:0<no)(hn:0<ni)(hh:h=0)(hz:(if Zz [] I≠0 then Zz [] I else Zs O)=z) :
  Calls Tryz.prog 57 #[.agg #[.int .i64 h,.slice ai ni ci,.slice ao no co]] w fun e w'=>e = .returned (.int .i64 z)∧Below w.heap.size w w':=by
 obtain⟨i1,hi1,hy0,hy1,hy2⟩:=info_parts Tryz.infoInt
 have hb:=Zf w (.cells #[.int .i64 h,.slice ai ni ci,.slice ao no co] 52)
 obtain⟨n0,n1,n2⟩:=Yx w (.int .i64 h) (.slice ai ni ci) (.slice ao no co) 52
 obtain⟨W,hW⟩:∃ W,W=w.alloc (.cells #[.int .i64 h,.slice ai ni ci,.slice ao no co] 52):=⟨_,rfl⟩
 rw[←hW] at hb n0 n1 n2
 have HB:=Zb hb
 have HI:=Zb (hI.later hb)
 have HO:=Zb (hO.later hb)
 have N2:=Zb n2
 have q1:¬(6:Int)<(ni:Int):=by omega
 have q2:¬(6:Int)<(no:Int):=by omega
 have q3:((no:Int) == 0)=false:=by simp;omega
 have HZ:=Zb hz
 subst hh
 have g1:(0:Int)<(ni:Int):=by omega
 have g2:((ni:Int) == 0)=false:=by simp;omega
 clear hI hO hz hb
 go_enter Tryz.func57,Tryz.ntmps57
 go_wp2
 rw[←hW]
 clear hW
 obtain⟨i2,hi2,hp0,hp1,hp2⟩:=info_parts Tryz.infoPoint
 have OWNP:Hid (W.ownsRow W.heap.size 99 2 (.slice none 0 0) 0 (flat (Gv (I.take 0)))):=⟨rfl,Or.inl ⟨rfl,rfl⟩⟩
 go_loopw [3,55] (fun v i wr=>∃ k:Nat,k≤ni∧i = .int .i64 k∧Below W.heap.size W wr∧Hid (wr.ownsRow W.heap.size 99 2 v k (flat (Gv (I.take k))))∧Hid (Zz [] I=Zz (I.take k) (I.drop k))) (fun _ i _=>ni - (intOf i).toNat)
 case atStart=>exact⟨0,Nat.zero_le _,rfl,Below.refl _ _,OWNP,rfl⟩
 case round=>
  obtain⟨k,hk,rfl,hb,HOP,A⟩:=hrel
  have HB2:=Zb hb
  by_cases hlt:k<ni
  ·obtain⟨hzI,hcs⟩:=Za HI
   obtain⟨b,off,rfl,hbl,hc⟩:=hcs (by omega)
   have hlk:k<I.length:=by omega
   have hin:=InAt.kept _ _ _ _ _ hb (hc k hlk)
   have ST:=Zb (Po I k hlk)
   have SS:=Zb (Pp I k hlk)
   have TK:=Zb (List.take_succ_eq_append_getElem hlk)
   obtain⟨x,hx⟩:∃ x,I[k]=x:=⟨_,rfl⟩
   rw[hx] at hin ST SS TK
   obtain⟨x1,x2,key⟩:=x
   obtain⟨g1,g2,ka,kn,kc,g3,g4,_⟩:=hin
   simp only at g1 g2 g3 g4
   have hba:=Zf wr (.cells #[.int .i64 x1,.int .i64 x2,.slice ka kn kc] 124)
   obtain⟨m1,m2,m3⟩:=Yx wr (.int .i64 x1) (.int .i64 x2) (.slice ka kn kc) 124
   have KO:=Zb (g4.later hba)
   have M1:=Zb m1
   have M2:=Zb m2
   have HBA:=Zb hba
   have OWNA:=Zb (Y9 (Za HOP) hba)
   have CK:=Zb (Qa ka kn kc key _ (Za KO))
   clear hb hx g4 hc hcs m1 m2 m3 hba
   cases hp:T8 (x1,x2,key) with
   | false=>
    have R:Hid (z=3):=by
     have e:=Lv (pre:=I.take k) hp
     show _=_
     rw[←Za HZ,Za A,(Za ST) (by rw[e];decide),e];rfl
    have HB3:=Zb (Ze (Za HB2) (Za HBA))
    clear A ST SS
    have hp':¬(((1≤x1∧x1≤120)∧0≤x2∧x2≤5)):=fun h=>by
     have:=(Q9 (x1,x2,key)).2 (by simpa using h)
     rw[hp] at this;cases this
    by_cases w1:x1<1
    ·clear hp hp'
     go_wp2
     go_ret
     exact⟨by rw[Za R];rfl,Ze (Za HB) (Za HB3)⟩
    ·by_cases w2:120<x1
     ·clear hp hp'
      go_wp2
      go_ret
      exact⟨by rw[Za R];rfl,Ze (Za HB) (Za HB3)⟩
     ·by_cases w3:x2<0
      ·clear hp hp'
       go_wp2
       go_ret
       exact⟨by rw[Za R];rfl,Ze (Za HB) (Za HB3)⟩
      ·have w4:5<x2:=by omega
       clear hp hp'
       go_wp2
       go_ret
       exact⟨by rw[Za R];rfl,Ze (Za HB) (Za HB3)⟩
   | true=>
    have hp':=(Q9 (x1,x2,key)).1 hp
    simp only at hp'
    have w1:¬x1<1:=by omega
    have w2:¬120<x1:=by omega
    have w3:¬x2<0:=by omega
    have w4:¬5<x2:=by omega
    by_cases hk0:chk key=0
    ·obtain⟨o,ho⟩:∃ o,(I.take k).any (Wj (x1,x2,key))=o:=⟨_,rfl⟩
     rw[hk0] at CK
     have pm:=Zfb (x1,x2,key) (I.take k)
     rw[ho] at pm
     simp only at pm
     have PM:=Zb pm
     have E6:=Zb (fun h=>Tu (pre:=I.take k) hp hk0 (ho.trans h))
     have E0:=Zb (fun h=>Lw (pre:=I.take k) hp hk0 (ho.trans h))
     clear hp hp' pm ho hk0
     obtain⟨av,cv,rfl,-⟩:=G3 (Za HOP)
     go_wp2_with fail
     refine (Za CK).mono ?_
     rintro e w3' ⟨rfl,hb3⟩
     have c1:=Zc hb3 (Za M1)
     have c2:=Zc hb3 (Za M2)
     have hs3:=World.block_lt_of_cell? _ _ c1
     have OWN3:=Zb (Y9 (Za OWNA) hb3)
     have HB3:=Zb (Ze (Ze (Za HB2) (Za HBA)) hb3)
     obtain⟨av',cv',ev,hov⟩:=G3 (Za OWN3)
     cases ev
     have CP:=Zb (Km av k cv (Gv (I.take k)) x1 x2 o w3' (by omega) hov (Za PM))
     have C1:=Zb c1
     have C2:=Zb c2
     clear hb3 hov
     cases o with
     | true=>
      have e6:=(Za E6) rfl
      have R:Hid (z=6):=by
       show _=_
       rw[←Za HZ,Za A,(Za ST) (by rw[e6];decide),e6];rfl
      clear A ST SS E6 E0 e6
      go_wp2_with fail
      refine (Za CP).mono ?_
      rintro e w4' ⟨rfl,hb4⟩
      have HB4:=Zb (Ze (Za HB3) hb4)
      clear hb4
      go_wp2
      go_ret
      exact⟨by rw[Za R];rfl,Ze (Za HB) (Za HB4)⟩
     | false=>
      have R:Hid (Zz [] I=Zz (I.take (k+1)) (I.drop (k+1))):=by
       show _=_
       rw[Za A,(Za SS) ((Za E0) rfl)]
      clear A ST SS E6 E0
      go_wp2_with fail
      refine (Za CP).mono ?_
      rintro e w4' ⟨rfl,hb4⟩
      have d1:=Zc hb4 (Za C1)
      have d2:=Zc hb4 (Za C2)
      have hs4:=World.block_lt_of_cell? _ _ d1
      have hb5:=Zf w4' (.cells #[.int .i64 x1,.int .i64 x2] 99)
      have OWN5:=Zb (Y9 (Y9 (Za OWN3) hb4) hb5)
      have NEWS:=Zb (World.news_of_block (heap_alloc_new w4' (.cells #[.int .i64 x1,.int .i64 x2] 99)))
      have HB5:=Zb (Ze (Ze (Za HB3) hb4) hb5)
      clear hb4 hb5 c1 c2 hs3
      go_wp2_with (at_builtin;refine wpList_append_own _ rfl _ _ 178 rfl W.heap.size 99 i2 (.agg #[.int .i64 0,.int .i64 0]) 2 16 Tryz.underlying178 hi2 hp0 hp1 hp2 rfl (by decide) _ _ _ rfl (Za OWN5) ⟨w4'.heap.size,0,none⟩ 1 1 [.int .i64 x1,.int .i64 x2] rfl rfl (Za NEWS) (fun u hu=>by simp at hu;rcases hu with rfl|rfl <;> rfl) (by unfold maxLen;omega) (by omega) (Za HB5).size ?_;intro v7 w7 hown7 hgrow7 _)
      have OWN7:Hid (w7.ownsRow W.heap.size 99 2 v7 (k+1) (flat (Gv (I.take (k+1))))):=by
       show World.ownsRow _ _ _ _ _ _ _
       rw[Za TK];unfold Gv;rw[List.map_append,Pf];exact hown7
      have HB7:=Zb ((Za HB5).grown hgrow7 (Za HB5).size (Uv (Za OWN5)))
      clear hown7 hgrow7
      go_roundw
      case rel=>exact⟨k+1,by omega,by go_num,Za HB7,OWN7,R⟩
      case measure=>simp[intOf];omega
    ·obtain⟨y,hy⟩:∃ y,chk key=y:=⟨_,rfl⟩
     have R:Hid (z=y):=by
      have e:=Hv (pre:=I.take k) hp hk0
      simp only at e
      show _=_
      rw[←Za HZ,Za A,(Za ST) (by rw[e];exact hk0),e,if_pos hk0];exact hy
     rw[hy] at CK
     rw[hy] at hk0
     have gz:(y != 0)=true:=by simp[hk0]
     clear A ST SS hy hk0 hp hp'
     go_wp2_with fail
     refine (Za CK).mono ?_
     rintro e w3' ⟨rfl,hb3⟩
     have HB3:=Zb (Ze (Ze (Za HB2) (Za HBA)) hb3)
     clear hb3
     go_wp2
     go_ret
     exact⟨by rw[Za R];rfl,Ze (Za HB) (Za HB3)⟩
  ·have e0:Zz [] I=0:=by rw[Za A];exact Ht I k (by rw[(Za HI).1];omega)
   have hz2:Zs O=z:=by
    have:=Za HZ
    rw[if_neg (by rw[e0];simp)] at this;exact this
   clear HZ
   have HZ:=Zb hz2
   have n2':=Zc hb (Za N2)
   have hlw:=World.block_lt_of_cell? _ _ n2'
   have HBX:=HB2
   obtain⟨WX,hWX⟩:∃ WX,WX=wr:=⟨_,rfl⟩
   clear A e0 hz2 hb
   go_wp2
   have OWN0:Hid (wr.ownsRow W.heap.size 3 1 (.slice none 0 0) 0 ((([]:List Int).map (Value.int .i64)))):=⟨rfl,Or.inl ⟨rfl,rfl⟩⟩
   go_loopw [7,100] (fun v i wr=>∃ k:Nat,k≤no∧i = .int .i64 k∧Below W.heap.size W wr∧Hid (wr.ownsRow W.heap.size 3 1 v k (((O.take k).map (·.1)).map (Value.int .i64)))∧Hid (Zx O=Zx (O.drop k))) (fun _ i _=>no - (intOf i).toNat)
   case atStart=>exact⟨0,Nat.zero_le _,rfl,Za HBX,OWN0,rfl⟩
   case round=>
    obtain⟨k,hk2,rfl,hb,HO2,A⟩:=hrel
    have HB2:=Zb hb
    by_cases hlt:k<no
    ·obtain⟨hzO,hcs⟩:=Za HO
     obtain⟨b,off,rfl,hbl,hc⟩:=hcs (by omega)
     have hlk:k<O.length:=by omega
     have hin:=OutAt.kept _ _ _ _ _ hb (hc k hlk)
     have ST:=Zb (Qu O k hlk)
     have SS:=Zb (Qv O k hlk)
     have TK:=Zb (List.take_succ_eq_append_getElem hlk)
     obtain⟨x,hx⟩:∃ x,O[k]=x:=⟨_,rfl⟩
     rw[hx] at hin ST SS TK
     obtain⟨x1,key⟩:=x
     obtain⟨g1,ka,kn,kc,g3,g4,_⟩:=hin
     simp only at g1 g3 g4
     have hba:=Zf wr (.cells #[.int .i64 x1,.slice ka kn kc] 101)
     obtain⟨n1,n2⟩:=V6 wr (.int .i64 x1) (.slice ka kn kc) 101
     have KO:=Zb (g4.later hba)
     have N1b:=Zb n1
     have HBA:=Zb hba
     have OWNA:=Zb (Y9 (Za HO2) hba)
     clear hb hx g4 n1 hc hcs
     by_cases hlo:x1<1
     ·have R:Hid (z=3):=by
       have e:Yo (x1,key)=3:=Rp hlo
       have e2:Zx O=3:=by rw[Za A,(Za ST) (by rw[e];decide),e]
       show _=_
       rw[←Za HZ];unfold Zs;rw[e2];rfl
      have HB3:=Zb (Ze (Za HB2) (Za HBA))
      clear A ST SS hba
      go_wp2
      go_ret
      exact⟨by rw[Za R];rfl,Ze (Za HB) (Za HB3)⟩
     ·have CK:=Zb (Qa ka kn kc key _ (Za KO))
      by_cases hk0:chk key=0
      ·have R:Hid (Zx O=Zx (O.drop (k+1))):=by
        have e:Yo (x1,key)=0:=by rw[Vf hlo];exact hk0
        show _=_
        rw[Za A,(Za SS) e]
       rw[hk0] at CK
       clear A ST SS hk0 hba
       go_wp2_with fail
       refine (Za CK).mono ?_
       rintro e w3 ⟨rfl,hb3⟩
       have m1:=Zc hb3 (Za N1b)
       have hs3:=World.block_lt_of_cell? _ _ m1
       have hb4:=Zf w3 (.cells #[.int .i64 x1] 3)
       have OWN4:=Zb (Y9 (Y9 (Za OWNA) hb3) hb4)
       have NEWS:=Zb (World.news_of_block (heap_alloc_new w3 (.cells #[.int .i64 x1] 3)))
       have HB4:=Zb (Ze (Ze (Ze (Za HB2) (Za HBA)) hb3) hb4)
       clear hb3 hb4
       go_wp2_with (at_builtin;refine wpList_append_own _ rfl _ _ 25 rfl W.heap.size 3 i1 (.int .i64 0) 1 8 Tryz.underlying25 hi1 hy0 hy1 hy2 rfl (by decide) _ _ _ rfl (Za OWN4) ⟨w3.heap.size,0,none⟩ 1 1 [.int .i64 x1] rfl rfl (Za NEWS) (fun u hu=>by simp at hu;subst hu;rfl) (by unfold maxLen;omega) (by omega) (Za HB4).size ?_;intro v7 w7 hown7 hgrow7 _)
       have OWN7:Hid (w7.ownsRow W.heap.size 3 1 v7 (k+1) (((O.take (k+1)).map (·.1)).map (Value.int .i64))):=by
        show World.ownsRow _ _ _ _ _ _ _
        rw[Za TK,List.map_append,List.map_append];exact hown7
       have HB7:=Zb ((Za HB4).grown hgrow7 (Za HB4).size (Uv (Za OWN4)))
       clear hown7 hgrow7
       go_roundw
       case rel=>exact⟨k+1,by omega,by go_num,Za HB7,OWN7,R⟩
       case measure=>simp[intOf];omega
      ·obtain⟨y,hy⟩:∃ y,chk key=y:=⟨_,rfl⟩
       have R:Hid (z=y):=by
        have e:Yo (x1,key)=chk key:=Vf hlo
        have e2:Zx O=y:=by rw[Za A,(Za ST) (by rw[e];exact hk0),e];exact hy
        show _=_
        rw[←Za HZ];unfold Zs;rw[e2,if_neg (by rw[←hy];exact hk0)]
       rw[hy] at CK
       rw[hy] at hk0
       have gz:(y != 0)=true:=by simp[hk0]
       clear A ST SS hy hk0 hba
       go_wp2_with fail
       refine (Za CK).mono ?_
       rintro e w3 ⟨rfl,hb3⟩
       have HB3:=Zb (Ze (Ze (Za HB2) (Za HBA)) hb3)
       clear hb3
       go_wp2
       go_ret
       exact⟨by rw[Za R];rfl,Ze (Za HB) (Za HB3)⟩
    ·have e:k=no:=by omega
     subst e
     have hzO:=(Za HO).1
     have R:Hid (z=(sm 0 (O.map (·.1))).2):=by
      show _=_
      rw[←Za HZ];unfold Zs;rw[Za A,Jj O k (by omega)];rfl
     have ho2:=Za HO2
     rw[List.take_of_length_le (by omega)] at ho2
     obtain⟨av,cv,rfl,hrow⟩:=Su ho2 (by unfold maxLen;omega)
     have SM:=Zb (K9 av k cv (O.map (·.1)) _ hrow)
     obtain⟨s,hs⟩:∃ s,sm 0 (O.map (·.1))=s:=⟨_,rfl⟩
     rw[hs] at SM R
     obtain⟨s1,s2⟩:=s
     clear A hb ho2 hrow hs hlt hk2
     go_wp2_with fail
     refine (Za SM).mono ?_
     rintro e w' ⟨rfl,rfl⟩
     go_wp2
     go_ret
     exact⟨by rw[Za R];rfl,Ze (Za HB) (Za HB2)⟩
theorem R8(h:Int)(ai ao:Option Addr)(ni ci no co:Nat)(I:List InD)(O:List Zw)(w:World)(hI:InsAt w ai ni I)(hO:OutsAt w ao no O) :
  Calls Tryz.prog 57 #[.agg #[.int .i64 h,.slice ai ni ci,.slice ao no co]] w fun e w'=>e = .returned (.int .i64 (Zo (h,I,O)))∧Below w.heap.size w w':=by
 have zi:=hI.1
 have zo:=hO.1
 have HB:=Zb (Zf w (.cells #[.int .i64 h,.slice ai ni ci,.slice ao no co] 52))
 by_cases h1:6<ni
 ·have e:Zo (h,I,O)=2:=by unfold Zo;rw[if_pos (Or.inl (by show 6<I.length;omega))]
  rw[e]
  have g:(6:Int)<(ni:Int):=by omega
  clear e h1 zi zo hI hO
  go_enter Tryz.func57,Tryz.ntmps57
  go_wp2
  go_ret
  exact⟨rfl,Za HB⟩
 ·by_cases h2:6<no
  ·have e:Zo (h,I,O)=2:=by unfold Zo;rw[if_pos (Or.inr (by show 6<O.length;omega))]
   rw[e]
   have g:¬(6:Int)<(ni:Int):=by omega
   have g':(6:Int)<(no:Int):=by omega
   clear e h1 h2 zi zo hI hO
   go_enter Tryz.func57,Tryz.ntmps57
   go_wp2
   go_ret
   exact⟨rfl,Za HB⟩
  ·have g:¬(6:Int)<(ni:Int):=by omega
   have g':¬(6:Int)<(no:Int):=by omega
   have e1:¬(6<I.length∨6<O.length):=by omega
   by_cases h3:no=0
   ·have e:Zo (h,I,O)=4:=by unfold Zo;rw[if_neg e1,if_pos (by show O.length=0;omega)]
    rw[e]
    subst h3
    clear e e1 h1 h2 zi zo hI hO
    go_enter Tryz.func57,Tryz.ntmps57
    go_wp2
    go_ret
    exact⟨rfl,Za HB⟩
   ·have g3:((no:Int) == 0)=false:=by simp;omega
    have e3:¬O.length=0:=by omega
    cases hf:Hf (h,I,O) with
    | false=>
     have e:Zo (h,I,O)=3:=by unfold Zo;rw[if_neg e1,if_neg e3,if_pos hf]
     rw[e]
     have hf2:=hf
     rw[Gc h I O ni zi] at hf2
     by_cases h0:ni=0
     ·subst h0
      rw[if_pos rfl] at hf2
      have hh:h<1∨1000<h:=by
       by_cases q:h<1
       ·exact Or.inl q
       ·refine Or.inr ?_
        simp at hf2
        have:=hf2 (by omega)
        omega
      by_cases q1:h<1
      ·clear e e1 e3 h1 h2 h3 zi zo hf hf2 hh hI hO
       go_enter Tryz.func57,Tryz.ntmps57
       go_wp2
       go_ret
       exact⟨rfl,Za HB⟩
      ·have q2:1000<h:=by omega
       clear e e1 e3 h1 h2 h3 zi zo hf hf2 hh hI hO
       go_enter Tryz.func57,Tryz.ntmps57
       go_wp2
       go_ret
       exact⟨rfl,Za HB⟩
     ·rw[if_neg h0] at hf2
      have hh:(h != 0)=true:=by simpa using hf2
      have q1:(0:Int)<(ni:Int):=by omega
      clear e e1 e3 h1 h2 h3 zi zo hf hf2 hI hO h0
      go_enter Tryz.func57,Tryz.ntmps57
      go_wp2
      go_ret
      exact⟨rfl,Za HB⟩
    | true=>
     have e4:¬Hf (h,I,O)=false:=by rw[hf];decide
     have e:Zo (h,I,O)=if Zz [] I≠0 then Zz [] I else Zs O:=by
      unfold Zo;rw[if_neg e1,if_neg e3,if_neg e4]
     rw[e]
     have hf2:=hf
     rw[Gc h I O ni zi] at hf2
     by_cases h0:ni=0
     ·rw[if_pos h0] at hf2
      simp at hf2
      have e5:I=[]:=List.length_eq_zero_iff.1 (by omega)
      subst e5
      exact Zcg h ai ao ni ci no co [] O _ w hI hO (by omega) (by omega) (by omega) h0 hf2.1 hf2.2 (by rw[if_neg (by simp[Zz])])
     ·rw[if_neg h0] at hf2
      exact Zch h ai ao ni ci no co I O _ w hI hO (by omega) (by omega) (by omega) (by omega) (by simpa using hf2) rfl
end Go.Proofs.YtpikejjiignchaaGreatDoor
