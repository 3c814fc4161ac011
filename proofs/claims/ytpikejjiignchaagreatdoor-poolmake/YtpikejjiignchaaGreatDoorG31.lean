import Derived.Test.YtpikejjiignchaaGreatDoorG29
import Derived.Test.YtpikejjiignchaaGreatDoorG30
namespace Go.Proofs.YtpikejjiignchaaGreatDoor
open Go.RowKit
theorem Su{w:World}{base:Nat}{v:Value}{n:Nat}{N:List Int}(h:w.ownsRow base 3 1 v n (N.map (Value.int .i64)))(hm:n≤maxLen):∃ a cap,v = .slice a n cap∧RowAt w a n N:=by
 have hl:N.length=n:=by have:=h.1;simpa using this
 rcases h.2 with ⟨rfl,rfl⟩|⟨g,cap,cur,rfl,_,_,h1,h2,_,_⟩
 ·have e:N=[]:=List.length_eq_zero_iff.1 hl
  subst e
  exact⟨none,0,rfl,RowAt.nil _ _⟩
 ·refine⟨_,cap,rfl,hl,hm,fun _=>⟨g,0,rfl,fun i hi=>?_⟩⟩
  rw[Nat.zero_add,World.ownsRow.cellAt h i (by omega)]
  have hi2:i<N.length:=by omega
  simp[hi2]
def Gv(I:List InD):List (Int×Int):=I.map fun x=>(x.1,x.2.1)
theorem Zfb(x:InD)(I:List InD):decide ((x.1,x.2.1)∈Gv I)=I.any (Wj x):=by
 rw[Bool.eq_iff_iff,decide_eq_true_iff,List.any_eq_true]
 unfold Gv Wj
 rw[List.mem_map]
 constructor
 ·rintro ⟨y,hy,e⟩
  injection e with e1 e2
  exact⟨y,hy,by simp[e1,e2]⟩
 ·rintro ⟨y,hy,e⟩
  simp only[Bool.and_eq_true,decide_eq_true_eq] at e
  exact⟨y,hy,by rw[e.1,e.2]⟩
theorem Tryz.infoPoint:(Tryz.prog.info? 99).map (fun i=>(i.zero,i.size,i.bytes))=some (some (.agg #[.int .i64 0,.int .i64 0]),2,16):=by kernel_rfl
set_option maxRecDepth 10000 in
set_option maxHeartbeats 6400000 in
theorem Zcg(h:Int)(ai ao:Option Addr)(ni ci no co:Nat)(I:List InD)(O:List Zw)(z:Int)(w:World)(hI:InsAt w ai ni I)(hO:OutsAt w ao no O)(h6i:ni≤6)(h6o:no≤6)(ho0:0<no)(hn:ni=0)(hh1:1≤h)(hh2:h≤1000)(hz:Zs O=z) :
  Calls Tryz.prog 57 #[.agg #[.int .i64 h,.slice ai ni ci,.slice ao no co]] w fun e w'=>e = .returned (.int .i64 z)∧Below w.heap.size w w':=by
 obtain⟨i1,hi1,hy0,hy1,hy2⟩:=info_parts Tryz.infoInt
 have hb:=Zf w (.cells #[.int .i64 h,.slice ai ni ci,.slice ao no co] 52)
 obtain⟨n0,n1,n2⟩:=Yx w (.int .i64 h) (.slice ai ni ci) (.slice ao no co) 52
 obtain⟨W,hW⟩:∃ W,W=w.alloc (.cells #[.int .i64 h,.slice ai ni ci,.slice ao no co] 52):=⟨_,rfl⟩
 rw[←hW] at hb n0 n1 n2
 have HB:=Zb hb
 have HI:=Zb (hI.later hb)
 have HO:=Zb (hO.later hb)
 have N2:=Zb n2
 have q1:¬(6:Int)<(ni:Int):=by omega
 have q2:¬(6:Int)<(no:Int):=by omega
 have q3:((no:Int) == 0)=false:=by simp;omega
 have HZ:=Zb hz
 have g1:¬(h<1):=by omega
 have g2:¬(1000<h):=by omega
 subst hn
 clear hI hO hz hb
 go_enter Tryz.func57,Tryz.ntmps57
 go_wp2
 rw[←hW]
 clear hW
 refine wp_loop_rounds 1 ?_
 rw[rounds_succ]
 go_wp2
 have HBX:=Zb (Below.refl W.heap.size W)
 have OWN0:Hid (W.ownsRow W.heap.size 3 1 (.slice none 0 0) 0 ((([]:List Int).map (Value.int .i64)))):=⟨rfl,Or.inl ⟨rfl,rfl⟩⟩
 go_loopw [7,100] (fun v i wr=>∃ k:Nat,k≤no∧i = .int .i64 k∧Below W.heap.size W wr∧Hid (wr.ownsRow W.heap.size 3 1 v k (((O.take k).map (·.1)).map (Value.int .i64)))∧Hid (Zx O=Zx (O.drop k))) (fun _ i _=>no - (intOf i).toNat)
 case atStart=>exact⟨0,Nat.zero_le _,rfl,Za HBX,OWN0,rfl⟩
 case round=>
  obtain⟨k,hk2,rfl,hb,HO2,A⟩:=hrel
  have HB2:=Zb hb
  by_cases hlt:k<no
  ·obtain⟨hzO,hcs⟩:=Za HO
   obtain⟨b,off,rfl,hbl,hc⟩:=hcs (by omega)
   have hlk:k<O.length:=by omega
   have hin:=OutAt.kept _ _ _ _ _ hb (hc k hlk)
   have ST:=Zb (Qu O k hlk)
   have SS:=Zb (Qv O k hlk)
   have TK:=Zb (List.take_succ_eq_append_getElem hlk)
   obtain⟨x,hx⟩:∃ x,O[k]=x:=⟨_,rfl⟩
   rw[hx] at hin ST SS TK
   obtain⟨x1,key⟩:=x
   obtain⟨g1,ka,kn,kc,g3,g4,_⟩:=hin
   simp only at g1 g3 g4
   have hba:=Zf wr (.cells #[.int .i64 x1,.slice ka kn kc] 101)
   obtain⟨n1,n2⟩:=V6 wr (.int .i64 x1) (.slice ka kn kc) 101
   have KO:=Zb (g4.later hba)
   have N1b:=Zb n1
   have HBA:=Zb hba
   have OWNA:=Zb (Y9 (Za HO2) hba)
   clear hb hx g4 n1 hc hcs
   by_cases hlo:x1<1
   ·have R:Hid (z=3):=by
     have e:Yo (x1,key)=3:=Rp hlo
     have e2:Zx O=3:=by rw[Za A,(Za ST) (by rw[e];decide),e]
     show _=_
     rw[←Za HZ];unfold Zs;rw[e2];rfl
    have HB3:=Zb (Ze (Za HB2) (Za HBA))
    clear A ST SS hba
    go_wp2
    go_ret
    exact⟨by rw[Za R];rfl,Ze (Za HB) (Za HB3)⟩
   ·have CK:=Zb (Qa ka kn kc key _ (Za KO))
    by_cases hk0:chk key=0
    ·have R:Hid (Zx O=Zx (O.drop (k+1))):=by
      have e:Yo (x1,key)=0:=by rw[Vf hlo];exact hk0
      show _=_
      rw[Za A,(Za SS) e]
     rw[hk0] at CK
     clear A ST SS hk0 hba
     go_wp2_with fail
     refine (Za CK).mono ?_
     rintro e w3 ⟨rfl,hb3⟩
     have m1:=Zc hb3 (Za N1b)
     have hs3:=World.block_lt_of_cell? _ _ m1
     have hb4:=Zf w3 (.cells #[.int .i64 x1] 3)
     have OWN4:=Zb (Y9 (Y9 (Za OWNA) hb3) hb4)
     have NEWS:=Zb (World.news_of_block (heap_alloc_new w3 (.cells #[.int .i64 x1] 3)))
     have HB4:=Zb (Ze (Ze (Ze (Za HB2) (Za HBA)) hb3) hb4)
     clear hb3 hb4
     go_wp2_with (at_builtin;refine wpList_append_own _ rfl _ _ 25 rfl W.heap.size 3 i1 (.int .i64 0) 1 8 Tryz.underlying25 hi1 hy0 hy1 hy2 rfl (by decide) _ _ _ rfl (Za OWN4) ⟨w3.heap.size,0,none⟩ 1 1 [.int .i64 x1] rfl rfl (Za NEWS) (fun u hu=>by simp at hu;subst hu;rfl) (by unfold maxLen;omega) (by omega) (Za HB4).size ?_;intro v7 w7 hown7 hgrow7 _)
     have OWN7:Hid (w7.ownsRow W.heap.size 3 1 v7 (k+1) (((O.take (k+1)).map (·.1)).map (Value.int .i64))):=by
      show World.ownsRow _ _ _ _ _ _ _
      rw[Za TK,List.map_append,List.map_append];exact hown7
     have HB7:=Zb ((Za HB4).grown hgrow7 (Za HB4).size (Uv (Za OWN4)))
     clear hown7 hgrow7
     go_roundw
     case rel=>exact⟨k+1,by omega,by go_num,Za HB7,OWN7,R⟩
     case measure=>simp[intOf];omega
    ·obtain⟨y,hy⟩:∃ y,chk key=y:=⟨_,rfl⟩
     have R:Hid (z=y):=by
      have e:Yo (x1,key)=chk key:=Vf hlo
      have e2:Zx O=y:=by rw[Za A,(Za ST) (by rw[e];exact hk0),e];exact hy
      show _=_
      rw[←Za HZ];unfold Zs;rw[e2,if_neg (by rw[←hy];exact hk0)]
     rw[hy] at CK
     rw[hy] at hk0
     have gz:(y != 0)=true:=by simp[hk0]
     clear A ST SS hy hk0 hba
     go_wp2_with fail
     refine (Za CK).mono ?_
     rintro e w3 ⟨rfl,hb3⟩
     have HB3:=Zb (Ze (Ze (Za HB2) (Za HBA)) hb3)
     clear hb3
     go_wp2
     go_ret
     exact⟨by rw[Za R];rfl,Ze (Za HB) (Za HB3)⟩
  ·have e:k=no:=by omega
   subst e
   have hzO:=(Za HO).1
   have R:Hid (z=(sm 0 (O.map (·.1))).2):=by
    show _=_
    rw[←Za HZ];unfold Zs;rw[Za A,Jj O k (by omega)];rfl
   have ho2:=Za HO2
   rw[List.take_of_length_le (by omega)] at ho2
   obtain⟨av,cv,rfl,hrow⟩:=Su ho2 (by unfold maxLen;omega)
   have SM:=Zb (K9 av k cv (O.map (·.1)) _ hrow)
   obtain⟨s,hs⟩:∃ s,sm 0 (O.map (·.1))=s:=⟨_,rfl⟩
   rw[hs] at SM R
   obtain⟨s1,s2⟩:=s
   clear A hb ho2 hrow hs hlt hk2
   go_wp2_with fail
   refine (Za SM).mono ?_
   rintro e w' ⟨rfl,rfl⟩
   go_wp2
   go_ret
   exact⟨by rw[Za R];rfl,Ze (Za HB) (Za HB2)⟩
end Go.Proofs.YtpikejjiignchaaGreatDoor
