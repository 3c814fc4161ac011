import Derived.Test.YtpikejjiignchaaGreatDoorG13
set_option maxHeartbeats 6400000
set_option maxRecDepth 10000
namespace Go.Proofs.YtpikejjiignchaaGreatDoor
open Go.RowKit
theorem Jp(p h k n:Int)(a:Option Addr)(m c:Nat)(T:List TxD)(x:Int)(w:World)(hT:TxsAt w a m T)(hx:Xb (p,h,k,n,T)=x) :
  Calls Tryz.prog 68 #[.agg #[.int .i64 p,.int .i64 h,.int .i64 k,.int .i64 n,.slice a m c]] w fun e w'=>e = .returned (.int .i64 x)∧Below w.heap.size w w':=by
 subst hx
 obtain⟨X,hX⟩:∃ X,X=w.alloc (.cells #[.int .i64 p,.int .i64 h,.int .i64 k,.int .i64 n,.slice a m c] 68):=⟨_,rfl⟩
 have hbX:Below w.heap.size w X:=by rw[hX];exact Zg _ _
 have hX1:X.heap[w.heap.size]? = some (.cells [.int .i64 p,.int .i64 h,.int .i64 k,.int .i64 n,.slice a m c].toArray 68 (0,0)):=by rw[hX];exact Yd _ _ _ _ _ _ _
 have HX1:=Zb hX1
 have HBX:=Zb hbX
 have HT:=Zb (hT.later hbX)
 have hz:T.length=m:=hT.1
 unfold Xb
 simp only
 rw[hz]
 clear hbX hX1 hT
 cases q:Xx p h k n with
 | false=>
  have C:=Zb (Gs p h k n a m c false X q)
  rw[if_pos rfl]
  clear q hz
  go_enter Tryz.func68,Tryz.ntmps68
  go_wp2_with fail
  rw[←hX]
  clear hX
  refine (Za C).mono ?_
  rintro e w1 ⟨rfl,hb1⟩
  have HB1:=Zb (Ze (Za HBX) hb1)
  clear hb1
  go_wp2
  go_ret
  exact⟨rfl,Za HB1⟩
 | true=>
  have C:=Zb (Gs p h k n a m c true X q)
  rw[if_neg (by decide)]
  clear q
  by_cases h4:4<m
  ·rw[if_pos h4]
   clear hz
   go_enter Tryz.func68,Tryz.ntmps68
   go_wp2_with fail
   rw[←hX]
   clear hX
   refine (Za C).mono ?_
   rintro e w1 ⟨rfl,hb1⟩
   have hx1:=(hb1.block _ (lt_of_block (Za HX1))).trans (Za HX1)
   have c4:=Zd hx1 4 _ rfl
   have l1:=lt_of_block hx1
   have HB1:=Zb (Ze (Za HBX) hb1)
   clear hb1 hx1
   go_wp2
   go_ret
   exact⟨rfl,Za HB1⟩
  ·rw[if_neg h4]
   by_cases h0:m=0
   ·subst h0
    rw[if_pos rfl]
    clear hz h4
    go_enter Tryz.func68,Tryz.ntmps68
    go_wp2_with fail
    rw[←hX]
    clear hX
    refine (Za C).mono ?_
    rintro e w1 ⟨rfl,hb1⟩
    have hx1:=(hb1.block _ (lt_of_block (Za HX1))).trans (Za HX1)
    have c4:=Zd hx1 4 _ rfl
    have l1:=lt_of_block hx1
    have HB1:=Zb (Ze (Za HBX) hb1)
    clear hb1 hx1
    go_wp2
    go_ret
    exact⟨rfl,Za HB1⟩
   ·rw[if_neg h0]
    have g0:((m:Int) == 0)=false:=by simp[h0]
    have HZ:=Zb hz
    obtain⟨b,off,rfl,hbl,hcell⟩:=(Za HT).2 (by omega)
    have HC:=Zb hcell
    clear hz hcell
    go_enter Tryz.func68,Tryz.ntmps68
    go_wp2_with fail
    rw[←hX]
    clear hX
    refine (Za C).mono ?_
    rintro e w1 ⟨rfl,hb1⟩
    have hx1:=(hb1.block _ (lt_of_block (Za HX1))).trans (Za HX1)
    have c4:=Zd hx1 4 _ rfl
    have l1:=lt_of_block hx1
    have HX2:=Zb hb1
    clear hb1 hx1
    go_wp2
    go_loopw [20] (fun i wr=>∃ k:Nat,k≤m∧i = .int .i64 k∧Hid (Yr h 0 T=Yr h k (T.drop k))∧Hid (Below X.heap.size X wr)) (fun i _=>m - (intOf i).toNat)
    case atStart=>exact⟨0,Nat.zero_le _,rfl,rfl,HX2⟩
    case round=>
     obtain⟨j,hj,rfl,A,HBr⟩:=hrel
     clear c4 l1 HX2
     by_cases hlt:j<m
     ·have hlk:j<T.length:=by rw[Za HZ];exact hlt
      have hin:=TxAt.kept _ _ _ _ _ (Za HBr) ((Za HC) j hlk)
      have ST:=Zb (Cw h T j hlk)
      obtain⟨t,ht⟩:∃ t,T[j]=t:=⟨_,rfl⟩
      rw[ht] at hin ST
      obtain⟨t1,I,O⟩:=t
      obtain⟨g0',⟨ai,ni,ci,g1,hI,sI⟩,ao,no,co,g2,hO,_⟩:=hin
      have A2:Hid (Yr h 0 T=if Zo (t1,I,O)≠0 then Zo (t1,I,O) else if Uh (t1,I,O) j h=false then 4 else Yr h (j+1) (T.drop (j+1))):=by show _=_;rw[Za A,Za ST]
      simp only at g0' g1 g2 hI hO
      obtain⟨Y,hY⟩:∃ Y,Y=wr.alloc (.cells #[.int .i64 t1,.slice ai ni ci,.slice ao no co] 52):=⟨_,rfl⟩
      have hbY:Below wr.heap.size wr Y:=by rw[hY];exact Zg _ _
      have hY1:Y.heap[wr.heap.size]? = some (.cells [.int .i64 t1,.slice ai ni ci,.slice ao no co].toArray 52 (0,0)):=by rw[hY];exact Zp _ _ _ _ _
      have HY1:=Zb hY1
      have HBY:=Zb (Ze (Za HBr) hbY)
      have hhY:=((Za HBY).block _ (lt_of_block (Za HX1))).trans (Za HX1)
      have y0:=Zd hY1 0 _ rfl
      have y1:=Zd hY1 1 _ rfl
      have y2:=Zd hY1 2 _ rfl
      have yl:=lt_of_block hY1
      obtain⟨x,hx⟩:∃ x,Zo (t1,I,O)=x:=⟨_,rfl⟩
      obtain⟨o,ho⟩:∃ o,Uh (t1,I,O) j h=o:=⟨_,rfl⟩
      have CT:=Zb (Ju t1 ai ao ni ci no co I O Y (hI.later hbY) (hO.later hbY) sI)
      have CS:=Zb (fun W=>Zcw t1 ai ao ni ci no co I O j h o W hI.1 ho)
      rw[hx] at A2 CT
      rw[ho] at A2
      clear hbY hY1 hhY A ST ht hI hO sI hx ho
      by_cases hx0:x=0
      ·subst hx0
       have A3:Hid (Yr h 0 T=if o=false then 4 else Yr h (j+1) (T.drop (j+1))):=by
        have q:=Za A2
        rw[if_neg (by decide)] at q
        exact q
       clear A2
       go_wp2_with fail
       rw[←hY]
       clear hY
       go_wp2_with fail
       refine (Za CT).mono ?_
       rintro e w2 ⟨rfl,hb2⟩
       have hy2:=(hb2.block _ (lt_of_block (Za HY1))).trans (Za HY1)
       have HB2:=Zb (Ze (Za HBY) hb2)
       have hh2:=((Za HB2).block _ (lt_of_block (Za HX1))).trans (Za HX1)
       have z0:=Zd hy2 0 _ rfl
       have z1:=Zd hy2 1 _ rfl
       have z2:=Zd hy2 2 _ rfl
       have zl:=lt_of_block hy2
       have k1:=Zd hh2 1 _ rfl
       have kl:=lt_of_block hh2
       clear hb2 hy2 hh2 y0 y1 y2 yl g0' g1 g2
       go_wp2_with fail
       refine ((Za CS) _).mono ?_
       rintro e w3 ⟨rfl,hb3⟩
       have HB3:=Zb (Ze (Za HB2) hb3)
       clear hb3
       cases o with
       | false=>
        have R:Hid (Yr h 0 T=4):=by show _=_;rw[Za A3];rfl
        have HBF:=Zb (Ze (Za HBX) (Za HB3))
        clear A3
        go_wp2
        go_ret
        exact⟨by rw[Za R];rfl,Za HBF⟩
       | true=>
        have R:Hid (Yr h 0 T=Yr h (j+1) (T.drop (j+1))):=by show _=_;rw[Za A3];rfl
        clear A3
        go_wp2
        go_roundw
        case rel=>exact⟨j+1,by omega,by go_num,R,HB3⟩
        case measure=>simp[intOf];omega
      ·have R:Hid (Yr h 0 T=x):=by show _=_;rw[Za A2,if_pos hx0]
       have gx:(x != 0)=true:=by simp[hx0]
       clear A2 hx0
       go_wp2_with fail
       rw[←hY]
       clear hY
       go_wp2_with fail
       refine (Za CT).mono ?_
       rintro e w2 ⟨rfl,hb2⟩
       have HBF:=Zb (Ze (Za HBX) (Ze (Za HBY) hb2))
       clear hb2
       go_wp2
       go_ret
       exact⟨by rw[Za R];rfl,Za HBF⟩
     ·have R:Hid (Yr h 0 T=0):=by show _=_;rw[Za A,Db h T j (by rw[Za HZ];omega)]
      have HBF:=Zb (Ze (Za HBX) (Za HBr))
      clear A
      go_wp2
      go_ret
      exact⟨by rw[Za R];rfl,Za HBF⟩
def blockB:ByteArray:=⟨#[98,108,111,99,107]⟩
def Yl:List TxD→ByteArray
 | []=>⟨#[]⟩
 | t :: r=>Zz t++Yl r
def Ui(b:Zk):ByteArray:=(Ww blockB [b.1,b.2.1,b.2.2.1,b.2.2.2.1]++⟨#[10]⟩)++Yl b.2.2.2.2
theorem Qy(h:Int):∀ (i:Nat) (T:List TxD),Yr h i T=0→∀ t∈T,Zo t=0
 | _,[],_,t,ht=>by cases ht
 | i,x :: r,e,t,ht=>by
  unfold Yr at e
  split at e
  ·rename_i q;exact absurd e q
  ·rename_i q
   split at e
   ·cases e
   ·rcases List.mem_cons.1 ht with rfl|ht
    ·exact Classical.not_not.1 q
    ·exact Qy h (i+1) r e t ht
theorem Nx{p h k n:Int}(e:Xx p h k n=true):0≤p∧p≤120∧1≤h∧h≤1000∧1≤k∧k≤1000∧0≤n∧n≤1000000000:=by
 unfold Xx at e
 rw[Bool.and_eq_true,Bool.and_eq_true,Bool.and_eq_true,Bool.and_eq_true,Bool.and_eq_true,Bool.and_eq_true,Bool.and_eq_true] at e
 obtain⟨⟨a,b⟩,⟨c,d⟩,⟨e,f⟩,g,h⟩:=e
 exact⟨of_decide_eq_true a,of_decide_eq_true b,of_decide_eq_true c,of_decide_eq_true d,of_decide_eq_true e,of_decide_eq_true f,of_decide_eq_true g,of_decide_eq_true h⟩
theorem Un{p h k n:Int}{T:List TxD}(e:Xb (p,h,k,n,T)=0):Xx p h k n=true∧0<T.length∧T.length≤4∧Yr h 0 T=0∧(∀ t∈T,Zo t=0):=by
 unfold Xb at e
 simp only at e
 split at e
 ·cases e
 rename_i q1
 split at e
 ·cases e
 rename_i q2
 split at e
 ·cases e
 rename_i q3
 exact⟨by cases q:Xx p h k n with|true=>rfl|false=>exact absurd q q1,by omega,by omega,e,Qy h 0 T e⟩
theorem Jt{α : Type}:∀ (L:List (List α)),([]:List α).intercalate L=L.flatten
 | []=>rfl
 | [x]=>by simp[List.intercalate]
 | x :: y :: r=>by
  have:=Jt (y :: r)
  simp[List.intercalate] at this ⊢
  exact this
theorem Ab(t:TxD)(h:Zo t=0):(Zz t).size≤6000:=by
 have ok:=TxOk.of h
 have h1:=Qf (Y3 t.1 t.2.1) t.2.2 ok.outs
 have h2:=Vi t.1 t.2.1 ok.hgt ok.ins
 have h3:=ok.ins6
 have h4:=ok.outs6
 unfold Zz
 omega
theorem Ug:∀ (T:List TxD),(∀ t∈T,Zo t=0)→(Yl T).size≤6000*T.length
 | [],_=>by simp[Yl];rfl
 | t :: r,h=>by
  have h1:=Ab t (h t (List.mem_cons_self ..))
  have h2:=Ug r (fun x hx=>h x (List.mem_cons_of_mem _ hx))
  rw[Yl,ByteArray.size_append,List.length_cons]
  omega
theorem Tw:∀ (T:List TxD),(Yl T).data.toList=((T.map Zz).map (·.data.toList)).flatten
 | []=>rfl
 | t :: r=>by
  rw[Yl,ByteArray.data_append,Array.toList_append,Tw r]
  rfl
theorem Nu(T:List TxD):(⟨(Lib.join ((T.map Zz).map (·.data.toList)) []).toArray⟩:ByteArray)=Yl T:=by
 refine Qi ?_
 rw[Tw]
 show Lib.join _ _=_
 unfold Lib.join
 exact Jt _
def txV(T:List TxD)(i:Nat):Value:=.string (Zz (T.getD i (0,[],[])))
theorem Ge(b off m c:Nat)(T:List TxD)(w:World)(hE:Env w)(hz:T.length=m)(hm:m≤4)(hck:∀ t∈T,Zo t=0)(hc:∀ i (h:i<T.length),TxAt w b (off+i*3) T[i]) :
  Calls Tryz.prog 81 #[.slice (some ⟨b,off,none⟩) m c] w fun e w'=>e = .returned (.slice (some ⟨w.heap.size,0,none⟩) m m)∧FillV w.heap.size 9 m (txV T) w w' m:=by
 obtain⟨i0,hi,hz0,hz1,hz2⟩:=info_parts Tryz.info9
 have HE:=Zb hE
 have HC:=Zb hc
 have HZ:=Zb hz
 have HK:=Zb hck
 clear hE hc hz hck
 go_enter Tryz.func81,Tryz.ntmps81
 go_wp2_with (at_make;refine wpList_make_full _ rfl _ _ 22 rfl w.heap.size 9 i0 (.string ⟨#[]⟩) 1 Tryz.underlying22 hi hz0 hz1 .i64 .i64 _ _ m rfl rfl rfl rfl (by rw[hz2];omega) (by unfold maxLen;omega) (Nat.le_refl _) ?_;intro w2 hown2 hgrow2)
 have hst:FillV w.heap.size 9 m (txV T) w w2 0:=⟨⟨_,hown2,fun j hj=>absurd hj (by omega)⟩,(Below.refl _ _).grown hgrow2 (Nat.le_refl _) (fun k h=>by cases h)⟩
 have HST:=Zb hst
 clear hst hown2 hgrow2
 go_loopw [11] (fun i wr=>∃ k:Nat,k≤m∧i = .int .i64 k∧FillV w.heap.size 9 m (txV T) w wr k) (fun i _=>m - (intOf i).toNat)
 case atStart=>exact⟨0,Nat.zero_le _,rfl,Za HST⟩
 case round=>
  obtain⟨k,hk,rfl,hfl⟩:=hrel
  have HF:=Zb hfl
  have hbw:Below w.heap.size w wr:=hfl.bel
  have HBW:=Zb hbw
  by_cases hlt:k<m
  ·have hlk:k<T.length:=by rw[Za HZ];exact hlt
   have hin:=TxAt.kept _ _ _ _ _ hbw ((Za HC) k hlk)
   have hx:=(Za HK) T[k] (List.getElem_mem _)
   have HQ:Hid (T.getD k (0,[],[])=T[k]):=by show _=_;simp[hlk]
   obtain⟨t,ht⟩:∃ t,T[k]=t:=⟨_,rfl⟩
   rw[ht] at hin hx HQ
   obtain⟨t1,I,O⟩:=t
   obtain⟨g0,⟨ai,ni,ci,g1,hI,sI⟩,ao,no,co,g2,hO,_⟩:=hin
   simp only at g0 g1 g2 hI hO
   obtain⟨Y,hY⟩:∃ Y,Y=wr.alloc (.cells #[.int .i64 t1,.slice ai ni ci,.slice ao no co] 52):=⟨_,rfl⟩
   have hbY:Below wr.heap.size wr Y:=by rw[hY];exact Zg _ _
   have hY1:Y.heap[wr.heap.size]? = some (.cells [.int .i64 t1,.slice ai ni ci,.slice ao no co].toArray 52 (0,0)):=by rw[hY];exact Zp _ _ _ _ _
   have y0:=Zd hY1 0 _ rfl
   have y1:=Zd hY1 1 _ rfl
   have y2:=Zd hY1 2 _ rfl
   have yl:=lt_of_block hY1
   have PO:=Zb (Dp t1 ai ao ni ci no co I O Y ((Za HE).later (Ze hbw hbY)) (hI.later hbY) (hO.later hbY) sI hx)
   obtain⟨x,hxt⟩:∃ x,x=Zz (t1,I,O):=⟨_,rfl⟩
   rw[←hxt] at PO
   have HX:=Zb hxt
   have HBY:=Zb hbY
   clear hfl hbw ht hx hY1 hbY hI hO sI hxt
   go_wp2_with fail
   rw[←hY]
   clear hY
   go_wp2_with fail
   refine (Za PO).mono ?_
   rintro e w3 ⟨rfl,hb3⟩
   have hf3:=((Za HF).keep (Za HBY)).keep hb3
   obtain⟨v,hold⟩:=hf3.old hlt
   have hfree:=hf3.free k
   have hl3:=hf3.lt
   have HF3:=Zb hf3
   clear hb3 hf3 y0 y1 y2 yl g0 g1 g2
   go_wp2
   go_roundw
   case rel=>
    refine⟨k+1,by omega,by go_num,(Za HF3).step hlt ?_⟩
    show Value.string x=txV T k
    unfold txV
    rw[Za HX,Za HQ]
   case measure=>simp[intOf];omega
  ·clear hfl hbw
   have e:k=m:=by omega
   subst e
   clear hk hlt
   go_wp2
   go_ret
   exact⟨rfl,Za HF⟩
end Go.Proofs.YtpikejjiignchaaGreatDoor
