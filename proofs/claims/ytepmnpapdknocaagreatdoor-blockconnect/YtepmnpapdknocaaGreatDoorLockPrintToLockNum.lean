/- The contract of Print: its error, and the text of right orders. -/
import Derived.Test.YtepmnpapdknocaaGreatDoorLockMathToLockFill
import Derived.Test.YtepmnpapdknocaaGreatDoorShelf
import Derived.Lib.SmallJoins
import Derived.Lib.AppendIntMem
import Derived.Lib.ItoaLen
import Derived.Lib.LaidTab
import Derived.ChangeAgain
set_option maxHeartbeats 1600000
namespace Go.Proofs.YtepmnpapdknocaaGreatDoor
open Go.RowKit
def namesL:List ByteArray:=[⟨#[]⟩,⟨#[]⟩,⟨#[100,117,112]⟩,⟨#[115,119,97,112]⟩,⟨#[100,114,111,112]⟩,⟨#[97,100,100]⟩,⟨#[115,117,98]⟩,⟨#[115,97,109,101]⟩,⟨#[108,101,115,115]⟩,⟨#[110,111,116]⟩,⟨#[97,110,100]⟩,⟨#[118,101,114,105,102,121]⟩,⟨#[104,101,105,103,104,116]⟩,⟨#[109,105,120]⟩]
def Qv(k:Nat):ByteArray:=namesL.getD k ⟨#[]⟩
def A7:Array Value:=(namesL.map Value.string).toArray
def Y5(o:Int×Int):ByteArray:=if o.1=1 then ⟨(Lib.itoa o.2).toArray⟩ else Qv o.1.toNat
def Z3(l:List (Int×Int)):ByteArray:=⟨(Lib.join ((l.map Y5).map (·.data.toList)) [32]).toArray⟩
structure Env(w:World):Prop where
 tab:Lib.TabIs Tryz.prog w "internal/strconv.uint64pow10" .u64 Lib.pow10Tab
 nam:w.var? Tryz.prog "cairn/lock.names" = some A7
theorem Tryz.gTab:Tryz.prog.globalNamed "internal/strconv.uint64pow10" = some 4:=by kernel_rfl
theorem Tryz.gNam:Tryz.prog.globalNamed "cairn/lock.names" = some 3:=by kernel_rfl
theorem Env.later{w w':World}(h:Env w)(hb:Below w.heap.size w w'):Env w':=
 ⟨Joins.var_stays Tryz.gTab h.tab hb (Nat.le_refl _),Joins.var_stays Tryz.gNam h.nam hb (Nat.le_refl _)⟩
theorem Env.name{w:World}(h:Env w)(k:Nat)(hk:k<14):w.cell? ⟨3,k,none⟩=some (.string (Qv k)):=by
 have:=World.var?_cell Tryz.gNam h.nam k
 rw[this]
 have hl:k<namesL.length:=hk
 simp[A7,Qv,hl]
theorem Env.lt{w:World}(h:Env w):3<w.heap.size:=World.block_lt_of_cell? _ _ (h.name 0 (by decide))
theorem Pr{a b:ByteArray}(h:a=b):Ending.returned (.string a) = .returned (.string b):=by rw[h]
theorem Gk(k n:Int)(w:World)(hE:Env w)(hc:Yw (k,n)=0) :
  Calls Tryz.prog 172 #[.agg #[.int .i64 k,.int .i64 n]] w fun e w'=>e = .returned (.string (Y5 (k,n)))∧Below w.heap.size w w':=by
 have hb:Below w.heap.size w (w.alloc (.cells #[.int .i64 k,.int .i64 n] 148)):=(Below.refl _ _).alloc (Nat.le_refl _) _
 have HB:=hide hb
 have HE:=hide hE
 by_cases h1:k=1
 ·subst h1
  have hn : -1000000≤n∧n≤1000000:=by
   have:fit n=true:=by
    simp only[Yw] at hc
    cases h:fit n with
    | true=>rfl
    | false=>simp[h] at hc
   exact (Zu n).1 this
  have g0 : -9223372036854775808≤n:=by omega
  have g1:n≤9223372036854775807:=by omega
  have e:Y5 (1,n)=⟨(Lib.itoa n).toArray⟩:=by simp[Y5]
  rw[e]
  have HT:=hide (hE.later hb).tab
  clear hE hc hb e hn
  go_enter Tryz.func172,Tryz.ntmps172
  go_wp2_with fail
  refine (Tryz.strconv_Itoa n g0 g1 _ (unhide HT)).mono ?_
  rintro e w1 ⟨rfl,k,os,rfl⟩
  have HB2:=hide ((unhide HB).trans ((Lib.below_grow _ _ (Nat.le_refl _) k os).mono (unhide HB).size))
  go_wp2
  go_ret
  exact⟨rfl,unhide HB2⟩
 ·have hk:1≤k∧k≤13:=by
   simp only[Yw] at hc
   split at hc
   ·cases hc
   ·omega
  obtain⟨m,rfl⟩:=Int.eq_ofNat_of_zero_le (show 0≤k by omega)
  have e:Y5 ((m:Int),n)=Qv m:=by simp[Y5];intro h;omega
  have c1:=hE.name m (by omega)
  have hl:=hE.lt
  have g1:((m:Int) == 1)=false:=by simp;omega
  have g2:(m:Int)<14:=by omega
  rw[e]
  obtain⟨x,hx⟩:∃ x,x=Qv m:=⟨_,rfl⟩
  rw[←hx] at c1 ⊢
  clear hE hc hb e h1 hk hx
  go_enter Tryz.func172,Tryz.ntmps172
  go_wp2
  go_ret
  exact⟨rfl,unhide HB⟩
theorem De{a b:ByteArray}{v:Value}(h:a=b):Ending.returned (.tuple #[.string a,v]) = .returned (.tuple #[.string b,v]):=by rw[h]
theorem Tryz.info9:(Tryz.prog.info? 9).map (fun i=>(i.zero,i.size,i.bytes))=some (some (.string ⟨#[]⟩),1,16):=by kernel_rfl
theorem Ay(o:Int×Int)(h:Yw o=0):(Y5 o).data.toList.length≤21:=by
 obtain⟨k,n⟩:=o
 unfold Y5
 split
 ·rename_i h1
  have h1:k=1:=h1
  subst h1
  have hn : -1000000≤n∧n≤1000000:=by
   have:fit n=true:=by
    simp only[Yw] at h
    cases hf:fit n with
    | true=>rfl
    | false=>simp[hf] at h
   exact (Zu n).1 this
  simpa using Lib.itoa_length_le n (by omega) (by omega)
 ·have hk:1≤k∧k≤13:=by
   simp only[Yw] at h
   split at h
   ·cases h
   ·omega
  show (Qv k.toNat).data.toList.length≤21
  have hk2:k.toNat<14:=by omega
  have all:∀ j:Fin 14,(Qv j.val).data.toList.length≤21:=by decide
  exact all ⟨k.toNat,hk2⟩
theorem Ct:∀ (xs:List (List UInt8)),(∀ x∈xs,x.length≤21)→Lib.lens xs≤21*xs.length
 | [],_=>by simp[Lib.lens]
 | x :: r,h=>by
  have h1:=h x (by simp)
  have h2:=Ct r (fun y hy=>h y (by simp[hy]))
  simp only[Lib.lens,List.length_cons] at h2 ⊢
  simp at h2 ⊢
  omega
theorem Q8(l:List (Int×Int))(h16:l.length≤16)(h:Vd l=0):(Lib.join ((l.map Y5).map (·.data.toList)) [32]).length≤400:=by
 cases l with
 | nil=>simp[Lib.join_nil]
 | cons o r=>
  rw[List.map_cons,List.map_cons,Lib.join_length]
  have hl:=Ct (((o :: r).map Y5).map (·.data.toList)) (fun x hx=>by
   simp only[List.map_map,List.mem_map,Function.comp] at hx
   obtain⟨q,hq,rfl⟩:=hx
   obtain⟨i,hi,rfl⟩:=List.getElem_of_mem hq
   exact Ay _ (Je h i hi))
  simp only[List.map_cons,List.length_cons,List.length_map,List.length_nil] at hl h16 ⊢
  omega
theorem E9(a:Option Addr)(len cap:Nat)(l:List (Int×Int))(w:World)(hO:OpsAt w a len l)(hc:chk l≠0) :
  Calls Tryz.prog 136 #[.slice a len cap] w fun e w'=>e = .returned (.tuple #[.string ⟨#[]⟩,.int .i64 (chk l)])∧Below w.heap.size w w':=by
 have CK:=hide (Uc a len cap l w hO)
 obtain⟨x,hx⟩:∃ x,x=chk l:=⟨_,rfl⟩
 rw[←hx] at hc CK ⊢
 have hx1:(x != 0)=true:=by simp[hc]
 clear hO hc hx
 go_enter Tryz.func136,Tryz.ntmps136
 go_wp2_with fail
 refine (unhide CK).mono ?_
 rintro e w1 ⟨rfl,hb1⟩
 have HB1:=hide hb1
 clear hb1
 go_wp2
 go_ret2
 exact⟨rfl,unhide HB1⟩
def Cb(l:List (Int×Int))(j:Nat):Value:=.string (Y5 (l.getD j (0,0)))
set_option maxRecDepth 10000 in
theorem Au(b off len cap:Nat)(l:List (Int×Int))(w:World)(hE:Env w)(hz:l.length=len)(hpos:0<len)(hck:chk l=0)(hbl:b<w.heap.size)
  (hc:∀ i,i<len→w.cell? ⟨b,off+i*2,none⟩=some (.int .i64 (l.getD i (0,0)).1)∧w.cell? ⟨b,off+i*2+1,none⟩=some (.int .i64 (l.getD i (0,0)).2)) :
  Calls Tryz.prog 136 #[.slice (some ⟨b,off,none⟩) len cap] w fun e w'=>e = .returned (.tuple #[.string (Z3 l),.int .i64 0])∧Below w.heap.size w w':=by
 obtain⟨i0,hi,hz0,hz1,hz2⟩:=info_parts Tryz.info9
 have h16:len≤16:=by
  unfold chk at hck
  split at hck
  ·cases hck
  ·omega
 have hck':Vd l=0:=by
  unfold chk at hck
  split at hck
  ·cases hck
  ·exact hck
 have HK:=hide (Je hck')
 have HTL:=hide (Q8 l (by omega) hck')
 have CK:=hide (Uc (some ⟨b,off,none⟩) len cap l w ⟨hz,fun _=>⟨b,off,rfl,hc⟩⟩)
 rw[hck] at CK
 have HE:=hide hE
 have HC:=hide hc
 have HZ:=hide hz
 clear hE hc hz hck hck'
 go_enter Tryz.func136,Tryz.ntmps136
 go_wp2_with fail
 refine (unhide CK).mono ?_
 rintro e w1 ⟨rfl,hb1⟩
 have HB1:=hide hb1
 clear hb1
 go_wp2_with (at_make;refine wpList_make_full _ rfl _ _ 22 rfl w1.heap.size 9 i0 (.string ⟨#[]⟩) 1 Tryz.underlying22 hi hz0 hz1 .i64 .i64 _ _ len rfl rfl rfl rfl (by rw[hz2];omega) (by unfold maxLen;omega) (Nat.le_refl _) ?_;intro w2 hown2 hgrow2)
 have hst:FillV w1.heap.size 9 len (Cb l) w1 w2 0:=⟨⟨_,hown2,fun j hj=>absurd hj (by omega)⟩,(Below.refl _ _).grown hgrow2 (Nat.le_refl _) (fun k h=>by cases h)⟩
 have HST:=hide hst
 clear hst hown2 hgrow2
 go_loopw [18] (fun i wr=>∃ k:Nat,k≤len∧i = .int .i64 k∧FillV w1.heap.size 9 len (Cb l) w1 wr k) (fun i _=>len - (intOf i).toNat)
 case atStart=>exact⟨0,Nat.zero_le _,rfl,unhide HST⟩
 case round=>
  obtain⟨k,hk,rfl,hfl⟩:=hrel
  have HF:=hide hfl
  have hbw:Below w.heap.size w wr:=(unhide HB1).trans (hfl.bel.mono (unhide HB1).size)
  have HBW:=hide hbw
  by_cases hlt:k<len
  ·have hlk:k<l.length:=by rw[unhide HZ];exact hlt
   obtain⟨c1,c2⟩:=(unhide HC) k hlt
   rw[←hbw.cell (p:=⟨b,off+k*2,none⟩) hbl] at c1
   rw[←hbw.cell (p:=⟨b,off+k*2+1,none⟩) hbl] at c2
   obtain⟨q,hq⟩:∃ q,q=l.getD k (0,0):=⟨_,rfl⟩
   rw[←hq] at c1 c2
   have hq':q=l[k]:=by rw[hq];simp[hlk]
   have hkk:=(unhide HK) k hlk
   rw[←hq'] at hkk
   have HQ:=hide hq
   obtain⟨kd,n⟩:=q
   have hba:Below wr.heap.size wr (wr.alloc (.cells #[.int .i64 kd,.int .i64 n] 148)):=(Below.refl _ _).alloc (Nat.le_refl _) _
   have PO:=hide (Gk kd n _ (((unhide HE).later hbw).later hba) hkk)
   obtain⟨x,hx⟩:∃ x,x=Y5 (kd,n):=⟨_,rfl⟩
   rw[←hx] at PO
   have HX:=hide hx
   have HBA:=hide hba
   clear hfl hbw hq hq' hkk hx hba
   go_wp2_with fail
   refine (unhide PO).mono ?_
   rintro e w3 ⟨rfl,hb3⟩
   have hf3:=((unhide HF).keep (unhide HBA)).keep hb3
   obtain⟨v,hold⟩:=hf3.old hlt
   have hfree:=hf3.free k
   have HF3:=hide hf3
   clear hb3 hf3
   go_wp2
   go_roundw
   case rel=>
    refine⟨k+1,by omega,by go_num,(unhide HF3).step hlt ?_⟩
    show Value.string x=Cb l k
    rw[unhide HX,unhide HQ];rfl
   case measure=>simp[intOf];omega
  ·clear hfl hbw
   have e:k=len:=by omega
   subst e
   clear hk hlt
   have HJ:Hid (∀ (j:Nat) x,(l.map Y5)[j]? = some x→wr.cell? ⟨w1.heap.size,0+j,none⟩=some (.string x)):=fun j x hj=>by
    have hjl:j<l.length:=by
     rcases Nat.lt_or_ge j l.length with h|h
     ·exact h
     ·rw[List.getElem?_eq_none (by simpa using h)] at hj;cases hj
    rw[Nat.zero_add,(unhide HF).cells (Nat.le_refl _) j (by rw[←unhide HZ];exact hjl)]
    simp[hjl] at hj
    simp[Cb,hjl,hj]
   have HL:Hid ((l.map Y5).length=k):=by rw[List.length_map];exact unhide HZ
   have JN:=hide (Tryz.strings_Join w1.heap.size 0 k (l.map Y5) ⟨#[32]⟩ wr (unhide HJ) (unhide HF).lt (by rw[unhide HL];omega) (by rw[unhide HL];exact Nat.le_refl _) (Nat.le_trans (unhide HTL) (by decide)))
   rw[unhide HL] at JN
   change Hid (Calls _ _ _ _ fun e w'=>e = .returned (.string (Z3 l))∧_) at JN
   obtain⟨t,ht⟩:∃ t,t=Z3 l:=⟨_,rfl⟩
   rw[←ht] at JN
   have HT:=hide ht
   clear ht
   go_wp2_with fail
   refine (unhide JN).mono ?_
   rintro e w4 ⟨rfl,hb4⟩
   have HB4:=hide (Nh (unhide HBW) hb4)
   clear hb4
   go_wp2
   go_ret2
   exact⟨De (unhide HT),unhide HB4⟩
theorem Av(a:Option Addr)(cap:Nat)(w:World) :
  Calls Tryz.prog 136 #[.slice a 0 cap] w fun e w'=>e = .returned (.tuple #[.string ⟨#[]⟩,.int .i64 0])∧Below w.heap.size w w':=by
 obtain⟨i0,hi,hz0,hz1,hz2⟩:=info_parts Tryz.info9
 go_enter Tryz.func136,Tryz.ntmps136
 go_wp2_with fail
 refine (Hv a cap w).mono ?_
 rintro e w1 ⟨rfl,rfl⟩
 go_wp2_with (at_make;refine wpList_make_full _ rfl _ _ 22 rfl w.heap.size 9 i0 (.string ⟨#[]⟩) 1 Tryz.underlying22 hi hz0 hz1 .i64 .i64 _ _ 0 rfl rfl rfl rfl (by rw[hz2];omega) (by unfold maxLen;omega) (Nat.le_refl _) ?_;intro w2 hown2 hgrow2)
 have HB:Hid (Below w.heap.size w w2):=(Below.refl _ _).grown hgrow2 (Nat.le_refl _) (fun k h=>by cases h)
 clear hown2 hgrow2
 refine wp_loop_rounds 1 ?_
 rw[rounds_succ]
 go_wp2_with fail
 refine (Tryz.strings_Join_none _ _ _ _).mono ?_
 rintro e w3 ⟨rfl,rfl⟩
 go_wp2
 go_ret2
 exact⟨rfl,unhide HB⟩
def prT(l:List (Int×Int)):ByteArray:=if chk l=0 then Z3 l else ⟨#[]⟩
theorem Zaa(a:Option Addr)(len cap:Nat)(l:List (Int×Int))(w:World)(hE:Env w)(hO:OpsAt w a len l) :
  Calls Tryz.prog 136 #[.slice a len cap] w fun e w'=>e = .returned (.tuple #[.string (prT l),.int .i64 (chk l)])∧Below w.heap.size w w':=by
 unfold prT
 by_cases hck:chk l=0
 ·rw[if_pos hck,hck]
  obtain⟨hz,hc⟩:=hO
  by_cases h:len=0
  ·subst h
   have e:l=[]:=List.length_eq_zero_iff.1 hz
   subst e
   exact Av a cap w
  ·obtain⟨b,off,rfl,hcell⟩:=hc (by omega)
   exact Au b off len cap l w hE hz (by omega) hck (World.block_lt_of_cell? _ _ (hcell 0 (by omega)).1) hcell
 ·rw[if_neg hck]
  exact E9 a len cap l w hO hck
structure EnvP(w:World):Prop where
 env:Env w
 syn:∃ tp p,w.var? Tryz.prog "strconv.ErrSyntax" = some #[.iface tp p]
 ran:∃ tp p,w.var? Tryz.prog "strconv.ErrRange" = some #[.iface tp p]
 shp:w.ShapedOpen Tryz.prog
theorem Tryz.gSyn:Tryz.prog.globalNamed "strconv.ErrSyntax" = some 5:=by kernel_rfl
theorem Tryz.gRan:Tryz.prog.globalNamed "strconv.ErrRange" = some 6:=by kernel_rfl
theorem EnvP.later{w w':World}(h:EnvP w)(hb:Below w.heap.size w w'):EnvP w' where
 env:=h.env.later hb
 syn:=by obtain⟨tp,p,e⟩:=h.syn;exact⟨tp,p,Joins.var_stays Tryz.gSyn e hb (Nat.le_refl _)⟩
 ran:=by obtain⟨tp,p,e⟩:=h.ran;exact⟨tp,p,Joins.var_stays Tryz.gRan e hb (Nat.le_refl _)⟩
 shp:=h.shp.keptBut (hb.frame (fun _=>False)) (fun _ h=>h.elim)
def Y6(v:Int):ByteArray:=⟨(Lib.itoa v).toArray⟩
end Go.Proofs.YtepmnpapdknocaaGreatDoor
