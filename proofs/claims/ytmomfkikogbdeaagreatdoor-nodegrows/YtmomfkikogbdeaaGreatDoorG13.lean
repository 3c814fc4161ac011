import Derived.Lib.AppendIntMem
import Derived.Lib.ItoaLen
import Derived.Lib.SmallJoins
import Derived.Lib.AtoiAll
import Derived.Test.YtmomfkikogbdeaaGreatDoorG12
set_option maxHeartbeats 6400000
set_option maxRecDepth 10000
namespace Go.Proofs.YtmomfkikogbdeaaGreatDoor
open Go.RowKit
def namesL:List ByteArray:=[⟨#[]⟩,⟨#[]⟩,⟨#[100,117,112]⟩,⟨#[115,119,97,112]⟩,⟨#[100,114,111,112]⟩,⟨#[97,100,100]⟩,⟨#[115,117,98]⟩,⟨#[115,97,109,101]⟩,⟨#[108,101,115,115]⟩,⟨#[110,111,116]⟩,⟨#[97,110,100]⟩,⟨#[118,101,114,105,102,121]⟩,⟨#[104,101,105,103,104,116]⟩,⟨#[109,105,120]⟩]
def Gy(k:Nat):ByteArray:=namesL.getD k ⟨#[]⟩
def Ar:Array Value:=(namesL.map Value.string).toArray
def Xx(o:Int×Int):ByteArray:=if o.1=1 then ⟨(Lib.itoa o.2).toArray⟩ else Gy o.1.toNat
def Vm(l:List (Int×Int)):ByteArray:=⟨(Lib.join ((l.map Xx).map (·.data.toList)) [32]).toArray⟩
structure Env(w:World):Prop where
 tab:Lib.TabIs Tryz.prog w "internal/strconv.uint64pow10" .u64 Lib.pow10Tab
 nam:w.var? Tryz.prog "cairn/lock.names" = some Ar
theorem Tryz.gTab:Tryz.prog.globalNamed "internal/strconv.uint64pow10" = some 2:=by kernel_rfl
theorem Tryz.gNam:Tryz.prog.globalNamed "cairn/lock.names" = some 1:=by kernel_rfl
theorem Env.later{w w':World}(h:Env w)(hb:Below w.heap.size w w'):Env w':=
 ⟨Joins.var_stays Tryz.gTab h.tab hb (Nat.le_refl _),Joins.var_stays Tryz.gNam h.nam hb (Nat.le_refl _)⟩
theorem Env.name{w:World}(h:Env w)(k:Nat)(hk:k<14):w.cell? ⟨1,k,none⟩=some (.string (Gy k)):=by
 have:=World.var?_cell Tryz.gNam h.nam k
 rw[this]
 have hl:k<namesL.length:=hk
 simp[Ar,Gy,hl]
theorem Env.lt{w:World}(h:Env w):1<w.heap.size:=World.block_lt_of_cell? _ _ (h.name 0 (by decide))
theorem Cn{a b:ByteArray}(h:a=b):Ending.returned (.string a) = .returned (.string b):=by rw[h]
theorem Gk(k n:Int)(w:World)(hE:Env w)(hc:Wv (k,n)=0) :
  Calls Tryz.prog 286 #[.agg #[.int .i64 k,.int .i64 n]] w fun e w'=>e = .returned (.string (Xx (k,n)))∧Below w.heap.size w w':=by
 have hb:Below w.heap.size w (w.alloc (.cells #[.int .i64 k,.int .i64 n] 164)):=(Below.refl _ _).alloc (Nat.le_refl _) _
 have HB:=Zb hb
 have HE:=Zb hE
 by_cases h1:k=1
 ·subst h1
  have hn : -1000000≤n∧n≤1000000:=by
   have:fit n=true:=by
    simp only[Wv] at hc
    cases h:fit n with
    | true=>rfl
    | false=>simp[h] at hc
   exact (Uk n).1 this
  have g0 : -9223372036854775808≤n:=by omega
  have g1:n≤9223372036854775807:=by omega
  have e:Xx (1,n)=⟨(Lib.itoa n).toArray⟩:=by simp[Xx]
  rw[e]
  have HT:=Zb (hE.later hb).tab
  clear hE hc hb e hn
  go_enter Tryz.func286,Tryz.ntmps286
  go_wp2_with fail
  refine (Tryz.strconv_Itoa n g0 g1 _ (Za HT)).mono ?_
  rintro e w1 ⟨rfl,k,os,rfl⟩
  have HB2:=Zb ((Za HB).trans ((Lib.below_grow _ _ (Nat.le_refl _) k os).mono (Za HB).size))
  go_wp2
  go_ret
  exact⟨rfl,Za HB2⟩
 ·have hk:1≤k∧k≤13:=by
   simp only[Wv] at hc
   split at hc
   ·cases hc
   ·omega
  obtain⟨m,rfl⟩:=Int.eq_ofNat_of_zero_le (show 0≤k by omega)
  have e:Xx ((m:Int),n)=Gy m:=by simp[Xx];intro h;omega
  have c1:=hE.name m (by omega)
  have hl:=hE.lt
  have g1:((m:Int) == 1)=false:=by simp;omega
  have g2:(m:Int)<14:=by omega
  rw[e]
  obtain⟨x,hx⟩:∃ x,x=Gy m:=⟨_,rfl⟩
  rw[←hx] at c1 ⊢
  clear hE hc hb e h1 hk hx
  go_enter Tryz.func286,Tryz.ntmps286
  go_wp2
  go_ret
  exact⟨rfl,Za HB⟩
theorem Nw{a b:ByteArray}{v:Value}(h:a=b):Ending.returned (.tuple #[.string a,v]) = .returned (.tuple #[.string b,v]):=by rw[h]
theorem Tryz.info9:(Tryz.prog.info? 9).map (fun i=>(i.zero,i.size,i.bytes))=some (some (.string ⟨#[]⟩),1,16):=by kernel_rfl
theorem Aj(o:Int×Int)(h:Wv o=0):(Xx o).data.toList.length≤21:=by
 obtain⟨k,n⟩:=o
 unfold Xx
 split
 ·rename_i h1
  have h1:k=1:=h1
  subst h1
  have hn : -1000000≤n∧n≤1000000:=by
   have:fit n=true:=by
    simp only[Wv] at h
    cases hf:fit n with
    | true=>rfl
    | false=>simp[hf] at h
   exact (Uk n).1 this
  simpa using Lib.itoa_length_le n (by omega) (by omega)
 ·have hk:1≤k∧k≤13:=by
   simp only[Wv] at h
   split at h
   ·cases h
   ·omega
  show (Gy k.toNat).data.toList.length≤21
  have hk2:k.toNat<14:=by omega
  have all:∀ j:Fin 14,(Gy j.val).data.toList.length≤21:=by decide
  exact all ⟨k.toNat,hk2⟩
theorem Ct:∀ (xs:List (List UInt8)),(∀ x∈xs,x.length≤21)→Lib.lens xs≤21*xs.length
 | [],_=>by simp[Lib.lens]
 | x :: r,h=>by
  have h1:=h x (by simp)
  have h2:=Ct r (fun y hy=>h y (by simp[hy]))
  simp only[Lib.lens,List.length_cons] at h2 ⊢
  simp at h2 ⊢
  omega
theorem Su(l:List (Int×Int))(h16:l.length≤16)(h:Qx l=0):(Lib.join ((l.map Xx).map (·.data.toList)) [32]).length≤400:=by
 cases l with
 | nil=>simp[Lib.join_nil]
 | cons o r=>
  rw[List.map_cons,List.map_cons,Lib.join_length]
  have hl:=Ct (((o :: r).map Xx).map (·.data.toList)) (fun x hx=>by
   simp only[List.map_map,List.mem_map,Function.comp] at hx
   obtain⟨q,hq,rfl⟩:=hx
   obtain⟨i,hi,rfl⟩:=List.getElem_of_mem hq
   exact Aj _ (Ho h i hi))
  simp only[List.map_cons,List.length_cons,List.length_map,List.length_nil] at hl h16 ⊢
  omega
theorem Ex(a:Option Addr)(len cap:Nat)(l:List (Int×Int))(w:World)(hO:OpsAt w a len l)(hc:chk l≠0) :
  Calls Tryz.prog 257 #[.slice a len cap] w fun e w'=>e = .returned (.tuple #[.string ⟨#[]⟩,.int .i64 (chk l)])∧Below w.heap.size w w':=by
 have CK:=Zb (Vs a len cap l w hO)
 obtain⟨x,hx⟩:∃ x,x=chk l:=⟨_,rfl⟩
 rw[←hx] at hc CK ⊢
 have hx1:(x != 0)=true:=by simp[hc]
 clear hO hc hx
 go_enter Tryz.func257,Tryz.ntmps257
 go_wp2_with fail
 refine (Za CK).mono ?_
 rintro e w1 ⟨rfl,hb1⟩
 have HB1:=Zb hb1
 clear hb1
 go_wp2
 go_ret2
 exact⟨rfl,Za HB1⟩
def B8(l:List (Int×Int))(j:Nat):Value:=.string (Xx (l.getD j (0,0)))
theorem Ad(b off len cap:Nat)(l:List (Int×Int))(w:World)(hE:Env w)(hz:l.length=len)(hpos:0<len)(hck:chk l=0)(hbl:b<w.heap.size)
  (hc:∀ i,i<len→w.cell? ⟨b,off+i*2,none⟩=some (.int .i64 (l.getD i (0,0)).1)∧w.cell? ⟨b,off+i*2+1,none⟩=some (.int .i64 (l.getD i (0,0)).2)) :
  Calls Tryz.prog 257 #[.slice (some ⟨b,off,none⟩) len cap] w fun e w'=>e = .returned (.tuple #[.string (Vm l),.int .i64 0])∧Below w.heap.size w w':=by
 obtain⟨i0,hi,hz0,hz1,hz2⟩:=info_parts Tryz.info9
 have h16:len≤16:=by
  unfold chk at hck
  split at hck
  ·cases hck
  ·omega
 have hck':Qx l=0:=by
  unfold chk at hck
  split at hck
  ·cases hck
  ·exact hck
 have HK:=Zb (Ho hck')
 have HTL:=Zb (Su l (by omega) hck')
 have CK:=Zb (Vs (some ⟨b,off,none⟩) len cap l w ⟨hz,fun _=>⟨b,off,rfl,hc⟩⟩)
 rw[hck] at CK
 have HE:=Zb hE
 have HC:=Zb hc
 have HZ:=Zb hz
 clear hE hc hz hck hck'
 go_enter Tryz.func257,Tryz.ntmps257
 go_wp2_with fail
 refine (Za CK).mono ?_
 rintro e w1 ⟨rfl,hb1⟩
 have HB1:=Zb hb1
 clear hb1
 go_wp2_with (at_make;refine wpList_make_full _ rfl _ _ 22 rfl w1.heap.size 9 i0 (.string ⟨#[]⟩) 1 Tryz.underlying22 hi hz0 hz1 .i64 .i64 _ _ len rfl rfl rfl rfl (by rw[hz2];omega) (by unfold maxLen;omega) (Nat.le_refl _) ?_;intro w2 hown2 hgrow2)
 have hst:FillV w1.heap.size 9 len (B8 l) w1 w2 0:=⟨⟨_,hown2,fun j hj=>absurd hj (by omega)⟩,(Below.refl _ _).grown hgrow2 (Nat.le_refl _) (fun k h=>by cases h)⟩
 have HST:=Zb hst
 clear hst hown2 hgrow2
 go_loopw [18] (fun i wr=>∃ k:Nat,k≤len∧i = .int .i64 k∧FillV w1.heap.size 9 len (B8 l) w1 wr k) (fun i _=>len - (intOf i).toNat)
 case atStart=>exact⟨0,Nat.zero_le _,rfl,Za HST⟩
 case round=>
  obtain⟨k,hk,rfl,hfl⟩:=hrel
  have HF:=Zb hfl
  have hbw:Below w.heap.size w wr:=(Za HB1).trans (hfl.bel.mono (Za HB1).size)
  have HBW:=Zb hbw
  by_cases hlt:k<len
  ·have hlk:k<l.length:=by rw[Za HZ];exact hlt
   obtain⟨c1,c2⟩:=(Za HC) k hlt
   rw[←hbw.cell (p:=⟨b,off+k*2,none⟩) hbl] at c1
   rw[←hbw.cell (p:=⟨b,off+k*2+1,none⟩) hbl] at c2
   obtain⟨q,hq⟩:∃ q,q=l.getD k (0,0):=⟨_,rfl⟩
   rw[←hq] at c1 c2
   have hq':q=l[k]:=by rw[hq];simp[hlk]
   have hkk:=(Za HK) k hlk
   rw[←hq'] at hkk
   have HQ:=Zb hq
   obtain⟨kd,n⟩:=q
   have hba:Below wr.heap.size wr (wr.alloc (.cells #[.int .i64 kd,.int .i64 n] 164)):=(Below.refl _ _).alloc (Nat.le_refl _) _
   have PO:=Zb (Gk kd n _ (((Za HE).later hbw).later hba) hkk)
   obtain⟨x,hx⟩:∃ x,x=Xx (kd,n):=⟨_,rfl⟩
   rw[←hx] at PO
   have HX:=Zb hx
   have HBA:=Zb hba
   clear hfl hbw hq hq' hkk hx hba
   go_wp2_with fail
   refine (Za PO).mono ?_
   rintro e w3 ⟨rfl,hb3⟩
   have hf3:=((Za HF).keep (Za HBA)).keep hb3
   obtain⟨v,hold⟩:=hf3.old hlt
   have hfree:=hf3.free k
   have HF3:=Zb hf3
   clear hb3 hf3
   go_wp2
   go_roundw
   case rel=>
    refine⟨k+1,by omega,by go_num,(Za HF3).step hlt ?_⟩
    show Value.string x=B8 l k
    rw[Za HX,Za HQ];rfl
   case measure=>simp[intOf];omega
  ·clear hfl hbw
   have e:k=len:=by omega
   subst e
   clear hk hlt
   have HJ:Hid (∀ (j:Nat) x,(l.map Xx)[j]? = some x→wr.cell? ⟨w1.heap.size,0+j,none⟩=some (.string x)):=fun j x hj=>by
    have hjl:j<l.length:=by
     rcases Nat.lt_or_ge j l.length with h|h
     ·exact h
     ·rw[List.getElem?_eq_none (by simpa using h)] at hj;cases hj
    rw[Nat.zero_add,(Za HF).cells (Nat.le_refl _) j (by rw[←Za HZ];exact hjl)]
    simp[hjl] at hj
    simp[B8,hjl,hj]
   have HL:Hid ((l.map Xx).length=k):=by rw[List.length_map];exact Za HZ
   have JN:=Zb (Tryz.strings_Join w1.heap.size 0 k (l.map Xx) ⟨#[32]⟩ wr (Za HJ) (Za HF).lt (by rw[Za HL];omega) (by rw[Za HL];exact Nat.le_refl _) (Nat.le_trans (Za HTL) (by decide)))
   rw[Za HL] at JN
   change Hid (Calls _ _ _ _ fun e w'=>e = .returned (.string (Vm l))∧_) at JN
   obtain⟨t,ht⟩:∃ t,t=Vm l:=⟨_,rfl⟩
   rw[←ht] at JN
   have HT:=Zb ht
   clear ht
   go_wp2_with fail
   refine (Za JN).mono ?_
   rintro e w4 ⟨rfl,hb4⟩
   have HB4:=Zb (Zix (Za HBW) hb4)
   clear hb4
   go_wp2
   go_ret2
   exact⟨Nw (Za HT),Za HB4⟩
theorem Ae(a:Option Addr)(cap:Nat)(w:World) :
  Calls Tryz.prog 257 #[.slice a 0 cap] w fun e w'=>e = .returned (.tuple #[.string ⟨#[]⟩,.int .i64 0])∧Below w.heap.size w w':=by
 obtain⟨i0,hi,hz0,hz1,hz2⟩:=info_parts Tryz.info9
 go_enter Tryz.func257,Tryz.ntmps257
 go_wp2_with fail
 refine (Hu a cap w).mono ?_
 rintro e w1 ⟨rfl,rfl⟩
 go_wp2_with (at_make;refine wpList_make_full _ rfl _ _ 22 rfl w.heap.size 9 i0 (.string ⟨#[]⟩) 1 Tryz.underlying22 hi hz0 hz1 .i64 .i64 _ _ 0 rfl rfl rfl rfl (by rw[hz2];omega) (by unfold maxLen;omega) (Nat.le_refl _) ?_;intro w2 hown2 hgrow2)
 have HB:Hid (Below w.heap.size w w2):=(Below.refl _ _).grown hgrow2 (Nat.le_refl _) (fun k h=>by cases h)
 clear hown2 hgrow2
 refine wp_loop_rounds 1 ?_
 rw[rounds_succ]
 go_wp2_with fail
 refine (Tryz.strings_Join_none _ _ _ _).mono ?_
 rintro e w3 ⟨rfl,rfl⟩
 go_wp2
 go_ret2
 exact⟨rfl,Za HB⟩
def prT(l:List (Int×Int)):ByteArray:=if chk l=0 then Vm l else ⟨#[]⟩
theorem Ey(a:Option Addr)(len cap:Nat)(l:List (Int×Int))(w:World)(hE:Env w)(hO:OpsAt w a len l) :
  Calls Tryz.prog 257 #[.slice a len cap] w fun e w'=>e = .returned (.tuple #[.string (prT l),.int .i64 (chk l)])∧Below w.heap.size w w':=by
 unfold prT
 by_cases hck:chk l=0
 ·rw[if_pos hck,hck]
  obtain⟨hz,hc⟩:=hO
  by_cases h:len=0
  ·subst h
   have e:l=[]:=List.length_eq_zero_iff.1 hz
   subst e
   exact Ae a cap w
  ·obtain⟨b,off,rfl,hcell⟩:=hc (by omega)
   exact Ad b off len cap l w hE hz (by omega) hck (World.block_lt_of_cell? _ _ (hcell 0 (by omega)).1) hcell
 ·rw[if_neg hck]
  exact Ex a len cap l w hO hck
def P6(v:Int):ByteArray:=⟨(Lib.itoa v).toArray⟩
theorem Ziy{a b:ByteArray}(h:a.data.toList=b.data.toList):a=b:=by
 cases a with|mk d=>cases b with|mk e=>cases d;cases e;simp at h;rw[h]
def Um(word:ByteArray)(Z:List Int):ByteArray:=Z.foldl (fun t z=>t++(⟨#[32]⟩++P6 z)) word
theorem Eu(word:ByteArray)(Z:List Int)(z:Int):Um word (Z++[z])=Um word Z++(⟨#[32]⟩++P6 z):=by unfold Um;rw[List.foldl_append];rfl
theorem P5(n:Int)(h : -10000000000≤n∧n≤10000000000):(P6 n).size≤21:=by
 have:=Lib.itoa_length_le n (by omega) (by omega)
 simpa[P6,ByteArray.size] using this
theorem Dh(x:ByteArray)(c:UInt8):((⟨#[c]⟩:ByteArray)++x).size=x.size+1:=by rw[ByteArray.size_append];show 1+x.size=_;omega
theorem Ux(x:ByteArray)(c:UInt8):(x++(⟨#[c]⟩:ByteArray)).size=x.size+1:=by rw[ByteArray.size_append];rfl
theorem Qp{α : Type}(f : α→ByteArray)(m:Nat):∀ (Z:List α) (t:ByteArray),(∀ z∈Z,(f z).size≤m)→(Z.foldl (fun t z=>t++f z) t).size≤t.size+m*Z.length
 | [],t,_=>by simp
 | z :: r,t,h=>by
  have h1:=Qp f m r (t++f z) (fun y hy=>h y (by simp[hy]))
  have h2:=h z (by simp)
  rw[ByteArray.size_append] at h1
  simp only[List.foldl_cons,List.length_cons,Nat.mul_add,Nat.mul_one]
  omega
theorem Uz(word:ByteArray)(Z:List Int)(h:∀ z∈Z,-10000000000≤z∧z≤10000000000):(Um word Z).size≤word.size+22*Z.length:=
 Qp (fun z=>(⟨#[32]⟩:ByteArray)++P6 z) 22 Z word (fun z hz=>by rw[Dh];have:=P5 z (h z hz);omega)
theorem Un(word:ByteArray)(b off n c:Nat)(Z:List Int)(w:World)(hE:Env w)(hw:word.size≤10)(hn:n≤6)(hz:Z.length=n)(hl:b<w.heap.size)
  (hc:∀ i,i<n→w.cell? ⟨b,off+i,none⟩=some (.int .i64 (Z.getD i 0))) (hr:∀ z∈Z,-10000000000≤z∧z≤10000000000) :
  Calls Tryz.prog 105 #[.string word,.slice (some ⟨b,off,none⟩) n c] w fun e w'=>e = .returned (.string (Um word Z))∧Below w.heap.size w w':=by
 have HE:=Zb hE
 have HC:=Zb hc
 have HZ:=Zb hz
 have HR:=Zb hr
 clear hE hc hz hr
 go_enter Tryz.func105,Tryz.ntmps105
 go_wp2
 go_loopw [5,11] (fun s i wr=>∃ k:Nat,k≤n∧i = .int .i64 k∧s = .string (Um word (Z.take k))∧Below w.heap.size w wr) (fun _ i _=>n - (intOf i).toNat)
 case atStart=>exact⟨0,Nat.zero_le _,rfl,rfl,Below.refl _ _⟩
 case round=>
  obtain⟨k,hk,rfl,rfl,hb⟩:=hrel
  have HB:=Zb hb
  by_cases hlt:k<n
  ·have hlk:k<Z.length:=by rw[Za HZ];exact hlt
   have c1:=(Za HC) k hlt
   rw[←hb.cell (p:=⟨b,off+k,none⟩) hl] at c1
   have e1:Z.getD k 0=Z[k]:=by simp[hlk]
   rw[e1] at c1
   have hzr:=(Za HR) Z[k] (List.getElem_mem hlk)
   have hS:=Eu word (Z.take k) Z[k]
   rw[←List.take_succ_eq_append_getElem hlk] at hS
   have hTs:(Um word (Z.take k)).size≤200:=by
    have:=Uz word (Z.take k) (fun z hz=>(Za HR) z (List.mem_of_mem_take hz))
    rw[List.length_take] at this
    omega
   obtain⟨z,hz⟩:∃ z,Z[k]=z:=⟨_,rfl⟩
   rw[hz] at c1 hzr hS
   obtain⟨T,hT⟩:∃ T,Um word (Z.take k)=T:=⟨_,rfl⟩
   rw[hT] at hS hTs ⊢
   have HS:=Zb hS
   have hXs:=P5 z hzr
   have hXs1:((⟨#[32]⟩:ByteArray)++P6 z).size≤22:=by rw[Dh];omega
   have IT:Hid (∀ w,Env w→Calls Tryz.prog 167 #[.int .i64 z] w fun e w'=>e = .returned (.string (P6 z))∧Below w.heap.size w w'):=fun w hw=>
    (Tryz.strconv_Itoa z (by omega) (by omega) w hw.tab).mono fun e w' ⟨h1,k,os,h2⟩=>⟨h1,by rw[h2];exact Lib.below_grow _ _ (Nat.le_refl _) k os⟩
   have EE:=Zb ((Za HE).later hb)
   clear hb hz hT hS e1 hzr
   go_wp2_with fail
   refine ((Za IT) _ (Za EE)).mono ?_
   rintro e w3 ⟨rfl,hb3⟩
   have HB3:=Zb (Zf (Za HB) hb3)
   clear hb3
   go_wp2
   go_roundw
   case rel=>exact⟨k+1,by omega,by go_num,by rw[Za HS],Za HB3⟩
   case measure=>simp[intOf];omega
  ·have e:k=n:=by omega
   subst e
   have HT:Hid (Um word (Z.take k)=Um word Z):=by show _=_;rw[List.take_of_length_le (by rw[Za HZ];exact Nat.le_refl _)]
   clear hb
   go_wp2
   go_ret
   exact⟨Cn (Za HT),Za HB⟩
def Lm(word:ByteArray)(Z:List Int)(l:List (Int×Int)):ByteArray:=((Um word Z++⟨#[58]⟩)++Vm l)++⟨#[10]⟩
theorem J2(l:List (Int×Int))(h:chk l=0):(Vm l).size≤400:=by
 unfold chk at h
 split at h
 ·cases h
 ·have:=Su l (by omega) h
  simpa[Vm,ByteArray.size] using this
theorem Ha(word:ByteArray)(Z:List Int)(l:List (Int×Int))(hw:word.size≤10)(hz:Z.length≤2)(hr:∀ z∈Z,-10000000000≤z∧z≤10000000000)(hl:chk l=0):(Lm word Z l).size≤460:=by
 unfold Lm
 have h1:=Uz word Z hr
 have h2:=J2 l hl
 rw[Ux,ByteArray.size_append,Ux]
 have h3:22*Z.length≤44:=by omega
 omega
theorem Ta(a:Option Addr)(len cap:Nat)(l:List (Int×Int))(word:ByteArray)(b off n c:Nat)(Z:List Int)(t:ByteArray)(w:World)(hE:Env w)(hO:OpsAt w a len l)(hck:chk l=0)(hw:word.size≤10)(hn:n≤2)(hz:Z.length=n)(hl:b<w.heap.size)
  (hc:∀ i,i<n→w.cell? ⟨b,off+i,none⟩=some (.int .i64 (Z.getD i 0))) (hr:∀ z∈Z,-10000000000≤z∧z≤10000000000) (ht:Lm word Z l=t) :
  Calls Tryz.prog 211 #[.slice a len cap,.string word,.slice (some ⟨b,off,none⟩) n c] w fun e w'=>e = .returned (.string t)∧Below w.heap.size w w':=by
 have PR:=Zb (Ey a len cap l w hE hO)
 have e:prT l=Vm l:=by unfold prT;rw[if_pos hck]
 rw[e,hck] at PR
 have R:Hid (∀ w',Below w.heap.size w w'→Calls Tryz.prog 105 #[.string word,.slice (some ⟨b,off,none⟩) n c] w' fun e w2=>e = .returned (.string (Um word Z))∧Below w'.heap.size w' w2):=fun w' hb=>
  Un word b off n c Z w' (hE.later hb) hw (by omega) hz (Nat.lt_of_lt_of_le hl hb.size) (fun i hi=>by rw[hb.cell (p:=⟨b,off+i,none⟩) hl];exact hc i hi) hr
 have s1:(Um word Z).size≤54:=by have:=Uz word Z hr;omega
 have s2:=J2 l hck
 unfold Lm at ht
 obtain⟨A,hA⟩:∃ A,Um word Z=A:=⟨_,rfl⟩
 obtain⟨B,hB⟩:∃ B,Vm l=B:=⟨_,rfl⟩
 rw[hA] at R s1 ht
 rw[hB] at PR s2 ht
 have s3:(A++(⟨#[58]⟩:ByteArray)).size≤55:=by rw[Ux];omega
 have s4:((A++(⟨#[58]⟩:ByteArray))++B).size≤455:=by rw[ByteArray.size_append];omega
 have HT:=Zb ht
 clear hE hO hck hz hc hr e hA hB ht
 go_enter Tryz.func211,Tryz.ntmps211
 go_wp2_with fail
 refine (Za PR).mono ?_
 rintro e w1 ⟨rfl,hb1⟩
 have HB1:=Zb hb1
 clear hb1
 go_wp2_with fail
 refine ((Za R) w1 (Za HB1)).mono ?_
 rintro e w2 ⟨rfl,hb2⟩
 have HB2:=Zb (Zf (Za HB1) hb2)
 clear hb2
 go_wp2
 go_ret
 exact⟨Cn (Za HT),Za HB2⟩
def txB:ByteArray:=⟨#[116,120]⟩
def inB:ByteArray:=⟨#[105,110]⟩
def Zia:ByteArray:=⟨#[111,117,116]⟩
def V4(h:Int):ByteArray:=Um txB [h]++⟨#[10]⟩
def He(x:InD):ByteArray:=Lm inB [x.1,x.2.1] x.2.2
def Td(x:Z0):ByteArray:=Lm Zia [x.1] x.2
def Xl(h:Int)(I:List InD):ByteArray:=I.foldl (fun t x=>t++He x) (V4 h)
def Wl(t:ByteArray)(O:List Z0):ByteArray:=O.foldl (fun t x=>t++Td x) t
def Z5(t:TxD):ByteArray:=Wl (Xl t.1 t.2.1) t.2.2
theorem Mh(h:Int)(I:List InD)(x:InD):Xl h (I++[x])=Xl h I++He x:=by unfold Xl;rw[List.foldl_append];rfl
theorem Kg(t:ByteArray)(O:List Z0)(x:Z0):Wl t (O++[x])=Wl t O++Td x:=by unfold Wl;rw[List.foldl_append];rfl
theorem J5(h:Int)(hh:0≤h∧h≤1000):(V4 h).size≤30:=by
 unfold V4
 have:=Uz txB [h] (fun z hz=>by simp at hz;omega)
 rw[Ux]
 have e:txB.size=2:=rfl
 simp only[List.length_cons,List.length_nil] at this
 omega
theorem Sz(x:InD)(h:Pm x=true∧chk x.2.2=0):(He x).size≤460:=by
 have hp:=(Db x).1 h.1
 exact Ha inB [x.1,x.2.1] x.2.2 (by decide) (by simp) (fun z hz=>by simp at hz;omega) h.2
theorem Tc(x:Z0)(h:(1≤x.1∧x.1≤1000000000)∧chk x.2=0):(Td x).size≤460:=
 Ha Zia [x.1] x.2 (by decide) (by simp) (fun z hz=>by simp at hz;omega) h.2
theorem Qm(h:Int)(I:List InD)(hh:0≤h∧h≤1000)(hI:∀ x∈I,Pm x=true∧chk x.2.2=0):(Xl h I).size≤30+460*I.length:=by
 have h1:=Qp He 460 I (V4 h) (fun x hx=>Sz x (hI x hx))
 have h2:=J5 h hh
 have h3:(Xl h I).size≤(V4 h).size+460*I.length:=h1
 omega
theorem J1(t:ByteArray)(O:List Z0)(hO:∀ x∈O,(1≤x.1∧x.1≤1000000000)∧chk x.2=0):(Wl t O).size≤t.size+460*O.length:=
 Qp Td 460 O t (fun x hx=>Tc x (hO x hx))
theorem Qi(w:World)(x:Value)(t:TypeId):(w.alloc (.cells #[x] t)).cell? ⟨w.heap.size,0,none⟩=some x:=by rw[World.cell?_alloc_at _ _ _ _ rfl];rfl
def txT(t:TxD):ByteArray:=if Zx t=0 then Z5 t else ⟨#[]⟩
theorem Nf(h:Int)(ai ao:Option Addr)(ni ci no co:Nat)(I:List InD)(O:List Z0)(x:Int)(w:World)(hI:InsAt w ai ni I)(hO:OutsAt w ao no O)(sI:SlOk ai ni ci)(hx:Zx (h,I,O)=x)(h0:x≠0) :
  Calls Tryz.prog 155 #[.agg #[.int .i64 h,.slice ai ni ci,.slice ao no co]] w fun e w'=>e = .returned (.tuple #[.string ⟨#[]⟩,.int .i64 x])∧Below w.heap.size w w':=by
 have hb:=Zi w (.cells #[.int .i64 h,.slice ai ni ci,.slice ao no co] 59)
 have HB:=Zb hb
 have C:=Zb (Ub h ai ao ni ci no co I O _ (hI.later hb) (hO.later hb) sI)
 rw[hx] at C
 have g:(x != 0)=true:=by simp[h0]
 clear hb hI hO sI hx h0
 go_enter Tryz.func155,Tryz.ntmps155
 go_wp2_with fail
 refine (Za C).mono ?_
 rintro e w2 ⟨rfl,hb2⟩
 have HB2:=Zb (Zf (Za HB) hb2)
 clear hb2
 go_wp2
 go_ret2
 exact⟨rfl,Za HB2⟩
theorem Ry(h:Int)(ai ao:Option Addr)(ni ci no co:Nat)(I:List InD)(O:List Z0)(w:World)(hE:Env w)(hI:InsAt w ai ni I)(hO:OutsAt w ao no O)(sI:SlOk ai ni ci)(hx:Zx (h,I,O)=0) :
  Calls Tryz.prog 155 #[.agg #[.int .i64 h,.slice ai ni ci,.slice ao no co]] w fun e w'=>e = .returned (.tuple #[.string (Z5 (h,I,O)),.int .i64 0])∧Below w.heap.size w w':=by
 have ok:=TxOk.of hx
 have hb:=Zi w (.cells #[.int .i64 h,.slice ai ni ci,.slice ao no co] 59)
 obtain⟨n0,n1,n2⟩:=Ut w (.int .i64 h) (.slice ai ni ci) (.slice ao no co) 59
 have HB:=Zb hb
 have C:=Zb (Ub h ai ao ni ci no co I O _ (hI.later hb) (hO.later hb) sI)
 rw[hx] at C
 have N0:=Zb n0
 have N1:=Zb n1
 have N2:=Zb n2
 have hi6:ni≤6:=by have:=ok.ins6;have:=hI.1;simp only at *;omega
 have ho6:no≤6:=by have:=ok.outs6;have:=hO.1;simp only at *;omega
 have hpos:0<no:=by have:=ok.some;have:=hO.1;simp only at *;omega
 have HI:=Zb hI
 have HO:=Zb hO
 have HE:=Zb hE
 have HG:=Zb ok.hgt
 have HII:=Zb ok.ins
 have HOO:=Zb ok.outs
 clear hb hI hO sI hx n0 n1 n2 hE ok
 go_enter Tryz.func155,Tryz.ntmps155
 go_wp2_with fail
 refine (Za C).mono ?_
 rintro e w2 ⟨rfl,hb2⟩
 have m0:=Ze hb2 (Za N0)
 have M1:=Zb (Ze hb2 (Za N1))
 have M2:=Zb (Ze hb2 (Za N2))
 have s2:w.heap.size<w2.heap.size:=World.block_lt_of_cell? _ _ m0
 have hbw2:=Zf (Za HB) hb2
 have ba:=Zi w2 (.cells #[.int .i64 h] 3)
 have R:=Zb (Un txB w2.heap.size 0 1 1 [h] (w2.alloc (.cells #[.int .i64 h] 3)) ((Za HE).later (Zf hbw2 ba)) (by decide) (by decide) rfl (by simp) (fun i hi=>by
  have e:i=0:=by omega
  subst e
  exact Qi w2 (.int .i64 h) 3) (fun z hz=>by have:=Za HG;simp at hz;omega))
 have HBA:=Zb ba
 have HB2:=Zb hb2
 have HBW2:=Zb hbw2
 have hs:=J5 h (Za HG)
 have hs0:(Um txB [h]).size≤29:=by
  have e:V4 h=Um txB [h]++⟨#[10]⟩:=rfl
  rw[e,Ux] at hs
  omega
 obtain⟨T0,hT0⟩:∃ T0,Um txB [h]=T0:=⟨_,rfl⟩
 have HT0:Hid (T0++⟨#[10]⟩=V4 h):=by show _=_;rw[←hT0];rfl
 rw[hT0] at R hs0
 clear hb2 hbw2 ba hs hT0
 go_wp2_with fail
 refine (Za R).mono ?_
 rintro e w3 ⟨rfl,hb3⟩
 have hb3':=Zf (Za HBA) hb3
 have m1:=Ze hb3' (Za M1)
 have M2':=Zb (Ze hb3' (Za M2))
 have s3:w.heap.size<w3.heap.size:=World.block_lt_of_cell? _ _ m1
 have HBW3:=Zb (Zf (Za HBW2) hb3')
 clear hb3 hb3'
 go_wp2
 go_loopw [5,23] (fun s i wr=>∃ k:Nat,k≤ni∧i = .int .i64 k∧s = .string (Xl h (I.take k))∧Below w3.heap.size w3 wr) (fun _ i _=>ni - (intOf i).toNat)
 case atStart=>exact⟨0,Nat.zero_le _,rfl,by rw[Za HT0];rfl,Below.refl _ _⟩
 case round=>
  obtain⟨k,hk,rfl,rfl,hbr⟩:=hrel
  have HBR:=Zb hbr
  have hbw:=Zf (Za HBW3) hbr
  have HBW:=Zb hbw
  by_cases hlt:k<ni
  ·have hlk:k<I.length:=by rw[(Za HI).1];exact hlt
   obtain⟨b,off,rfl,hbl,hcell⟩:=((Za HI).later hbw).2 (by omega)
   obtain⟨g1,g2,ka,kn,kc,g3,g4,_⟩:=hcell k hlk
   have hok:=(Za HII) I[k] (List.getElem_mem hlk)
   have hS:=Mh h (I.take k) I[k]
   rw[←List.take_succ_eq_append_getElem hlk] at hS
   have hTs:(Xl h (I.take k)).size≤3000:=by
    have:=Qm h (I.take k) (Za HG) (fun x hx=>(Za HII) x (List.mem_of_mem_take hx))
    rw[List.length_take] at this
    omega
   have hXs:=Sz I[k] hok
   obtain⟨x,hx⟩:∃ x,I[k]=x:=⟨_,rfl⟩
   rw[hx] at g1 g2 g4 hok hS hXs
   obtain⟨x1,x2,key⟩:=x
   simp only at g1 g2 g3 g4
   have hp:=(Db _).1 hok.1
   simp only at hp
   obtain⟨T,hT⟩:∃ T,Xl h (I.take k)=T:=⟨_,rfl⟩
   obtain⟨X,hX⟩:∃ X,He (x1,x2,key)=X:=⟨_,rfl⟩
   rw[hT,hX] at hS
   rw[hT] at hTs ⊢
   rw[hX] at hXs
   have HS:=Zb hS
   have b1:=Zi wr (.cells #[.int .i64 x1,.int .i64 x2,.slice ka kn kc] 119)
   have b2:=Zi (wr.alloc (.cells #[.int .i64 x1,.int .i64 x2,.slice ka kn kc] 119)) (.cells #[.int .i64 x1,.int .i64 x2] 3)
   have b12:=Zf b1 b2
   have t2:=Kz (wr.alloc (.cells #[.int .i64 x1,.int .i64 x2,.slice ka kn kc] 119)) (.int .i64 x1) (.int .i64 x2) 3
   have esz:(wr.alloc (.cells #[.int .i64 x1,.int .i64 x2,.slice ka kn kc] 119)).heap.size=wr.heap.size+1:=by simp
   rw[esz] at t2
   have PL:=Zb (Ta ka kn kc key inB (wr.heap.size+1) 0 2 2 [x1,x2] X ((wr.alloc (.cells #[.int .i64 x1,.int .i64 x2,.slice ka kn kc] 119)).alloc (.cells #[.int .i64 x1,.int .i64 x2] 3)) (((Za HE).later hbw).later b12) (g4.later b12) hok.2 (by decide) (by decide) rfl (by simp) (fun i hi=>by
    have e:i=0∨i=1:=by omega
    rcases e with rfl|rfl
    ·exact t2.1
    ·exact t2.2) (fun z hz=>by simp at hz;omega) hX)
   have HB12:=Zb b12
   clear hbr hbw hcell g4 hok hx hT hX hS b1 b2 b12 t2 esz hp
   go_wp2_with fail
   refine (Za PL).mono ?_
   rintro e w4 ⟨rfl,hb4⟩
   have HB4:=Zb ((Za HBR).trans ((Zf (Za HB12) hb4).mono (Za HBR).size))
   clear hb4
   go_wp2
   go_roundw
   case rel=>exact⟨k+1,by omega,by go_num,by rw[Za HS],Za HB4⟩
   case measure=>simp[intOf];omega
  ·have e:k=ni:=by omega
   subst e
   have HT:Hid (Xl h (I.take k)=Xl h I):=by show _=_;rw[List.take_of_length_le (by rw[(Za HI).1];exact Nat.le_refl _)]
   have hTs:=Qm h I (Za HG) (Za HII)
   have hil:I.length≤6:=by rw[(Za HI).1];exact hi6
   obtain⟨T1,hT1⟩:∃ T1,Xl h I=T1:=⟨_,rfl⟩
   rw[hT1] at HT hTs
   have HT1:=Zb hT1
   have m2:=Ze hbr (Za M2')
   have s4:w.heap.size<wr.heap.size:=World.block_lt_of_cell? _ _ m2
   rw[Za HT]
   clear hbr hT1 hk hlt
   go_wp2
   go_loopw [5,43] (fun s i wz=>∃ j:Nat,j≤no∧i = .int .i64 j∧s = .string (Wl T1 (O.take j))∧Below wr.heap.size wr wz) (fun _ i _=>no - (intOf i).toNat)
   case atStart=>exact⟨0,Nat.zero_le _,rfl,rfl,Below.refl _ _⟩
   case round=>
    obtain⟨j,hj,rfl,rfl,hbz⟩:=hrel
    have HBZ:=Zb hbz
    have hbv:=Zf (Za HBW) hbz
    have HBV:=Zb hbv
    by_cases hlt:j<no
    ·have hlk:j<O.length:=by rw[(Za HO).1];exact hlt
     obtain⟨b,off,rfl,hbl,hcell⟩:=((Za HO).later hbv).2 (by omega)
     obtain⟨g1,ka,kn,kc,g3,g4,_⟩:=hcell j hlk
     have hok:=(Za HOO) O[j] (List.getElem_mem hlk)
     have hS:=Kg T1 (O.take j) O[j]
     rw[←List.take_succ_eq_append_getElem hlk] at hS
     have hTs2:(Wl T1 (O.take j)).size≤6000:=by
      have:=J1 T1 (O.take j) (fun x hx=>(Za HOO) x (List.mem_of_mem_take hx))
      rw[List.length_take] at this
      omega
     have hXs:=Tc O[j] hok
     obtain⟨x,hx⟩:∃ x,O[j]=x:=⟨_,rfl⟩
     rw[hx] at g1 g4 hok hS hXs
     obtain⟨x1,key⟩:=x
     simp only at g1 g3 g4
     have hp:=hok.1
     simp only at hp
     obtain⟨T,hT⟩:∃ T,Wl T1 (O.take j)=T:=⟨_,rfl⟩
     obtain⟨X,hX⟩:∃ X,Td (x1,key)=X:=⟨_,rfl⟩
     rw[hT,hX] at hS
     rw[hT] at hTs2 ⊢
     rw[hX] at hXs
     have HS:=Zb hS
     have b1:=Zi wr (.cells #[.int .i64 x1,.slice ka kn kc] 122)
     have b2:=Zi (wr.alloc (.cells #[.int .i64 x1,.slice ka kn kc] 122)) (.cells #[.int .i64 x1] 3)
     have b12:=Zf b1 b2
     have t2:=Qi (wr.alloc (.cells #[.int .i64 x1,.slice ka kn kc] 122)) (.int .i64 x1) 3
     have esz:(wr.alloc (.cells #[.int .i64 x1,.slice ka kn kc] 122)).heap.size=wr.heap.size+1:=by simp
     rw[esz] at t2
     have PL:=Zb (Ta ka kn kc key Zia (wr.heap.size+1) 0 1 1 [x1] X ((wr.alloc (.cells #[.int .i64 x1,.slice ka kn kc] 122)).alloc (.cells #[.int .i64 x1] 3)) (((Za HE).later hbv).later b12) (g4.later b12) hok.2 (by decide) (by decide) rfl (by simp) (fun i hi=>by
      have e:i=0:=by omega
      subst e
      exact t2) (fun z hz=>by simp at hz;omega) hX)
     have HB12:=Zb b12
     clear hbz hbv hcell g4 hok hx hT hX hS b1 b2 b12 t2 esz hp
     go_wp2_with fail
     refine (Za PL).mono ?_
     rintro e w4 ⟨rfl,hb4⟩
     have HB4:=Zb ((Za HBZ).trans ((Zf (Za HB12) hb4).mono (Za HBZ).size))
     clear hb4
     go_wp2
     go_roundw
     case rel=>exact⟨j+1,by omega,by go_num,by rw[Za HS],Za HB4⟩
     case measure=>simp[intOf];omega
    ·have HF:Hid (Wl T1 (O.take j)=Z5 (h,I,O)):=by
      show _=_
      rw[List.take_of_length_le (by rw[(Za HO).1];omega),←Za HT1];rfl
     clear hbz hbv
     go_wp2
     go_ret2
     exact⟨Nw (Za HF),Za HBV⟩
theorem P3(h:Int)(ai ao:Option Addr)(ni ci no co:Nat)(I:List InD)(O:List Z0)(t:ByteArray)(x:Int)(w:World)(hE:Env w)(hI:InsAt w ai ni I)(hO:OutsAt w ao no O)(sI:SlOk ai ni ci)(hx:Zx (h,I,O)=x)(ht:txT (h,I,O)=t) :
  Calls Tryz.prog 155 #[.agg #[.int .i64 h,.slice ai ni ci,.slice ao no co]] w fun e w'=>e = .returned (.tuple #[.string t,.int .i64 x])∧Below w.heap.size w w':=by
 subst ht
 by_cases h0:Zx (h,I,O)=0
 ·rw[h0] at hx
  subst hx
  unfold txT
  rw[if_pos h0]
  exact Ry h ai ao ni ci no co I O w hE hI hO sI h0
 ·unfold txT
  rw[if_neg h0]
  exact Nf h ai ao ni ci no co I O x w hI hO sI hx (by rw[←hx];exact h0)
def blockB:ByteArray:=⟨#[98,108,111,99,107]⟩
def Wg:List TxD→ByteArray
 | []=>⟨#[]⟩
 | t :: r=>Z5 t++Wg r
def Xt(b:Zk):ByteArray:=(Um blockB [b.1,b.2.1,b.2.2.1,b.2.2.2.1]++⟨#[10]⟩)++Wg b.2.2.2.2
def Pr(b:Zk):ByteArray:=if Yt b=0 then Xt b else ⟨#[]⟩
theorem Qd(h:Int):∀ (i:Nat) (T:List TxD),Xr h i T=0→∀ t∈T,Zx t=0
 | _,[],_,t,ht=>by cases ht
 | i,x :: r,e,t,ht=>by
  unfold Xr at e
  split at e
  ·rename_i q;exact absurd e q
  ·rename_i q
   split at e
   ·cases e
   ·rcases List.mem_cons.1 ht with rfl|ht
    ·exact Classical.not_not.1 q
    ·exact Qd h (i+1) r e t ht
theorem Lr{p h k n:Int}(e:Wu p h k n=true):0≤p∧p≤120∧1≤h∧h≤1000∧1≤k∧k≤1000∧0≤n∧n≤1000000000:=by
 unfold Wu at e
 rw[Bool.and_eq_true,Bool.and_eq_true,Bool.and_eq_true,Bool.and_eq_true,Bool.and_eq_true,Bool.and_eq_true,Bool.and_eq_true] at e
 obtain⟨⟨a,b⟩,⟨c,d⟩,⟨e,f⟩,g,h⟩:=e
 exact⟨of_decide_eq_true a,of_decide_eq_true b,of_decide_eq_true c,of_decide_eq_true d,of_decide_eq_true e,of_decide_eq_true f,of_decide_eq_true g,of_decide_eq_true h⟩
theorem Vr{p h k n:Int}{T:List TxD}(e:Yt (p,h,k,n,T)=0):Wu p h k n=true∧0<T.length∧T.length≤4∧Xr h 0 T=0∧(∀ t∈T,Zx t=0):=by
 unfold Yt at e
 simp only at e
 split at e
 ·cases e
 rename_i q1
 split at e
 ·cases e
 rename_i q2
 split at e
 ·cases e
 rename_i q3
 exact⟨by cases q:Wu p h k n with|true=>rfl|false=>exact absurd q q1,by omega,by omega,e,Qd h 0 T e⟩
theorem Qw{α : Type}:∀ (L:List (List α)),([]:List α).intercalate L=L.flatten
 | []=>rfl
 | [x]=>by simp[List.intercalate]
 | x :: y :: r=>by
  have:=Qw (y :: r)
  simp[List.intercalate] at this ⊢
  exact this
theorem Nd(t:TxD)(h:Zx t=0):(Z5 t).size≤6000:=by
 have ok:=TxOk.of h
 have h1:=J1 (Xl t.1 t.2.1) t.2.2 ok.outs
 have h2:=Qm t.1 t.2.1 ok.hgt ok.ins
 have h3:=ok.ins6
 have h4:=ok.outs6
 unfold Z5
 omega
theorem Rw:∀ (T:List TxD),(∀ t∈T,Zx t=0)→(Wg T).size≤6000*T.length
 | [],_=>by simp[Wg];rfl
 | t :: r,h=>by
  have h1:=Nd t (h t (List.mem_cons_self ..))
  have h2:=Rw r (fun x hx=>h x (List.mem_cons_of_mem _ hx))
  rw[Wg,ByteArray.size_append,List.length_cons]
  omega
theorem Rx:∀ (T:List TxD),(Wg T).data.toList=((T.map Z5).map (·.data.toList)).flatten
 | []=>rfl
 | t :: r=>by
  rw[Wg,ByteArray.data_append,Array.toList_append,Rx r]
  rfl
theorem Lo(T:List TxD):(⟨(Lib.join ((T.map Z5).map (·.data.toList)) []).toArray⟩:ByteArray)=Wg T:=by
 refine Ziy ?_
 rw[Rx]
 show Lib.join _ _=_
 unfold Lib.join
 exact Qw _
def txV(T:List TxD)(i:Nat):Value:=.string (Z5 (T.getD i (0,[],[])))
theorem Q9(b off m c:Nat)(T:List TxD)(w:World)(hE:Env w)(hz:T.length=m)(hm:m≤4)(hck:∀ t∈T,Zx t=0)(hc:∀ i (h:i<T.length),TxAt w b (off+i*3) T[i]) :
  Calls Tryz.prog 87 #[.slice (some ⟨b,off,none⟩) m c] w fun e w'=>e = .returned (.slice (some ⟨w.heap.size,0,none⟩) m m)∧FillV w.heap.size 9 m (txV T) w w' m:=by
 obtain⟨i0,hi,hz0,hz1,hz2⟩:=info_parts Tryz.info9
 have HE:=Zb hE
 have HC:=Zb hc
 have HZ:=Zb hz
 have HK:=Zb hck
 clear hE hc hz hck
 go_enter Tryz.func87,Tryz.ntmps87
 go_wp2_with (at_make;refine wpList_make_full _ rfl _ _ 22 rfl w.heap.size 9 i0 (.string ⟨#[]⟩) 1 Tryz.underlying22 hi hz0 hz1 .i64 .i64 _ _ m rfl rfl rfl rfl (by rw[hz2];omega) (by unfold maxLen;omega) (Nat.le_refl _) ?_;intro w2 hown2 hgrow2)
 have hst:FillV w.heap.size 9 m (txV T) w w2 0:=⟨⟨_,hown2,fun j hj=>absurd hj (by omega)⟩,(Below.refl _ _).grown hgrow2 (Nat.le_refl _) (fun k h=>by cases h)⟩
 have HST:=Zb hst
 clear hst hown2 hgrow2
 go_loopw [11] (fun i wr=>∃ k:Nat,k≤m∧i = .int .i64 k∧FillV w.heap.size 9 m (txV T) w wr k) (fun i _=>m - (intOf i).toNat)
 case atStart=>exact⟨0,Nat.zero_le _,rfl,Za HST⟩
 case round=>
  obtain⟨k,hk,rfl,hfl⟩:=hrel
  have HF:=Zb hfl
  have hbw:Below w.heap.size w wr:=hfl.bel
  have HBW:=Zb hbw
  by_cases hlt:k<m
  ·have hlk:k<T.length:=by rw[Za HZ];exact hlt
   have hin:=TxAt.kept _ _ _ _ _ hbw ((Za HC) k hlk)
   have hx:=(Za HK) T[k] (List.getElem_mem _)
   have HQ:Hid (T.getD k (0,[],[])=T[k]):=by show _=_;simp[hlk]
   obtain⟨t,ht⟩:∃ t,T[k]=t:=⟨_,rfl⟩
   rw[ht] at hin hx HQ
   obtain⟨t1,I,O⟩:=t
   obtain⟨g0,⟨ai,ni,ci,g1,hI,sI⟩,ao,no,co,g2,hO,_⟩:=hin
   simp only at g0 g1 g2 hI hO
   obtain⟨Y,hY⟩:∃ Y,Y=wr.alloc (.cells #[.int .i64 t1,.slice ai ni ci,.slice ao no co] 59):=⟨_,rfl⟩
   have hbY:Below wr.heap.size wr Y:=by rw[hY];exact Zi _ _
   have hY1:Y.heap[wr.heap.size]? = some (.cells [.int .i64 t1,.slice ai ni ci,.slice ao no co].toArray 59 (0,0)):=by rw[hY];exact Zu _ _ _ _ _
   have y0:=Zd hY1 0 _ rfl
   have y1:=Zd hY1 1 _ rfl
   have y2:=Zd hY1 2 _ rfl
   have yl:=lt_of_block hY1
   have PO:=Zb (Ry t1 ai ao ni ci no co I O Y ((Za HE).later (Zf hbw hbY)) (hI.later hbY) (hO.later hbY) sI hx)
   obtain⟨x,hxt⟩:∃ x,x=Z5 (t1,I,O):=⟨_,rfl⟩
   rw[←hxt] at PO
   have HX:=Zb hxt
   have HBY:=Zb hbY
   clear hfl hbw ht hx hY1 hbY hI hO sI hxt
   go_wp2_with fail
   rw[←hY]
   clear hY
   go_wp2_with fail
   refine (Za PO).mono ?_
   rintro e w3 ⟨rfl,hb3⟩
   have hf3:=((Za HF).keep (Za HBY)).keep hb3
   obtain⟨v,hold⟩:=hf3.old hlt
   have hfree:=hf3.free k
   have hl3:=hf3.lt
   have HF3:=Zb hf3
   clear hb3 hf3 y0 y1 y2 yl g0 g1 g2
   go_wp2
   go_roundw
   case rel=>
    refine⟨k+1,by omega,by go_num,(Za HF3).step hlt ?_⟩
    show Value.string x=txV T k
    unfold txV
    rw[Za HX,Za HQ]
   case measure=>simp[intOf];omega
  ·clear hfl hbw
   have e:k=m:=by omega
   subst e
   clear hk hlt
   go_wp2
   go_ret
   exact⟨rfl,Za HF⟩
end Go.Proofs.YtmomfkikogbdeaaGreatDoor
