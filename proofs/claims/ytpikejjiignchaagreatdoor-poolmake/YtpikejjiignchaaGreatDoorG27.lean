import Derived.Test.YtpikejjiignchaaGreatDoorG26
import Derived.Lib.AppendIntMem
import Derived.Lib.ItoaLen
import Derived.Lib.SmallJoins
import Derived.Lib.ParseIntBTie
set_option maxHeartbeats 3200000
set_option maxRecDepth 10000
namespace Go.Proofs.YtpikejjiignchaaGreatDoor
open Go.RowKit
theorem Fo(a:Option Addr)(n c:Nat)(L:List Zg)(h:Int)(ai ao:Option Addr)(ni ci no co:Nat)(I:List InD)(O:List Zw)(name ht:Int)(x:Int)(M S:List Zg)(w:World)(hL:CoinsAt w a n L)(sL:SlOk a n c)(hI:InsAt w ai ni I)(hO:OutsAt w ao no O)(hRC:Z5 L)(hTx:Zo (h,I,O)=0)(hx:apD L (h,I,O) name ht=(x,M,S)) :
  Calls Tryz.prog 60 #[.slice a n c,.agg #[.int .i64 h,.slice ai ni ci,.slice ao no co],.int .i64 name,.int .i64 ht] w fun e w'=>ApR w w' x M S e:=by
 by_cases n1:name<1
 ·exact Bl a n c L h ai ao ni ci no co I O name ht x M S w hRC hTx hx n1
 by_cases n2:120<name
 ·exact Bj a n c L h ai ao ni ci no co I O name ht x M S w hRC hTx hx n1 n2
 by_cases n3:ht<1
 ·exact Bi a n c L h ai ao ni ci no co I O name ht x M S w hRC hTx hx n1 n2 n3
 by_cases n4:1000<ht
 ·exact Bh a n c L h ai ao ni ci no co I O name ht x M S w hRC hTx hx n1 n2 n3 n4
 by_cases hr:ni=0
 ·by_cases hh:h=ht
  ·exact Zas a n c L h ai ao ni ci no co I O name ht x M S w hL sL hI hO hRC hTx hx n1 n2 n3 n4 hr hh
  ·exact Bg a n c L h ai ao ni ci no co I O name ht x M S w hI hRC hTx hx n1 n2 n3 n4 hr hh
 ·exact Zat a n c L h ai ao ni ci no co I O name ht x M S w hL sL hI hO hRC hTx hx n1 n2 n3 n4 hr
def namesL:List ByteArray:=[⟨#[]⟩,⟨#[]⟩,⟨#[100,117,112]⟩,⟨#[115,119,97,112]⟩,⟨#[100,114,111,112]⟩,⟨#[97,100,100]⟩,⟨#[115,117,98]⟩,⟨#[115,97,109,101]⟩,⟨#[108,101,115,115]⟩,⟨#[110,111,116]⟩,⟨#[97,110,100]⟩,⟨#[118,101,114,105,102,121]⟩,⟨#[104,101,105,103,104,116]⟩,⟨#[109,105,120]⟩]
def Qy(k:Nat):ByteArray:=namesL.getD k ⟨#[]⟩
def Ak:Array Value:=(namesL.map Value.string).toArray
def Xb(o:Int×Int):ByteArray:=if o.1=1 then ⟨(Lib.itoa o.2).toArray⟩ else Qy o.1.toNat
def Z9(l:List (Int×Int)):ByteArray:=⟨(Lib.join ((l.map Xb).map (·.data.toList)) [32]).toArray⟩
structure Env(w:World):Prop where
 tab:Lib.TabIs Tryz.prog w "internal/strconv.uint64pow10" .u64 Lib.pow10Tab
 nam:w.var? Tryz.prog "cairn/lock.names" = some Ak
theorem Tryz.gTab:Tryz.prog.globalNamed "internal/strconv.uint64pow10" = some 3:=by kernel_rfl
theorem Tryz.gNam:Tryz.prog.globalNamed "cairn/lock.names" = some 2:=by kernel_rfl
theorem Env.later{w w':World}(h:Env w)(hb:Below w.heap.size w w'):Env w':=
 ⟨Joins.var_stays Tryz.gTab h.tab hb (Nat.le_refl _),Joins.var_stays Tryz.gNam h.nam hb (Nat.le_refl _)⟩
theorem Env.name{w:World}(h:Env w)(k:Nat)(hk:k<14):w.cell? ⟨2,k,none⟩=some (.string (Qy k)):=by
 have:=World.var?_cell Tryz.gNam h.nam k
 rw[this]
 have hl:k<namesL.length:=hk
 simp[Ak,Qy,hl]
theorem Env.lt{w:World}(h:Env w):2<w.heap.size:=World.block_lt_of_cell? _ _ (h.name 0 (by decide))
theorem Mb{a b:ByteArray}(h:a=b):Ending.returned (.string a) = .returned (.string b):=by rw[h]
theorem Gw(k n:Int)(w:World)(hE:Env w)(hc:Y4 (k,n)=0) :
  Calls Tryz.prog 193 #[.agg #[.int .i64 k,.int .i64 n]] w fun e w'=>e = .returned (.string (Xb (k,n)))∧Below w.heap.size w w':=by
 have hb:Below w.heap.size w (w.alloc (.cells #[.int .i64 k,.int .i64 n] 122)):=(Below.refl _ _).alloc (Nat.le_refl _) _
 have HB:=Zb hb
 have HE:=Zb hE
 by_cases h1:k=1
 ·subst h1
  have hn : -1000000≤n∧n≤1000000:=by
   have:fit n=true:=by
    simp only[Y4] at hc
    cases h:fit n with
    | true=>rfl
    | false=>simp[h] at hc
   exact (Z0 n).1 this
  have g0 : -9223372036854775808≤n:=by omega
  have g1:n≤9223372036854775807:=by omega
  have e:Xb (1,n)=⟨(Lib.itoa n).toArray⟩:=by simp[Xb]
  rw[e]
  have HT:=Zb (hE.later hb).tab
  clear hE hc hb e hn
  go_enter Tryz.func193,Tryz.ntmps193
  go_wp2_with fail
  refine (Tryz.strconv_Itoa n g0 g1 _ (Za HT)).mono ?_
  rintro e w1 ⟨rfl,k,os,rfl⟩
  have HB2:=Zb ((Za HB).trans ((Lib.below_grow _ _ (Nat.le_refl _) k os).mono (Za HB).size))
  go_wp2
  go_ret
  exact⟨rfl,Za HB2⟩
 ·have hk:1≤k∧k≤13:=by
   simp only[Y4] at hc
   split at hc
   ·cases hc
   ·omega
  obtain⟨m,rfl⟩:=Int.eq_ofNat_of_zero_le (show 0≤k by omega)
  have e:Xb ((m:Int),n)=Qy m:=by simp[Xb];intro h;omega
  have c1:=hE.name m (by omega)
  have hl:=hE.lt
  have g1:((m:Int) == 1)=false:=by simp;omega
  have g2:(m:Int)<14:=by omega
  rw[e]
  obtain⟨x,hx⟩:∃ x,x=Qy m:=⟨_,rfl⟩
  rw[←hx] at c1 ⊢
  clear hE hc hb e h1 hk hx
  go_enter Tryz.func193,Tryz.ntmps193
  go_wp2
  go_ret
  exact⟨rfl,Za HB⟩
theorem Nu{a b:ByteArray}{v:Value}(h:a=b):Ending.returned (.tuple #[.string a,v]) = .returned (.tuple #[.string b,v]):=by rw[h]
theorem Tryz.info9:(Tryz.prog.info? 9).map (fun i=>(i.zero,i.size,i.bytes))=some (some (.string ⟨#[]⟩),1,16):=by kernel_rfl
theorem Ah(o:Int×Int)(h:Y4 o=0):(Xb o).data.toList.length≤21:=by
 obtain⟨k,n⟩:=o
 unfold Xb
 split
 ·rename_i h1
  have h1:k=1:=h1
  subst h1
  have hn : -1000000≤n∧n≤1000000:=by
   have:fit n=true:=by
    simp only[Y4] at h
    cases hf:fit n with
    | true=>rfl
    | false=>simp[hf] at h
   exact (Z0 n).1 this
  simpa using Lib.itoa_length_le n (by omega) (by omega)
 ·have hk:1≤k∧k≤13:=by
   simp only[Y4] at h
   split at h
   ·cases h
   ·omega
  show (Qy k.toNat).data.toList.length≤21
  have hk2:k.toNat<14:=by omega
  have all:∀ j:Fin 14,(Qy j.val).data.toList.length≤21:=by decide
  exact all ⟨k.toNat,hk2⟩
theorem Cf:∀ (xs:List (List UInt8)),(∀ x∈xs,x.length≤21)→Lib.lens xs≤21*xs.length
 | [],_=>by simp[Lib.lens]
 | x :: r,h=>by
  have h1:=h x (by simp)
  have h2:=Cf r (fun y hy=>h y (by simp[hy]))
  simp only[Lib.lens,List.length_cons] at h2 ⊢
  simp at h2 ⊢
  omega
theorem Ja(l:List (Int×Int))(h16:l.length≤16)(h:Vg l=0):(Lib.join ((l.map Xb).map (·.data.toList)) [32]).length≤400:=by
 cases l with
 | nil=>simp[Lib.join_nil]
 | cons o r=>
  rw[List.map_cons,List.map_cons,Lib.join_length]
  have hl:=Cf (((o :: r).map Xb).map (·.data.toList)) (fun x hx=>by
   simp only[List.map_map,List.mem_map,Function.comp] at hx
   obtain⟨q,hq,rfl⟩:=hx
   obtain⟨i,hi,rfl⟩:=List.getElem_of_mem hq
   exact Ah _ (Jk h i hi))
  simp only[List.map_cons,List.length_cons,List.length_map,List.length_nil] at hl h16 ⊢
  omega
theorem Eu(a:Option Addr)(len cap:Nat)(l:List (Int×Int))(w:World)(hO:OpsAt w a len l)(hc:chk l≠0) :
  Calls Tryz.prog 166 #[.slice a len cap] w fun e w'=>e = .returned (.tuple #[.string ⟨#[]⟩,.int .i64 (chk l)])∧Below w.heap.size w w':=by
 have CK:=Zb (Ua a len cap l w hO)
 obtain⟨x,hx⟩:∃ x,x=chk l:=⟨_,rfl⟩
 rw[←hx] at hc CK ⊢
 have hx1:(x != 0)=true:=by simp[hc]
 clear hO hc hx
 go_enter Tryz.func166,Tryz.ntmps166
 go_wp2_with fail
 refine (Za CK).mono ?_
 rintro e w1 ⟨rfl,hb1⟩
 have HB1:=Zb hb1
 clear hb1
 go_wp2
 go_ret2
 exact⟨rfl,Za HB1⟩
def Br(l:List (Int×Int))(j:Nat):Value:=.string (Xb (l.getD j (0,0)))
theorem Ae(b off len cap:Nat)(l:List (Int×Int))(w:World)(hE:Env w)(hz:l.length=len)(hpos:0<len)(hck:chk l=0)(hbl:b<w.heap.size)
  (hc:∀ i,i<len→w.cell? ⟨b,off+i*2,none⟩=some (.int .i64 (l.getD i (0,0)).1)∧w.cell? ⟨b,off+i*2+1,none⟩=some (.int .i64 (l.getD i (0,0)).2)) :
  Calls Tryz.prog 166 #[.slice (some ⟨b,off,none⟩) len cap] w fun e w'=>e = .returned (.tuple #[.string (Z9 l),.int .i64 0])∧Below w.heap.size w w':=by
 obtain⟨i0,hi,hz0,hz1,hz2⟩:=info_parts Tryz.info9
 have h16:len≤16:=by
  unfold chk at hck
  split at hck
  ·cases hck
  ·omega
 have hck':Vg l=0:=by
  unfold chk at hck
  split at hck
  ·cases hck
  ·exact hck
 have HK:=Zb (Jk hck')
 have HTL:=Zb (Ja l (by omega) hck')
 have CK:=Zb (Ua (some ⟨b,off,none⟩) len cap l w ⟨hz,fun _=>⟨b,off,rfl,hc⟩⟩)
 rw[hck] at CK
 have HE:=Zb hE
 have HC:=Zb hc
 have HZ:=Zb hz
 clear hE hc hz hck hck'
 go_enter Tryz.func166,Tryz.ntmps166
 go_wp2_with fail
 refine (Za CK).mono ?_
 rintro e w1 ⟨rfl,hb1⟩
 have HB1:=Zb hb1
 clear hb1
 go_wp2_with (at_make;refine wpList_make_full _ rfl _ _ 22 rfl w1.heap.size 9 i0 (.string ⟨#[]⟩) 1 Tryz.underlying22 hi hz0 hz1 .i64 .i64 _ _ len rfl rfl rfl rfl (by rw[hz2];omega) (by unfold maxLen;omega) (Nat.le_refl _) ?_;intro w2 hown2 hgrow2)
 have hst:FillV w1.heap.size 9 len (Br l) w1 w2 0:=⟨⟨_,hown2,fun j hj=>absurd hj (by omega)⟩,(Below.refl _ _).grown hgrow2 (Nat.le_refl _) (fun k h=>by cases h)⟩
 have HST:=Zb hst
 clear hst hown2 hgrow2
 go_loopw [18] (fun i wr=>∃ k:Nat,k≤len∧i = .int .i64 k∧FillV w1.heap.size 9 len (Br l) w1 wr k) (fun i _=>len - (intOf i).toNat)
 case atStart=>exact⟨0,Nat.zero_le _,rfl,Za HST⟩
 case round=>
  obtain⟨k,hk,rfl,hfl⟩:=hrel
  have HF:=Zb hfl
  have hbw:Below w.heap.size w wr:=(Za HB1).trans (hfl.bel.mono (Za HB1).size)
  have HBW:=Zb hbw
  by_cases hlt:k<len
  ·have hlk:k<l.length:=by rw[Za HZ];exact hlt
   obtain⟨c1,c2⟩:=(Za HC) k hlt
   rw[←hbw.cell (p:=⟨b,off+k*2,none⟩) hbl] at c1
   rw[←hbw.cell (p:=⟨b,off+k*2+1,none⟩) hbl] at c2
   obtain⟨q,hq⟩:∃ q,q=l.getD k (0,0):=⟨_,rfl⟩
   rw[←hq] at c1 c2
   have hq':q=l[k]:=by rw[hq];simp[hlk]
   have hkk:=(Za HK) k hlk
   rw[←hq'] at hkk
   have HQ:=Zb hq
   obtain⟨kd,n⟩:=q
   have hba:Below wr.heap.size wr (wr.alloc (.cells #[.int .i64 kd,.int .i64 n] 122)):=(Below.refl _ _).alloc (Nat.le_refl _) _
   have PO:=Zb (Gw kd n _ (((Za HE).later hbw).later hba) hkk)
   obtain⟨x,hx⟩:∃ x,x=Xb (kd,n):=⟨_,rfl⟩
   rw[←hx] at PO
   have HX:=Zb hx
   have HBA:=Zb hba
   clear hfl hbw hq hq' hkk hx hba
   go_wp2_with fail
   refine (Za PO).mono ?_
   rintro e w3 ⟨rfl,hb3⟩
   have hf3:=((Za HF).keep (Za HBA)).keep hb3
   obtain⟨v,hold⟩:=hf3.old hlt
   have hfree:=hf3.free k
   have HF3:=Zb hf3
   clear hb3 hf3
   go_wp2
   go_roundw
   case rel=>
    refine⟨k+1,by omega,by go_num,(Za HF3).step hlt ?_⟩
    show Value.string x=Br l k
    rw[Za HX,Za HQ];rfl
   case measure=>simp[intOf];omega
  ·clear hfl hbw
   have e:k=len:=by omega
   subst e
   clear hk hlt
   have HJ:Hid (∀ (j:Nat) x,(l.map Xb)[j]? = some x→wr.cell? ⟨w1.heap.size,0+j,none⟩=some (.string x)):=fun j x hj=>by
    have hjl:j<l.length:=by
     rcases Nat.lt_or_ge j l.length with h|h
     ·exact h
     ·rw[List.getElem?_eq_none (by simpa using h)] at hj;cases hj
    rw[Nat.zero_add,(Za HF).cells (Nat.le_refl _) j (by rw[←Za HZ];exact hjl)]
    simp[hjl] at hj
    simp[Br,hjl,hj]
   have HL:Hid ((l.map Xb).length=k):=by rw[List.length_map];exact Za HZ
   have JN:=Zb (Tryz.strings_Join w1.heap.size 0 k (l.map Xb) ⟨#[32]⟩ wr (Za HJ) (Za HF).lt (by rw[Za HL];omega) (by rw[Za HL];exact Nat.le_refl _) (Nat.le_trans (Za HTL) (by decide)))
   rw[Za HL] at JN
   change Hid (Calls _ _ _ _ fun e w'=>e = .returned (.string (Z9 l))∧_) at JN
   obtain⟨t,ht⟩:∃ t,t=Z9 l:=⟨_,rfl⟩
   rw[←ht] at JN
   have HT:=Zb ht
   clear ht
   go_wp2_with fail
   refine (Za JN).mono ?_
   rintro e w4 ⟨rfl,hb4⟩
   have HB4:=Zb (M5 (Za HBW) hb4)
   clear hb4
   go_wp2
   go_ret2
   exact⟨Nu (Za HT),Za HB4⟩
theorem Af(a:Option Addr)(cap:Nat)(w:World) :
  Calls Tryz.prog 166 #[.slice a 0 cap] w fun e w'=>e = .returned (.tuple #[.string ⟨#[]⟩,.int .i64 0])∧Below w.heap.size w w':=by
 obtain⟨i0,hi,hz0,hz1,hz2⟩:=info_parts Tryz.info9
 go_enter Tryz.func166,Tryz.ntmps166
 go_wp2_with fail
 refine (Hx a cap w).mono ?_
 rintro e w1 ⟨rfl,rfl⟩
 go_wp2_with (at_make;refine wpList_make_full _ rfl _ _ 22 rfl w.heap.size 9 i0 (.string ⟨#[]⟩) 1 Tryz.underlying22 hi hz0 hz1 .i64 .i64 _ _ 0 rfl rfl rfl rfl (by rw[hz2];omega) (by unfold maxLen;omega) (Nat.le_refl _) ?_;intro w2 hown2 hgrow2)
 have HB:Hid (Below w.heap.size w w2):=(Below.refl _ _).grown hgrow2 (Nat.le_refl _) (fun k h=>by cases h)
 clear hown2 hgrow2
 refine wp_loop_rounds 1 ?_
 rw[rounds_succ]
 go_wp2_with fail
 refine (Tryz.strings_Join_none _ _ _ _).mono ?_
 rintro e w3 ⟨rfl,rfl⟩
 go_wp2
 go_ret2
 exact⟨rfl,Za HB⟩
def prT(l:List (Int×Int)):ByteArray:=if chk l=0 then Z9 l else ⟨#[]⟩
theorem Ev(a:Option Addr)(len cap:Nat)(l:List (Int×Int))(w:World)(hE:Env w)(hO:OpsAt w a len l) :
  Calls Tryz.prog 166 #[.slice a len cap] w fun e w'=>e = .returned (.tuple #[.string (prT l),.int .i64 (chk l)])∧Below w.heap.size w w':=by
 unfold prT
 by_cases hck:chk l=0
 ·rw[if_pos hck,hck]
  obtain⟨hz,hc⟩:=hO
  by_cases h:len=0
  ·subst h
   have e:l=[]:=List.length_eq_zero_iff.1 hz
   subst e
   exact Af a cap w
  ·obtain⟨b,off,rfl,hcell⟩:=hc (by omega)
   exact Ae b off len cap l w hE hz (by omega) hck (World.block_lt_of_cell? _ _ (hcell 0 (by omega)).1) hcell
 ·rw[if_neg hck]
  exact Eu a len cap l w hO hck
structure EnvP(w:World):Prop where
 env:Env w
 syn:∃ tp p,w.var? Tryz.prog "strconv.ErrSyntax" = some #[.iface tp p]
 ran:∃ tp p,w.var? Tryz.prog "strconv.ErrRange" = some #[.iface tp p]
 shp:w.ShapedOpen Tryz.prog
def Xj(v:Int):ByteArray:=⟨(Lib.itoa v).toArray⟩
structure EnvE(w:World):Prop where
 env:Env w
theorem EnvE.later{w w':World}(h:EnvE w)(hb:Below w.heap.size w w'):EnvE w':=⟨h.env.later hb⟩
structure EnvF(w:World):Prop where
 envp:EnvE w
 spc:Lib.TabIs Tryz.prog w "strings.asciiSpace" .u8 Lib.asciiSpaceTab
theorem Tryz.gSpc:Tryz.prog.globalNamed "strings.asciiSpace" = some 0:=by kernel_rfl
theorem EnvF.later{w w':World}(h:EnvF w)(hb:Below w.heap.size w w'):EnvF w':=
 ⟨h.envp.later hb,Joins.var_stays Tryz.gSpc h.spc hb (Nat.le_refl _)⟩
def refB:ByteArray:=⟨#[45,32,45,32,100,117,112,32,115,119,97,112,32,100,114,111,112,32,97,100,100,32,115,117,98,32,115,97,109,101,32,108,101,115,115,32,110,111,116,32,97,110,100,32,118,101,114,105,102,121,32,104,101,105,103,104,116,32,109,105,120]⟩
def refL:List ByteArray:=[⟨#[45]⟩,⟨#[45]⟩]++namesL.drop 2
theorem At:(Lib.fields refB.data.toList).map (fun l=>Value.string ⟨l.toArray⟩)=refL.map Value.string:=by
 have h:Lib.fields refB.data.toList=refL.map (·.data.toList):=by decide +kernel
 rw[h,List.map_map]
 rfl
theorem Au:(Lib.fields refB.data.toList).length=14:=by decide +kernel
theorem Em:∀ (j:Nat) b,refB.data.toList[j]? = some b→b.toNat<128:=by
 have h:refB.data.toList.all (fun b=>decide (b.toNat<128))=true:=by decide +kernel
 intro j b hb
 simpa using List.all_eq_true.1 h b (List.mem_of_getElem? hb)
theorem Hj(w:World)(hE:EnvF w) :
  Calls Tryz.prog 148 #[.string refB] w fun e w'=>e = .returned (.slice (some ⟨w.heap.size,0,none⟩) 14 14)∧w'=w.alloc (.cells (refL.map Value.string).toArray 9):=by
 have h:=Tryz.strings_Fields refB w (by decide) Em hE.spc
 rw[At,Au] at h
 exact h
theorem Zcf(w:World)(k:Nat)(hk:k<14):(w.alloc (.cells (refL.map Value.string).toArray 9)).cell? ⟨w.heap.size,k,none⟩=some (.string (refL.getD k ⟨#[]⟩)):=by
 rw[World.cell?_alloc_at _ _ _ _ rfl]
 have hl:k<refL.length:=hk
 simp[hl]
theorem En(k:Nat)(h2:2≤k)(hk:k<14):refL.getD k ⟨#[]⟩=Qy k:=by
 have:∀ m:Fin 14,2≤m.val→refL.getD m.val ⟨#[]⟩=Qy m.val:=by decide +kernel
 exact this ⟨k,hk⟩ h2
theorem Zac(xs:List (List UInt8))(x sep:List UInt8)(h:xs≠[]):Lib.join (xs++[x]) sep=Lib.join xs sep++(sep++x):=by
 cases xs with
 | nil=>exact absurd rfl h
 | cons y r=>rw[List.cons_append,Lib.join_cons,Lib.join_cons,Lib.joinTail,Lib.joinTail,List.map_append,List.flatten_append,List.append_assoc];simp
theorem H8{a b:ByteArray}(h:a.data.toList=b.data.toList):a=b:=by
 cases a with|mk d=>cases b with|mk e=>cases d;cases e;simp at h;rw[h]
theorem Sw(q:Int×Int):Z9 [q]=⟨#[]⟩++Xb q:=by
 apply H8
 simp[Z9,Lib.join_one,ByteArray.data_append]
theorem Te(l:List (Int×Int))(q:Int×Int)(h:l≠[]):Z9 (l++[q])=(Z9 l++⟨#[32]⟩)++Xb q:=by
 apply H8
 unfold Z9
 rw[List.map_append,List.map_append,List.map_cons,List.map_nil,List.map_cons,List.map_nil,Zac _ _ _ (by simpa using h)]
 simp[ByteArray.data_append]
theorem Hs:∀ (l:List (Int×Int)) (k:Nat),Vg l=0→Vg (l.take k)=0
 | [],k,_=>by rw[List.take_nil];rfl
 | o :: r,0,_=>rfl
 | o :: r,k+1,h=>by
  rw[List.take_succ_cons]
  simp only[Vg] at h ⊢
  split at h
  ·rename_i e
   rw[if_pos e]
   exact Hs r k h
  ·contradiction
theorem Mg(l:List (Int×Int))(h16:l.length≤16)(h:Vg l=0):(Z9 l).size≤400:=by
 have:=Ja l h16 h
 simpa[Z9,ByteArray.size] using this
theorem U9{a b:ByteArray}(h:a=b):Value.string a = .string b:=by rw[h]
theorem Me(b off len cap:Nat)(l:List (Int×Int))(w:World)(hE:EnvF w)(hz:l.length=len)(hck:chk l=0)(hbl:b<w.heap.size)
  (hc:∀ i,i<len→w.cell? ⟨b,off+i*2,none⟩=some (.int .i64 (l.getD i (0,0)).1)∧w.cell? ⟨b,off+i*2+1,none⟩=some (.int .i64 (l.getD i (0,0)).2)) :
  Calls Tryz.prog 108 #[.slice (some ⟨b,off,none⟩) len cap] w fun e w'=>e = .returned (.string (Z9 l))∧Below w.heap.size w w':=by
 have h16:len≤16:=by
  unfold chk at hck
  split at hck
  ·cases hck
  ·omega
 have hck':Vg l=0:=by
  unfold chk at hck
  split at hck
  ·cases hck
  ·exact hck
 have HK:=Zb (Jk hck')
 have HCK:=Zb hck'
 have HE:=Zb hE
 have HC:=Zb hc
 have HZ:=Zb hz
 have FL:=Zb (Hj w hE)
 clear hE hc hz hck hck'
 go_enter Tryz.func108,Tryz.ntmps108
 go_wp2_with fail
 refine (Za FL).mono ?_
 rintro e w1 ⟨rfl,hw1⟩
 have HB1:Hid (Below w.heap.size w w1):=by rw[hw1];exact (Below.refl _ _).alloc (Nat.le_refl _) _
 have HN:Hid (∀ k,k<14→w1.cell? ⟨w.heap.size,k,none⟩=some (.string (refL.getD k ⟨#[]⟩))):=by rw[hw1];exact fun k hk=>Zcf w k hk
 have hsz:w.heap.size<w1.heap.size:=by rw[hw1];simp
 clear hw1
 go_wp2
 go_loopw [4,10] (fun s i wr=>∃ k:Nat,k≤len∧i = .int .i64 k∧s = .string (Z9 (l.take k))∧Below w1.heap.size w1 wr) (fun _ i _=>len - (intOf i).toNat)
 case atStart=>exact⟨0,Nat.zero_le _,rfl,rfl,Below.refl _ _⟩
 case round=>
  obtain⟨k,hk,rfl,rfl,hbr⟩:=hrel
  have hbw:Below w.heap.size w wr:=M5 (Za HB1) hbr
  have HBW:=Zb hbw
  have HBR:=Zb hbr
  by_cases hlt:k<len
  ·have hlk:k<l.length:=by rw[Za HZ];exact hlt
   obtain⟨c1,c2⟩:=(Za HC) k hlt
   rw[←hbw.cell (p:=⟨b,off+k*2,none⟩) hbl] at c1
   rw[←hbw.cell (p:=⟨b,off+k*2+1,none⟩) hbl] at c2
   obtain⟨q,hq⟩:∃ q,q=l.getD k (0,0):=⟨_,rfl⟩
   rw[←hq] at c1 c2
   have hq':q=l[k]:=by rw[hq];simp[hlk]
   have hkk:=(Za HK) k hlk
   rw[←hq'] at hkk
   have hts:l.take (k+1)=l.take k++[q]:=by rw[List.take_succ_eq_append_getElem hlk,hq']
   obtain⟨kd,n⟩:=q
   have hba:Below wr.heap.size wr (wr.alloc (.cells #[.int .i64 kd,.int .i64 n] 122)):=(Below.refl _ _).alloc (Nat.le_refl _) _
   have HBA:=Zb hba
   obtain⟨T,hT⟩:∃ T,T=Z9 (l.take k):=⟨_,rfl⟩
   rw[←hT]
   obtain⟨T',hT'⟩:∃ T',T'=Z9 (l.take (k+1)):=⟨_,rfl⟩
   have HT':=Zb hT'
   have hne:0<k→l.take k≠[]:=fun h e=>by
    rw[List.take_eq_nil_iff] at e
    rcases e with e|e
    ·omega
    ·rw[e] at hlk;simp at hlk
   have hTs:T.size≤400:=by rw[hT];exact Mg _ (by rw[List.length_take];omega) (Hs l k (Za HCK))
   have hTs1:(T++⟨#[32]⟩:ByteArray).size≤401:=by rw[ByteArray.size_append];show T.size+1≤401;omega
   by_cases h1:kd=1
   ·subst h1
    have hn : -1000000≤n∧n≤1000000:=by
     have:fit n=true:=by
      simp only[Y4] at hkk
      cases h:fit n with
      | true=>rfl
      | false=>simp[h] at hkk
     exact (Z0 n).1 this
    have IT:Hid (∀ w,Env w→Calls Tryz.prog 107 #[.int .i64 n] w fun e w'=>e = .returned (.string (Xj n))∧Below w.heap.size w w'):=fun w hw=>
     (Tryz.strconv_Itoa n (by omega) (by omega) w hw.tab).mono fun e w' ⟨h1,k,os,h2⟩=>⟨h1,by rw[h2];exact Lib.below_grow _ _ (Nat.le_refl _) k os⟩
    have eo:Xb (1,n)=Xj n:=by simp[Xb,Xj]
    have hXs:(Xj n).size≤21:=by
     have:=Lib.itoa_length_le n (by omega) (by omega)
     simpa[Xj,ByteArray.size] using this
    have EE:=Zb ((((Za HE).later hbw).later hba).envp.env)
    by_cases h0:k=0
    ·subst h0
     simp only[Nat.zero_mul,Nat.add_zero] at c1 c2
     have HTT:Hid (T'=T++Xj n):=by
      show _=_
      rw[hT',hts,hT,←eo]
      exact Sw _
     clear hT hT' hts hq hq' hkk hbr hbw hba hn eo hne
     go_wp2_with fail
     refine ((Za IT) _ (Za EE)).mono ?_
     rintro e w3 ⟨rfl,hb3⟩
     have HB3:=Zb ((Za HBR).trans ((M5 (Za HBA) hb3).mono (Za HBR).size))
     clear hb3
     go_wp2
     go_roundw
     case rel=>exact⟨0+1,by omega,by go_num,U9 ((Za HTT).symm.trans (Za HT')),Za HB3⟩
     case measure=>simp[intOf];omega
    ·have g0:(0:Int)<(k:Int):=by omega
     have HTT:Hid (T'=(T++⟨#[32]⟩)++Xj n):=by
      show _=_
      rw[hT',hts,hT,←eo]
      exact Te _ _ (hne (by omega))
     clear hT hT' hts hq hq' hkk hbr hbw hba hn eo hne
     go_wp2_with fail
     refine ((Za IT) _ (Za EE)).mono ?_
     rintro e w3 ⟨rfl,hb3⟩
     have HB3:=Zb ((Za HBR).trans ((M5 (Za HBA) hb3).mono (Za HBR).size))
     clear hb3
     go_wp2
     go_roundw
     case rel=>exact⟨k+1,by omega,by go_num,U9 ((Za HTT).symm.trans (Za HT')),Za HB3⟩
     case measure=>simp[intOf];omega
   ·have hkr:1≤kd∧kd≤13:=by
     simp only[Y4] at hkk
     split at hkk
     ·cases hkk
     ·omega
    obtain⟨m,rfl⟩:=Int.eq_ofNat_of_zero_le (show 0≤kd by omega)
    have eo:Xb ((m:Int),n)=Qy m:=by simp[Xb];intro h;omega
    have c3:=(Za HN) m (by omega)
    rw[En m (by omega) (by omega),←hbr.cell (p:=⟨w.heap.size,m,none⟩) hsz] at c3
    have hl3:w.heap.size<wr.heap.size:=Nat.lt_of_lt_of_le hsz hbr.size
    obtain⟨x,hx⟩:∃ x,x=Qy m:=⟨_,rfl⟩
    rw[←hx] at c3
    have hXs:x.size≤21:=by
     have all:∀ j:Fin 14,(Qy j.val).size≤21:=by decide
     rw[hx];exact all ⟨m,by omega⟩
    have g1:((m:Int) == 1)=false:=by simp;omega
    have g2:(m:Int)<14:=by omega
    have HB3:=Zb ((Za HBR).trans ((Za HBA).mono (Za HBR).size))
    by_cases h0:k=0
    ·subst h0
     simp only[Nat.zero_mul,Nat.add_zero] at c1 c2
     have HTT:Hid (T'=T++x):=by
      show _=_
      rw[hT',hts,hT,hx,←eo]
      exact Sw _
     clear hT hT' hts hq hq' hkk hbr hbw hba eo hne hkr h1 hx
     go_wp2
     go_roundw
     case rel=>exact⟨0+1,by omega,by go_num,U9 ((Za HTT).symm.trans (Za HT')),Za HB3⟩
     case measure=>simp[intOf];omega
    ·have g0:(0:Int)<(k:Int):=by omega
     have HTT:Hid (T'=(T++⟨#[32]⟩)++x):=by
      show _=_
      rw[hT',hts,hT,hx,←eo]
      exact Te _ _ (hne (by omega))
     clear hT hT' hts hq hq' hkk hbr hbw hba eo hne hkr h1 hx
     go_wp2
     go_roundw
     case rel=>exact⟨k+1,by omega,by go_num,U9 ((Za HTT).symm.trans (Za HT')),Za HB3⟩
     case measure=>simp[intOf];omega
  ·have e:k=len:=by omega
   subst e
   have HT:Hid (Z9 (l.take k)=Z9 l):=by show _=_;rw[List.take_of_length_le (by rw[Za HZ];exact Nat.le_refl _)]
   clear hbr hbw
   go_wp2
   go_ret
   exact⟨Mb (Za HT),Za HBW⟩
theorem Mf(a:Option Addr)(cap:Nat)(w:World)(hE:EnvF w) :
  Calls Tryz.prog 108 #[.slice a 0 cap] w fun e w'=>e = .returned (.string ⟨#[]⟩)∧Below w.heap.size w w':=by
 have FL:=Zb (Hj w hE)
 clear hE
 go_enter Tryz.func108,Tryz.ntmps108
 go_wp2_with fail
 refine (Za FL).mono ?_
 rintro e w1 ⟨rfl,hw1⟩
 have HB1:Hid (Below w.heap.size w w1):=by rw[hw1];exact (Below.refl _ _).alloc (Nat.le_refl _) _
 clear hw1
 go_wp2
 refine wp_loop_rounds 1 ?_
 rw[rounds_succ]
 go_wp2
 go_ret
 exact⟨rfl,Za HB1⟩
theorem Sv(a:Option Addr)(len cap:Nat)(l:List (Int×Int))(w:World)(hE:EnvF w)(hO:OpsAt w a len l)(hck:chk l=0) :
  Calls Tryz.prog 108 #[.slice a len cap] w fun e w'=>e = .returned (.string (Z9 l))∧Below w.heap.size w w':=by
 obtain⟨hz,hc⟩:=hO
 by_cases h0:len=0
 ·subst h0
  have e:l=[]:=List.length_eq_zero_iff.1 hz
  subst e
  exact Mf a cap w hE
 ·obtain⟨b,off,rfl,hcell⟩:=hc (by omega)
  exact Me b off len cap l w hE hz hck (World.block_lt_of_cell? _ _ (hcell 0 (by omega)).1) hcell
theorem U5(w:World)(n:Nat):Below w.heap.size w (w.drewN n):=⟨rfl,rfl,rfl,Nat.le_refl _,fun _ _=>rfl⟩
theorem V7{α : Type}{l k:List α}{j:Nat}(h1:j<l.length)(h2:j<k.length)(h:l.take j=k.take j)(e:l[j]=k[j]):l.take (j+1)=k.take (j+1):=by
 rw[List.take_succ_eq_append_getElem h1,List.take_succ_eq_append_getElem h2,h,e]
theorem Wn{α : Type}{l k:List α}{j:Nat}(h1:j<l.length)(h2:j<k.length)(e:l[j]≠k[j]):l≠k:=fun h=>by
 subst h;exact e rfl
theorem Aw(b1 o1 b2 o2 n c d:Nat)(l k:List (Int×Int))(o:Bool)(w:World)(hn:n≤maxLen)(z1:l.length=n)(z2:k.length=n)
  (h1:∀ i,i<n→w.cell? ⟨b1,o1+i*2,none⟩=some (.int .i64 (l.getD i (0,0)).1)∧w.cell? ⟨b1,o1+i*2+1,none⟩=some (.int .i64 (l.getD i (0,0)).2))
  (h2:∀ i,i<n→w.cell? ⟨b2,o2+i*2,none⟩=some (.int .i64 (k.getD i (0,0)).1)∧w.cell? ⟨b2,o2+i*2+1,none⟩=some (.int .i64 (k.getD i (0,0)).2)) (ho:decide (l=k)=o) :
  Calls Tryz.prog 62 #[.slice (some ⟨b1,o1,none⟩) n c,.slice (some ⟨b2,o2,none⟩) n d] w fun e w'=>e = .returned (.bool o)∧∃ m,w'=w.drewN m:=by
 subst ho
 unfold maxLen at hn
 have H1:=Zb h1
 have H2:=Zb h2
 have Z1:=Zb z1
 have Z2:=Zb z2
 clear h1 h2 z1 z2
 go_enter Tryz.func62,Tryz.ntmps62
 go_wp2
 go_loopw [13] (fun i wr=>∃ j m:Nat,j≤n∧i = .int .i64 j∧wr=w.drewN m∧Hid (l.take j=k.take j)) (fun i _=>n - (intOf i).toNat)
 case atStart=>exact⟨0,0,Nat.zero_le _,rfl,rfl,rfl⟩
 case round=>
  obtain⟨j,m,hk,rfl,rfl,A⟩:=hrel
  by_cases hlt:j<n
  ·have hl1:j<l.length:=by rw[Za Z1];exact hlt
   have hl2:j<k.length:=by rw[Za Z2];exact hlt
   obtain⟨g1,g2⟩:=(Za H1) j hlt
   obtain⟨g3,g4⟩:=(Za H2) j hlt
   have e1:l.getD j (0,0)=l[j]:=by simp[hl1]
   have e2:k.getD j (0,0)=k[j]:=by simp[hl2]
   rw[e1] at g1 g2
   rw[e2] at g3 g4
   have TS:=Zb (V7 hl1 hl2 (Za A))
   have TU:=Zb (Wn hl1 hl2)
   obtain⟨q,hq⟩:∃ q,l[j]=q:=⟨_,rfl⟩
   obtain⟨r,hr⟩:∃ r,k[j]=r:=⟨_,rfl⟩
   rw[hq] at g1 g2
   rw[hr] at g3 g4
   rw[hq,hr] at TS TU
   obtain⟨q1,q2⟩:=q
   obtain⟨r1,r2⟩:=r
   simp only at g1 g2 g3 g4
   clear hq hr e1 e2 A
   by_cases he:q1=r1
   ·subst he
    by_cases hf:q2=r2
    ·subst hf
     have T:=Zb ((Za TS) rfl)
     clear TS TU
     go_wp2
     go_quiet (fail)
     go_wp2
     go_roundw
     case rel=>exact⟨j+1,m+nq,by omega,by go_num,rfl,T⟩
     case measure=>simp[intOf];omega
    ·have U:Hid (decide (l=k)=false):=decide_eq_false ((Za TU) (fun e=>hf (by injection e)))
     clear TS TU
     go_wp2
     go_quiet (fail)
     go_wp2
     go_ret
     exact⟨by rw[Za U];rfl,m+nq,by simp[World.drewN,Nat.add_assoc]⟩
   ·have U:Hid (decide (l=k)=false):=decide_eq_false ((Za TU) (fun e=>he (by injection e)))
    clear TS TU
    go_wp2
    go_quiet (fail)
    go_wp2
    go_ret
    exact⟨by rw[Za U];rfl,m+nq,by simp[World.drewN,Nat.add_assoc]⟩
  ·have U:Hid (decide (l=k)=true):=by
    have h:=Za A
    rw[List.take_of_length_le (by rw[Za Z1];omega),List.take_of_length_le (by rw[Za Z2];omega)] at h
    exact decide_eq_true h
   clear A
   go_wp2
   go_ret
   exact⟨by rw[Za U];rfl,m,rfl⟩
theorem Ay(a b:Option Addr)(n m c d:Nat)(w:World)(h:n≠m) :
  Calls Tryz.prog 62 #[.slice a n c,.slice b m d] w fun e w'=>e = .returned (.bool false)∧w=w':=by
 have g:((n:Int) != (m:Int))=true:=by simp;omega
 clear h
 go_enter Tryz.func62,Tryz.ntmps62
 go_wp2
 go_ret
 exact⟨rfl,rfl⟩
theorem Ax(a b:Option Addr)(c d:Nat)(w:World) :
  Calls Tryz.prog 62 #[.slice a 0 c,.slice b 0 d] w fun e w'=>e = .returned (.bool true)∧w=w':=by
 go_enter Tryz.func62,Tryz.ntmps62
 go_wp2
 refine wp_loop_rounds 1 ?_
 rw[rounds_succ]
 go_wp2
 go_ret
 exact⟨rfl,rfl⟩
theorem Tn(a b:Option Addr)(n m c d:Nat)(l k:List (Int×Int))(o:Bool)(w:World)(hn:n≤maxLen)(hA:OpsAt w a n l)(hB:OpsAt w b m k)(ho:decide (l=k)=o) :
  Calls Tryz.prog 62 #[.slice a n c,.slice b m d] w fun e w'=>e = .returned (.bool o)∧Below w.heap.size w w':=by
 by_cases h:n=m
 ·subst h
  by_cases h0:n=0
  ·subst h0
   have e1:l=[]:=List.length_eq_zero_iff.1 hA.1
   have e2:k=[]:=List.length_eq_zero_iff.1 hB.1
   subst e1 e2
   rw[decide_eq_true rfl] at ho
   subst ho
   exact (Ax a b c d w).mono fun e w' ⟨h1,h2⟩=>⟨h1,h2 ▸ Below.refl _ _⟩
  ·obtain⟨b1,o1,rfl,h1⟩:=hA.2 (by omega)
   obtain⟨b2,o2,rfl,h2⟩:=hB.2 (by omega)
   exact (Aw b1 o1 b2 o2 n c d l k o w hn hA.1 hB.1 h1 h2 ho).mono fun e w' ⟨e1,q,e2⟩=>⟨e1,by rw[e2];exact U5 w q⟩
 ·have e:l≠k:=fun e=>h (by rw[←hA.1,←hB.1,e])
  rw[decide_eq_false e] at ho
  subst ho
  exact (Ay a b n m c d w h).mono fun e w' ⟨h1,h2⟩=>⟨h1,h2 ▸ Below.refl _ _⟩
theorem Eg(x y:InD)(a b:Option Addr)(n c m d:Nat)(o:Bool)(w:World)(hn:n≤maxLen)(hA:OpsAt w a n x.2.2)(hB:OpsAt w b m y.2.2)(ho:decide (x=y)=o) :
  Calls Tryz.prog 93 #[.agg #[.int .i64 x.1,.int .i64 x.2.1,.slice a n c],.agg #[.int .i64 y.1,.int .i64 y.2.1,.slice b m d]] w fun e w'=>e = .returned (.bool o)∧Below w.heap.size w w':=by
 obtain⟨x1,x2,k⟩:=x
 obtain⟨y1,y2,l⟩:=y
 simp only at hA hB ⊢
 have hb:=Ze (Zf w (.cells #[.int .i64 x1,.int .i64 x2,.slice a n c] 124)) (Zf _ (.cells #[.int .i64 y1,.int .i64 y2,.slice b m d] 124))
 have HB:=Zb hb
 by_cases h1:x1=y1
 ·subst h1
  by_cases h2:x2=y2
  ·subst h2
   have C:=Zb (Tn a b n m c d k l o _ hn (hA.later hb) (hB.later hb) (by rw[←ho];simp))
   clear hA hB hb ho
   go_enter Tryz.func93,Tryz.ntmps93
   go_wp2_with fail
   refine (Za C).mono ?_
   rintro e w2 ⟨rfl,hb2⟩
   have HB2:=Zb (Ze (Za HB) hb2)
   clear hb2
   go_wp2
   go_ret
   exact⟨rfl,Za HB2⟩
  ·have e:o=false:=by rw[←ho];exact decide_eq_false (fun e=>h2 (by injection e with _ e;injection e))
   subst e
   clear hA hB hb ho
   go_enter Tryz.func93,Tryz.ntmps93
   go_wp2
   go_ret
   exact⟨rfl,Za HB⟩
 ·have e:o=false:=by rw[←ho];exact decide_eq_false (fun e=>h1 (by injection e))
  subst e
  clear hA hB hb ho
  go_enter Tryz.func93,Tryz.ntmps93
  go_wp2
  go_ret
  exact⟨rfl,Za HB⟩
theorem F4(x y:Zw)(a b:Option Addr)(n c m d:Nat)(o:Bool)(w:World)(hn:n≤maxLen)(hA:OpsAt w a n x.2)(hB:OpsAt w b m y.2)(ho:decide (x=y)=o) :
  Calls Tryz.prog 95 #[.agg #[.int .i64 x.1,.slice a n c],.agg #[.int .i64 y.1,.slice b m d]] w fun e w'=>e = .returned (.bool o)∧Below w.heap.size w w':=by
 obtain⟨x1,k⟩:=x
 obtain⟨y1,l⟩:=y
 simp only at hA hB ⊢
 have hb:=Ze (Zf w (.cells #[.int .i64 x1,.slice a n c] 101)) (Zf _ (.cells #[.int .i64 y1,.slice b m d] 101))
 have HB:=Zb hb
 by_cases h1:x1=y1
 ·subst h1
  have C:=Zb (Tn a b n m c d k l o _ hn (hA.later hb) (hB.later hb) (by rw[←ho];simp))
  clear hA hB hb ho
  go_enter Tryz.func95,Tryz.ntmps95
  go_wp2_with fail
  refine (Za C).mono ?_
  rintro e w2 ⟨rfl,hb2⟩
  have HB2:=Zb (Ze (Za HB) hb2)
  clear hb2
  go_wp2
  go_ret
  exact⟨rfl,Za HB2⟩
 ·have e:o=false:=by rw[←ho];exact decide_eq_false (fun e=>h1 (by injection e))
  have g:(x1 == y1)=false:=by simp[h1]
  subst e
  clear hA hB hb ho
  go_enter Tryz.func95,Tryz.ntmps95
  go_wp2
  go_ret
  exact⟨rfl,Za HB⟩
theorem Az(b1 o1 b2 o2 n c d:Nat)(l k:List InD)(o:Bool)(w:World)(hn:n≤maxLen)(z1:l.length=n)(z2:k.length=n)
  (h1:∀ i (h:i<l.length),InAt w b1 (o1+i*3) l[i]) (h2:∀ i (h:i<k.length),InAt w b2 (o2+i*3) k[i]) (ho:decide (l=k)=o) :
  Calls Tryz.prog 94 #[.slice (some ⟨b1,o1,none⟩) n c,.slice (some ⟨b2,o2,none⟩) n d,.func (.func 93) #[] #[]] w fun e w'=>e = .returned (.bool o)∧Below w.heap.size w w':=by
 subst ho
 unfold maxLen at hn
 have H1:=Zb h1
 have H2:=Zb h2
 have Z1:=Zb z1
 have Z2:=Zb z2
 clear h1 h2 z1 z2
 go_enter Tryz.func94,Tryz.ntmps94
 go_wp2
 go_loopw [17] (fun i wr=>∃ j:Nat,j≤n∧i = .int .i64 j∧Below w.heap.size w wr∧Hid (l.take j=k.take j)) (fun i _=>n - (intOf i).toNat)
 case atStart=>exact⟨0,Nat.zero_le _,rfl,Below.refl _ _,rfl⟩
 case round=>
  obtain⟨j,hk,rfl,hb,A⟩:=hrel
  have HB:=Zb hb
  by_cases hlt:j<n
  ·have hl1:j<l.length:=by rw[Za Z1];exact hlt
   have hl2:j<k.length:=by rw[Za Z2];exact hlt
   have g:=InAt.kept _ _ _ _ _ hb ((Za H1) j hl1)
   have f:=InAt.kept _ _ _ _ _ hb ((Za H2) j hl2)
   have TS:=Zb (V7 hl1 hl2 (Za A))
   have TU:=Zb (Wn hl1 hl2)
   obtain⟨q,hq⟩:∃ q,l[j]=q:=⟨_,rfl⟩
   obtain⟨r,hr⟩:∃ r,k[j]=r:=⟨_,rfl⟩
   rw[hq] at g
   rw[hr] at f
   rw[hq,hr] at TS TU
   obtain⟨g1,g2,qa,qn,qc,g3,g4,g5⟩:=g
   obtain⟨f1,f2,ra,rn,rc,f3,f4,_⟩:=f
   obtain⟨q1,q2,qk⟩:=q
   obtain⟨r1,r2,rk⟩:=r
   simp only at g1 g2 g3 g4 f1 f2 f3 f4
   have lt2:b2<wr.heap.size:=World.block_lt_of_cell? _ _ f1
   have hb2:=Ze (Zf wr (.cells #[.int .i64 q1,.int .i64 q2,.slice qa qn qc] 124)) (Zf _ (.cells #[.int .i64 r1,.int .i64 r2,.slice ra rn rc] 124))
   have HB2:=Zb hb2
   have C:Hid (∀ o,decide (((q1,q2,qk):InD)=(r1,r2,rk))=o→Calls Tryz.prog 93 #[.agg #[.int .i64 q1,.int .i64 q2,.slice qa qn qc],.agg #[.int .i64 r1,.int .i64 r2,.slice ra rn rc]] ((wr.alloc (.cells #[.int .i64 q1,.int .i64 q2,.slice qa qn qc] 124)).alloc (.cells #[.int .i64 r1,.int .i64 r2,.slice ra rn rc] 124)) fun e w'=>e = .returned (.bool o)∧Below _ _ w'):=
    fun o ho=>Eg (q1,q2,qk) (r1,r2,rk) qa ra qn qc rn rc o _ g5.len (g4.later hb2) (f4.later hb2) ho
   clear hq hr A g4 f4 g5 hb hb2
   by_cases he:((q1,q2,qk):InD)=(r1,r2,rk)
   ·have T:=Zb ((Za TS) he)
    have C2:=Zb ((Za C) true (decide_eq_true he))
    clear TS TU C he
    go_wp2_with fail
    refine (Za C2).mono ?_
    rintro e w3 ⟨rfl,hb3⟩
    have HB3:=Zb (Ze (Ze (Za HB) (Za HB2)) hb3)
    clear hb3
    go_wp2
    go_roundw
    case rel=>exact⟨j+1,by omega,by go_num,Za HB3,T⟩
    case measure=>simp[intOf];omega
   ·have U:Hid (decide (l=k)=false):=decide_eq_false ((Za TU) he)
    have C2:=Zb ((Za C) false (decide_eq_false he))
    clear TS TU C he
    go_wp2_with fail
    refine (Za C2).mono ?_
    rintro e w3 ⟨rfl,hb3⟩
    have HB3:=Zb (Ze (Ze (Za HB) (Za HB2)) hb3)
    clear hb3
    go_wp2
    go_ret
    exact⟨by rw[Za U];rfl,Za HB3⟩
  ·have U:Hid (decide (l=k)=true):=by
    have h:=Za A
    rw[List.take_of_length_le (by rw[Za Z1];omega),List.take_of_length_le (by rw[Za Z2];omega)] at h
    exact decide_eq_true h
   clear A hb
   go_wp2
   go_ret
   exact⟨by rw[Za U];rfl,Za HB⟩
end Go.Proofs.YtpikejjiignchaaGreatDoor
