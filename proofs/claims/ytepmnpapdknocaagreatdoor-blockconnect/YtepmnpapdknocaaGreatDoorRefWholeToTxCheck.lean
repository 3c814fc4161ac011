/- Contracts of the reference's reading of a number, and of its words. -/
import Derived.Test.YtepmnpapdknocaaGreatDoorLockPrintToLockNum
import Derived.Test.YtepmnpapdknocaaGreatDoorShelfC
import Derived.Lib.ParseIntBTie
import Derived.Test.YtepmnpapdknocaaGreatDoorLockMathToLockFill
set_option maxHeartbeats 3200000
set_option maxRecDepth 10000
namespace Go.Proofs.YtepmnpapdknocaaGreatDoor
open Go.RowKit
structure EnvE(w:World):Prop where
 env:Env w
theorem EnvE.later{w w':World}(h:EnvE w)(hb:Below w.heap.size w w'):EnvE w':=⟨h.env.later hb⟩
structure EnvF(w:World):Prop where
 envp:EnvE w
 spc:Lib.TabIs Tryz.prog w "strings.asciiSpace" .u8 Lib.asciiSpaceTab
theorem Tryz.gSpc:Tryz.prog.globalNamed "strings.asciiSpace" = some 0:=by kernel_rfl
theorem EnvF.later{w w':World}(h:EnvF w)(hb:Below w.heap.size w w'):EnvF w':=
 ⟨h.envp.later hb,Joins.var_stays Tryz.gSpc h.spc hb (Nat.le_refl _)⟩
def refB:ByteArray:=⟨#[45,32,45,32,100,117,112,32,115,119,97,112,32,100,114,111,112,32,97,100,100,32,115,117,98,32,115,97,109,101,32,108,101,115,115,32,110,111,116,32,97,110,100,32,118,101,114,105,102,121,32,104,101,105,103,104,116,32,109,105,120]⟩
def refL:List ByteArray:=[⟨#[45]⟩,⟨#[45]⟩]++namesL.drop 2
theorem Bd:(Lib.fields refB.data.toList).map (fun l=>Value.string ⟨l.toArray⟩)=refL.map Value.string:=by
 have h:Lib.fields refB.data.toList=refL.map (·.data.toList):=by decide +kernel
 rw[h,List.map_map]
 rfl
theorem Be:(Lib.fields refB.data.toList).length=14:=by decide +kernel
theorem Eu:∀ (j:Nat) b,refB.data.toList[j]? = some b→b.toNat<128:=by
 have h:refB.data.toList.all (fun b=>decide (b.toNat<128))=true:=by decide +kernel
 intro j b hb
 simpa using List.all_eq_true.1 h b (List.mem_of_getElem? hb)
theorem Hj(w:World)(hE:EnvF w) :
  Calls Tryz.prog 118 #[.string refB] w fun e w'=>e = .returned (.slice (some ⟨w.heap.size,0,none⟩) 14 14)∧w'=w.alloc (.cells (refL.map Value.string).toArray 9):=by
 have h:=Tryz.strings_Fields refB w (by decide) Eu hE.spc
 rw[Bd,Be] at h
 exact h
theorem Zcq(w:World)(k:Nat)(hk:k<14):(w.alloc (.cells (refL.map Value.string).toArray 9)).cell? ⟨w.heap.size,k,none⟩=some (.string (refL.getD k ⟨#[]⟩)):=by
 rw[World.cell?_alloc_at _ _ _ _ rfl]
 have hl:k<refL.length:=hk
 simp[hl]
theorem Ev(k:Nat)(h2:2≤k)(hk:k<14):refL.getD k ⟨#[]⟩=Qv k:=by
 have:∀ m:Fin 14,2≤m.val→refL.getD m.val ⟨#[]⟩=Qv m.val:=by decide +kernel
 exact this ⟨k,hk⟩ h2
theorem Zas(xs:List (List UInt8))(x sep:List UInt8)(h:xs≠[]):Lib.join (xs++[x]) sep=Lib.join xs sep++(sep++x):=by
 cases xs with
 | nil=>exact absurd rfl h
 | cons y r=>rw[List.cons_append,Lib.join_cons,Lib.join_cons,Lib.joinTail,Lib.joinTail,List.map_append,List.flatten_append,List.append_assoc];simp
theorem U1{a b:ByteArray}(h:a.data.toList=b.data.toList):a=b:=by
 cases a with|mk d=>cases b with|mk e=>cases d;cases e;simp at h;rw[h]
theorem Sj(q:Int×Int):Z3 [q]=⟨#[]⟩++Y5 q:=by
 apply U1
 simp[Z3,Lib.join_one,ByteArray.data_append]
theorem Rw(l:List (Int×Int))(q:Int×Int)(h:l≠[]):Z3 (l++[q])=(Z3 l++⟨#[32]⟩)++Y5 q:=by
 apply U1
 unfold Z3
 rw[List.map_append,List.map_append,List.map_cons,List.map_nil,List.map_cons,List.map_nil,Zas _ _ _ (by simpa using h)]
 simp[ByteArray.data_append]
theorem Hr:∀ (l:List (Int×Int)) (k:Nat),Vd l=0→Vd (l.take k)=0
 | [],k,_=>by rw[List.take_nil];rfl
 | o :: r,0,_=>rfl
 | o :: r,k+1,h=>by
  rw[List.take_succ_cons]
  simp only[Vd] at h ⊢
  split at h
  ·rename_i e
   rw[if_pos e]
   exact Hr r k h
  ·contradiction
theorem Mq(l:List (Int×Int))(h16:l.length≤16)(h:Vd l=0):(Z3 l).size≤400:=by
 have:=Q8 l h16 h
 simpa[Z3,ByteArray.size] using this
theorem Qf{a b:ByteArray}(h:a=b):Value.string a = .string b:=by rw[h]
theorem Mo(b off len cap:Nat)(l:List (Int×Int))(w:World)(hE:EnvF w)(hz:l.length=len)(hck:chk l=0)(hbl:b<w.heap.size)
  (hc:∀ i,i<len→w.cell? ⟨b,off+i*2,none⟩=some (.int .i64 (l.getD i (0,0)).1)∧w.cell? ⟨b,off+i*2+1,none⟩=some (.int .i64 (l.getD i (0,0)).2)) :
  Calls Tryz.prog 81 #[.slice (some ⟨b,off,none⟩) len cap] w fun e w'=>e = .returned (.string (Z3 l))∧Below w.heap.size w w':=by
 have h16:len≤16:=by
  unfold chk at hck
  split at hck
  ·cases hck
  ·omega
 have hck':Vd l=0:=by
  unfold chk at hck
  split at hck
  ·cases hck
  ·exact hck
 have HK:=hide (Je hck')
 have HCK:=hide hck'
 have HE:=hide hE
 have HC:=hide hc
 have HZ:=hide hz
 have FL:=hide (Hj w hE)
 clear hE hc hz hck hck'
 go_enter Tryz.func81,Tryz.ntmps81
 go_wp2_with fail
 refine (unhide FL).mono ?_
 rintro e w1 ⟨rfl,hw1⟩
 have HB1:Hid (Below w.heap.size w w1):=by rw[hw1];exact (Below.refl _ _).alloc (Nat.le_refl _) _
 have HN:Hid (∀ k,k<14→w1.cell? ⟨w.heap.size,k,none⟩=some (.string (refL.getD k ⟨#[]⟩))):=by rw[hw1];exact fun k hk=>Zcq w k hk
 have hsz:w.heap.size<w1.heap.size:=by rw[hw1];simp
 clear hw1
 go_wp2
 go_loopw [4,10] (fun s i wr=>∃ k:Nat,k≤len∧i = .int .i64 k∧s = .string (Z3 (l.take k))∧Below w1.heap.size w1 wr) (fun _ i _=>len - (intOf i).toNat)
 case atStart=>exact⟨0,Nat.zero_le _,rfl,rfl,Below.refl _ _⟩
 case round=>
  obtain⟨k,hk,rfl,rfl,hbr⟩:=hrel
  have hbw:Below w.heap.size w wr:=Nh (unhide HB1) hbr
  have HBW:=hide hbw
  have HBR:=hide hbr
  by_cases hlt:k<len
  ·have hlk:k<l.length:=by rw[unhide HZ];exact hlt
   obtain⟨c1,c2⟩:=(unhide HC) k hlt
   rw[←hbw.cell (p:=⟨b,off+k*2,none⟩) hbl] at c1
   rw[←hbw.cell (p:=⟨b,off+k*2+1,none⟩) hbl] at c2
   obtain⟨q,hq⟩:∃ q,q=l.getD k (0,0):=⟨_,rfl⟩
   rw[←hq] at c1 c2
   have hq':q=l[k]:=by rw[hq];simp[hlk]
   have hkk:=(unhide HK) k hlk
   rw[←hq'] at hkk
   have hts:l.take (k+1)=l.take k++[q]:=by rw[List.take_succ_eq_append_getElem hlk,hq']
   obtain⟨kd,n⟩:=q
   have hba:Below wr.heap.size wr (wr.alloc (.cells #[.int .i64 kd,.int .i64 n] 148)):=(Below.refl _ _).alloc (Nat.le_refl _) _
   have HBA:=hide hba
   obtain⟨T,hT⟩:∃ T,T=Z3 (l.take k):=⟨_,rfl⟩
   rw[←hT]
   obtain⟨T',hT'⟩:∃ T',T'=Z3 (l.take (k+1)):=⟨_,rfl⟩
   have HT':=hide hT'
   have hne:0<k→l.take k≠[]:=fun h e=>by
    rw[List.take_eq_nil_iff] at e
    rcases e with e|e
    ·omega
    ·rw[e] at hlk;simp at hlk
   have hTs:T.size≤400:=by rw[hT];exact Mq _ (by rw[List.length_take];omega) (Hr l k (unhide HCK))
   have hTs1:(T++⟨#[32]⟩:ByteArray).size≤401:=by rw[ByteArray.size_append];show T.size+1≤401;omega
   by_cases h1:kd=1
   ·subst h1
    have hn : -1000000≤n∧n≤1000000:=by
     have:fit n=true:=by
      simp only[Yw] at hkk
      cases h:fit n with
      | true=>rfl
      | false=>simp[h] at hkk
     exact (Zu n).1 this
    have IT:Hid (∀ w,Env w→Calls Tryz.prog 80 #[.int .i64 n] w fun e w'=>e = .returned (.string (Y6 n))∧Below w.heap.size w w'):=fun w hw=>
     (Tryz.strconv_Itoa n (by omega) (by omega) w hw.tab).mono fun e w' ⟨h1,k,os,h2⟩=>⟨h1,by rw[h2];exact Lib.below_grow _ _ (Nat.le_refl _) k os⟩
    have eo:Y5 (1,n)=Y6 n:=by simp[Y5,Y6]
    have hXs:(Y6 n).size≤21:=by
     have:=Lib.itoa_length_le n (by omega) (by omega)
     simpa[Y6,ByteArray.size] using this
    have EE:=hide ((((unhide HE).later hbw).later hba).envp.env)
    by_cases h0:k=0
    ·subst h0
     simp only[Nat.zero_mul,Nat.add_zero] at c1 c2
     have HTT:Hid (T'=T++Y6 n):=by
      show _=_
      rw[hT',hts,hT,←eo]
      exact Sj _
     clear hT hT' hts hq hq' hkk hbr hbw hba hn eo hne
     go_wp2_with fail
     refine ((unhide IT) _ (unhide EE)).mono ?_
     rintro e w3 ⟨rfl,hb3⟩
     have HB3:=hide ((unhide HBR).trans ((Nh (unhide HBA) hb3).mono (unhide HBR).size))
     clear hb3
     go_wp2
     go_roundw
     case rel=>exact⟨0+1,by omega,by go_num,Qf ((unhide HTT).symm.trans (unhide HT')),unhide HB3⟩
     case measure=>simp[intOf];omega
    ·have g0:(0:Int)<(k:Int):=by omega
     have HTT:Hid (T'=(T++⟨#[32]⟩)++Y6 n):=by
      show _=_
      rw[hT',hts,hT,←eo]
      exact Rw _ _ (hne (by omega))
     clear hT hT' hts hq hq' hkk hbr hbw hba hn eo hne
     go_wp2_with fail
     refine ((unhide IT) _ (unhide EE)).mono ?_
     rintro e w3 ⟨rfl,hb3⟩
     have HB3:=hide ((unhide HBR).trans ((Nh (unhide HBA) hb3).mono (unhide HBR).size))
     clear hb3
     go_wp2
     go_roundw
     case rel=>exact⟨k+1,by omega,by go_num,Qf ((unhide HTT).symm.trans (unhide HT')),unhide HB3⟩
     case measure=>simp[intOf];omega
   ·have hkr:1≤kd∧kd≤13:=by
     simp only[Yw] at hkk
     split at hkk
     ·cases hkk
     ·omega
    obtain⟨m,rfl⟩:=Int.eq_ofNat_of_zero_le (show 0≤kd by omega)
    have eo:Y5 ((m:Int),n)=Qv m:=by simp[Y5];intro h;omega
    have c3:=(unhide HN) m (by omega)
    rw[Ev m (by omega) (by omega),←hbr.cell (p:=⟨w.heap.size,m,none⟩) hsz] at c3
    have hl3:w.heap.size<wr.heap.size:=Nat.lt_of_lt_of_le hsz hbr.size
    obtain⟨x,hx⟩:∃ x,x=Qv m:=⟨_,rfl⟩
    rw[←hx] at c3
    have hXs:x.size≤21:=by
     have all:∀ j:Fin 14,(Qv j.val).size≤21:=by decide
     rw[hx];exact all ⟨m,by omega⟩
    have g1:((m:Int) == 1)=false:=by simp;omega
    have g2:(m:Int)<14:=by omega
    have HB3:=hide ((unhide HBR).trans ((unhide HBA).mono (unhide HBR).size))
    by_cases h0:k=0
    ·subst h0
     simp only[Nat.zero_mul,Nat.add_zero] at c1 c2
     have HTT:Hid (T'=T++x):=by
      show _=_
      rw[hT',hts,hT,hx,←eo]
      exact Sj _
     clear hT hT' hts hq hq' hkk hbr hbw hba eo hne hkr h1 hx
     go_wp2
     go_roundw
     case rel=>exact⟨0+1,by omega,by go_num,Qf ((unhide HTT).symm.trans (unhide HT')),unhide HB3⟩
     case measure=>simp[intOf];omega
    ·have g0:(0:Int)<(k:Int):=by omega
     have HTT:Hid (T'=(T++⟨#[32]⟩)++x):=by
      show _=_
      rw[hT',hts,hT,hx,←eo]
      exact Rw _ _ (hne (by omega))
     clear hT hT' hts hq hq' hkk hbr hbw hba eo hne hkr h1 hx
     go_wp2
     go_roundw
     case rel=>exact⟨k+1,by omega,by go_num,Qf ((unhide HTT).symm.trans (unhide HT')),unhide HB3⟩
     case measure=>simp[intOf];omega
  ·have e:k=len:=by omega
   subst e
   have HT:Hid (Z3 (l.take k)=Z3 l):=by show _=_;rw[List.take_of_length_le (by rw[unhide HZ];exact Nat.le_refl _)]
   clear hbr hbw
   go_wp2
   go_ret
   exact⟨Pr (unhide HT),unhide HBW⟩
theorem Mp(a:Option Addr)(cap:Nat)(w:World)(hE:EnvF w) :
  Calls Tryz.prog 81 #[.slice a 0 cap] w fun e w'=>e = .returned (.string ⟨#[]⟩)∧Below w.heap.size w w':=by
 have FL:=hide (Hj w hE)
 clear hE
 go_enter Tryz.func81,Tryz.ntmps81
 go_wp2_with fail
 refine (unhide FL).mono ?_
 rintro e w1 ⟨rfl,hw1⟩
 have HB1:Hid (Below w.heap.size w w1):=by rw[hw1];exact (Below.refl _ _).alloc (Nat.le_refl _) _
 clear hw1
 go_wp2
 refine wp_loop_rounds 1 ?_
 rw[rounds_succ]
 go_wp2
 go_ret
 exact⟨rfl,unhide HB1⟩
theorem Si(a:Option Addr)(len cap:Nat)(l:List (Int×Int))(w:World)(hE:EnvF w)(hO:OpsAt w a len l)(hck:chk l=0) :
  Calls Tryz.prog 81 #[.slice a len cap] w fun e w'=>e = .returned (.string (Z3 l))∧Below w.heap.size w w':=by
 obtain⟨hz,hc⟩:=hO
 by_cases h0:len=0
 ·subst h0
  have e:l=[]:=List.length_eq_zero_iff.1 hz
  subst e
  exact Mp a cap w hE
 ·obtain⟨b,off,rfl,hcell⟩:=hc (by omega)
  exact Mo b off len cap l w hE hz hck (World.block_lt_of_cell? _ _ (hcell 0 (by omega)).1) hcell
abbrev InD:=Int×Int×List (Int×Int)
abbrev Z7:=Int×List (Int×Int)
abbrev TxD:=Int×List InD×List Z7
def Tm(x:InD):Bool:=(decide (1≤x.1) && decide (x.1≤120)) && (decide (0≤x.2.1) && decide (x.2.1≤5))
def Wa(x y:InD):Bool:=decide (y.1=x.1) && decide (y.2.1=x.2.1)
def We(pre:List InD)(x:InD):Int:=if Tm x=false then 3 else if chk x.2.2≠0 then chk x.2.2 else if pre.any (Wa x) then 6 else 0
def Zw(pre:List InD):List InD→Int
 | []=>0
 | x :: r=>if We pre x=0 then Zw (pre++[x]) r else We pre x
def Ys(x:Z7):Int:=if x.1<1 then 3 else chk x.2
def Zx:List Z7→Int
 | []=>0
 | x :: r=>if Ys x=0 then Zx r else Ys x
def sm:Int→List Int→Int×Int
 | s,[]=>(s,0)
 | s,x :: l=>if 0≤x∧x≤1000000000 then (if s+x≤1000000000 then sm (s+x) l else (0,12)) else (0,3)
theorem Cf(s:Int)(Z:List Int)(k:Nat)(hk:k<Z.length)(h1:0≤Z.getD k 0)(h2:Z.getD k 0≤1000000000)(h3:s+Z.getD k 0≤1000000000) :
  sm s (Z.drop k)=sm (s+Z.getD k 0) (Z.drop (k+1)):=by
 have e:Z.drop k=Z.getD k 0 :: Z.drop (k+1):=by
  rw[List.drop_eq_getElem_cons hk];simp[List.getD,hk]
 rw[e,sm,if_pos ⟨h1,h2⟩,if_pos h3]
theorem Cg(s:Int)(Z:List Int)(k:Nat)(hk:k<Z.length)(h1:0≤Z.getD k 0)(h2:Z.getD k 0≤1000000000)(h3:1000000000<s+Z.getD k 0) :
  sm s (Z.drop k)=(0,12):=by
 have e:Z.drop k=Z.getD k 0 :: Z.drop (k+1):=by
  rw[List.drop_eq_getElem_cons hk];simp[List.getD,hk]
 rw[e,sm,if_pos ⟨h1,h2⟩,if_neg (by omega)]
theorem N6(s:Int)(Z:List Int)(k:Nat)(hk:k<Z.length)(h:Z.getD k 0<0∨1000000000<Z.getD k 0) :
  sm s (Z.drop k)=(0,3):=by
 have e:Z.drop k=Z.getD k 0 :: Z.drop (k+1):=by
  rw[List.drop_eq_getElem_cons hk];simp[List.getD,hk]
 rw[e,sm,if_neg (by omega)]
theorem Zcd(s:Int)(Z:List Int)(k:Nat)(hk:Z.length≤k):sm s (Z.drop k)=(s,0):=by
 rw[List.drop_of_length_le hk];rfl
def Hb(t:TxD):Bool:=if t.2.1.length=0 then decide (1≤t.1) && decide (t.1≤1000) else decide (t.1=0)
def Zn(l:List Z7):Int:=if Zx l=0 then (sm 0 (l.map (·.1))).2 else Zx l
def Zj(t:TxD):Int:=
 if 6<t.2.1.length∨6<t.2.2.length then 2 else if t.2.2.length=0 then 4 else if Hb t=false then 3
 else if Zw [] t.2.1≠0 then Zw [] t.2.1 else Zn t.2.2
theorem Pc(L:List InD)(k:Nat)(hk:k<L.length)(h:We (L.take k) L[k]=0):Zw (L.take k) (L.drop k)=Zw (L.take (k+1)) (L.drop (k+1)):=by
 rw[List.drop_eq_getElem_cons hk,Zw,if_pos h,List.take_succ_eq_append_getElem hk]
theorem Pb(L:List InD)(k:Nat)(hk:k<L.length)(h:We (L.take k) L[k]≠0):Zw (L.take k) (L.drop k)=We (L.take k) L[k]:=by
 rw[List.drop_eq_getElem_cons hk,Zw,if_neg h]
theorem Hs(L:List InD)(k:Nat)(hk:L.length≤k):Zw (L.take k) (L.drop k)=0:=by
 rw[List.drop_of_length_le hk];rfl
theorem Qt(L:List Z7)(k:Nat)(hk:k<L.length)(h:Ys L[k]=0):Zx (L.drop k)=Zx (L.drop (k+1)):=by
 rw[List.drop_eq_getElem_cons hk,Zx,if_pos h]
theorem Qs(L:List Z7)(k:Nat)(hk:k<L.length)(h:Ys L[k]≠0):Zx (L.drop k)=Ys L[k]:=by
 rw[List.drop_eq_getElem_cons hk,Zx,if_neg h]
theorem Jd(L:List Z7)(k:Nat)(hk:L.length≤k):Zx (L.drop k)=0:=by
 rw[List.drop_of_length_le hk];rfl
theorem L5{pre:List InD}{x:InD}(h:Tm x=false):We pre x=3:=by unfold We;rw[if_pos h]
theorem Hu{pre:List InD}{x:InD}(h:Tm x=true)(hk:chk x.2.2≠0):We pre x=chk x.2.2:=by
 unfold We;rw[if_neg (by rw[h];decide),if_pos hk]
theorem Tc{pre:List InD}{x:InD}(h:Tm x=true)(hk:chk x.2.2=0)(ht:pre.any (Wa x)=true):We pre x=6:=by
 unfold We;rw[if_neg (by rw[h];decide),if_neg (by rw[hk];decide),if_pos ht]
theorem L7{pre:List InD}{x:InD}(h:Tm x=true)(hk:chk x.2.2=0)(ht:pre.any (Wa x)=false):We pre x=0:=by
 unfold We;rw[if_neg (by rw[h];decide),if_neg (by rw[hk];decide),if_neg (by rw[ht];decide)]
def RowsAt{α : Type}(R:World→Nat→Nat → α→Prop)(sz:Nat)(w:World)(a:Option Addr)(len:Nat)(l:List α):Prop:=
 l.length=len∧(0<len→∃ b off,a=some ⟨b,off,none⟩∧b<w.heap.size∧∀ i (h:i<l.length),R w b (off+i*sz) l[i])
def F9{α : Type}(R:World→Nat→Nat → α→Prop):Prop:=∀ (w w':World) (b o:Nat) (x : α),Below w.heap.size w w'→R w b o x→R w' b o x
theorem RowsAt.later{α : Type}{R:World→Nat→Nat → α→Prop}(hR:F9 R){sz:Nat}{w w':World}{a:Option Addr}{len:Nat}{l:List α}(h:RowsAt R sz w a len l)(hb:Below w.heap.size w w'):RowsAt R sz w' a len l:=by
 refine⟨h.1,fun h0=>?_⟩
 obtain⟨b,off,e,hl,hc⟩:=h.2 h0
 exact⟨b,off,e,Nat.lt_of_lt_of_le hl hb.size,fun i hi=>hR w w' b _ _ hb (hc i hi)⟩
theorem RowsAt.nil{α : Type}{R:World→Nat→Nat → α→Prop}{sz:Nat}(w:World)(a:Option Addr):RowsAt R sz w a 0 []:=⟨rfl,fun h=>absurd h (by omega)⟩
theorem cell_later{w w':World}{p:Addr}{v:Value}(hb:Below w.heap.size w w')(h:w.cell? p=some v):w'.cell? p=some v:=by
 rw[hb.cell (p:=p) (World.block_lt_of_cell? _ _ h)];exact h
def SlOk(a:Option Addr)(n c:Nat):Prop:=n≤c∧c≤maxLen∧(a=none→n=0∧c=0)
theorem SlOk.len{a:Option Addr}{n c:Nat}(h:SlOk a n c):n≤maxLen:=Nat.le_trans h.1 h.2.1
def InAt(w:World)(b o:Nat)(x:InD):Prop:=
 w.cell? ⟨b,o,none⟩=some (.int .i64 x.1)∧w.cell? ⟨b,o+1,none⟩=some (.int .i64 x.2.1)∧∃ a n c,w.cell? ⟨b,o+2,none⟩=some (.slice a n c)∧OpsAt w a n x.2.2∧SlOk a n c
def OutAt(w:World)(b o:Nat)(x:Z7):Prop:=
 w.cell? ⟨b,o,none⟩=some (.int .i64 x.1)∧∃ a n c,w.cell? ⟨b,o+1,none⟩=some (.slice a n c)∧OpsAt w a n x.2∧SlOk a n c
theorem InAt.kept:F9 InAt:=fun _ _ _ _ _ hb h=>by
 obtain⟨h1,h2,a,n,c,h3,h4,h5⟩:=h
 exact⟨cell_later hb h1,cell_later hb h2,a,n,c,cell_later hb h3,h4.later hb,h5⟩
theorem OutAt.kept:F9 OutAt:=fun _ _ _ _ _ hb h=>by
 obtain⟨h1,a,n,c,h3,h4,h5⟩:=h
 exact⟨cell_later hb h1,a,n,c,cell_later hb h3,h4.later hb,h5⟩
def InsAt(w:World)(a:Option Addr)(len:Nat)(l:List InD):Prop:=RowsAt InAt 3 w a len l
def OutsAt(w:World)(a:Option Addr)(len:Nat)(l:List Z7):Prop:=RowsAt OutAt 2 w a len l
theorem InsAt.later{w w':World}{a:Option Addr}{len:Nat}{l:List InD}(h:InsAt w a len l)(hb:Below w.heap.size w w'):InsAt w' a len l:=RowsAt.later InAt.kept h hb
theorem OutsAt.later{w w':World}{a:Option Addr}{len:Nat}{l:List Z7}(h:OutsAt w a len l)(hb:Below w.heap.size w w'):OutsAt w' a len l:=RowsAt.later OutAt.kept h hb
theorem RowsAt.take{α : Type}{R:World→Nat→Nat → α→Prop}{sz:Nat}{w:World}{a:Option Addr}{len:Nat}{l:List α}(h:RowsAt R sz w a len l)(k:Nat)(hk:k≤len):RowsAt R sz w a k (l.take k):=by
 have hl:=h.1
 refine⟨by rw[List.length_take];omega,fun h0=>?_⟩
 obtain⟨b,off,e,hb,hc⟩:=h.2 (by omega)
 refine⟨b,off,e,hb,fun i hi=>?_⟩
 rw[List.length_take] at hi
 rw[List.getElem_take]
 exact hc i (by omega)
theorem bel_on{w w1 w2:World}(h1:Below w.heap.size w w1)(h2:Below w1.heap.size w1 w2):Below w.heap.size w w2:=h1.trans (h2.mono h1.size)
theorem bel_new(w:World)(o:Obj):Below w.heap.size w (w.alloc o):=(Below.refl _ _).alloc (Nat.le_refl _) _
theorem Ri(n:Int)(w:World)(h1:0≤n)(h2:n≤1000000000) :
  Calls Tryz.prog 208 #[.int .i64 n] w fun e w'=>e = .returned (.int .i64 0)∧w=w':=by
 go_enter Tryz.func208,Tryz.ntmps208
 go_wp2_with (go_at_call 62;refine (Wz _ _ _ _ h1 h2).mono ?_;rintro e w' ⟨rfl,rfl⟩)
 go_ret
 exact⟨rfl,rfl⟩
theorem Mc(n:Int)(w:World)(h:n<0∨1000000000<n) :
  Calls Tryz.prog 208 #[.int .i64 n] w fun e w'=>e = .returned (.int .i64 3)∧w=w':=by
 go_enter Tryz.func208,Tryz.ntmps208
 go_wp2_with (go_at_call 62;refine (Ji _ _ _ _ h).mono ?_;rintro e w' ⟨rfl,rfl⟩)
 go_ret
 exact⟨rfl,rfl⟩
theorem Zey(a:Option Addr)(len cap:Nat)(Z:List Int)(w:World)(h:RowAt w a len Z) :
  Calls Tryz.prog 159 #[.slice a len cap] w fun e w'=>e = .returned (.tuple #[.int .i64 (sm 0 Z).1,.int .i64 (sm 0 Z).2])∧w=w':=by
 obtain⟨hz,hm,hc⟩:=h
 unfold maxLen at hm
 rcases Nat.eq_zero_or_pos len with h0|h0
 ·subst h0
  have HZ:Hid (Z=[]):=List.eq_nil_of_length_eq_zero hz
  clear hz hc hm
  go_enter Tryz.func159,Tryz.ntmps159
  go_wp2
  refine wp_loop_rounds 1 ?_
  rw[rounds_succ]
  go_wp2
  go_ret2
  rw[HZ.out]
  exact⟨rfl,rfl⟩
 ·obtain⟨b,off,rfl,hcell⟩:=hc h0
  have HC:Hid (∀ i,i<len→w.cell? ⟨b,off+i,none⟩=some (.int .i64 (Z.getD i 0))):=hcell
  clear hc hcell
  go_enter Tryz.func159,Tryz.ntmps159
  go_wp2
  go_loop [4,10] (fun s i=>∃ (k:Nat) (x:Int),k≤len∧i = .int .i64 k∧s = .int .i64 x∧0≤x∧x≤1000000000∧Hid (sm 0 Z=sm x (Z.drop k))) (fun _ i=>len - (intOf i).toNat)
  case atStart=>exact⟨0,0,Nat.zero_le _,rfl,rfl,by decide,by decide,by exact rfl⟩
  case round=>
   obtain⟨k,x,hk,rfl,rfl,hx0,hx1,HS⟩:=hrel
   by_cases hlt:k<len
   ·have hck:=HC.out k hlt
    generalize hv:Z.getD k 0=v at hck
    have HV:Hid (Z.getD k 0=v):=hv
    clear hv
    by_cases hr:v<0∨1000000000<v
    ·go_wp2_with (go_at_call 208;refine (Mc _ _ hr).mono ?_;rintro e w' ⟨rfl,rfl⟩)
     go_ret2
     rw[HS.out,N6 x Z k (by omega) (by rw[HV.out];exact hr)]
     exact⟨rfl,rfl⟩
    ·have hr1:0≤v:=by omega
     have hr2:v≤1000000000:=by omega
     clear hr
     by_cases hf:1000000000<x+v
     ·go_wp2_with fail
      refine (Ri _ _ hr1 hr2).mono ?_
      rintro e w' ⟨rfl,rfl⟩
      go_wp2_with fail
      refine (Mc _ _ (.inr hf)).mono ?_
      rintro e w' ⟨rfl,rfl⟩
      go_wp2
      go_ret2
      rw[HS.out,Cg x Z k (by omega) (by rw[HV.out];exact hr1) (by rw[HV.out];exact hr2) (by rw[HV.out];exact hf)]
      exact⟨rfl,rfl⟩
     ·have hf2:x+v≤1000000000:=by omega
      have hf1:0≤x+v:=by omega
      clear hf
      go_wp2_with fail
      refine (Ri _ _ hr1 hr2).mono ?_
      rintro e w' ⟨rfl,rfl⟩
      go_wp2_with fail
      refine (Ri _ _ hf1 hf2).mono ?_
      rintro e w' ⟨rfl,rfl⟩
      go_wp2
      go_round
      case rel=>
       refine⟨k+1,x+v,by omega,by go_num,rfl,by omega,by omega,?_⟩
       show sm 0 Z=_
       rw[HS.out,Cf x Z k (by omega) (by rw[HV.out];exact hr1) (by rw[HV.out];exact hr2) (by rw[HV.out];exact hf2),HV.out]
      case measure=>simp[intOf];omega
   ·go_wp2
    go_ret2
    rw[HS.out,Zcd x Z k (by omega)]
    exact⟨rfl,rfl⟩
theorem Ql(x y:Int)(b:Bool)(w:World)(hb:((decide (1≤x) && decide (x≤120)) && (decide (0≤y) && decide (y≤5)))=b) :
  Calls Tryz.prog 137 #[.agg #[.int .i64 x,.int .i64 y]] w fun e w'=>e = .returned (.bool b)∧Below w.heap.size w w':=by
 have HB:=hide (bel_new w (.cells #[.int .i64 x,.int .i64 y] 86))
 by_cases h1:1≤x∧x≤120
 ·have e1:(decide (1≤x) && decide (x≤120))=true:=by simp[h1.1,h1.2]
  obtain⟨c,hc⟩:∃ c,(decide (0≤y) && decide (y≤5))=c:=⟨_,rfl⟩
  rw[e1,hc,Bool.true_and] at hb
  subst hb
  have C1:Hid (∀ w,Calls Tryz.prog 62 #[.int .i64 x,.int .i64 1,.int .i64 120] w fun e w'=>e = .returned (.bool true)∧w=w'):=fun w=>within_is x 1 120 true w e1.symm
  have C2:Hid (∀ w,Calls Tryz.prog 62 #[.int .i64 y,.int .i64 0,.int .i64 5] w fun e w'=>e = .returned (.bool c)∧w=w'):=fun w=>within_is y 0 5 c w hc.symm
  clear e1 hc h1
  go_enter Tryz.func137,Tryz.ntmps137
  go_wp2_with fail
  refine ((unhide C1) _).mono ?_
  rintro e w' ⟨rfl,rfl⟩
  go_wp2_with fail
  refine ((unhide C2) _).mono ?_
  rintro e w' ⟨rfl,rfl⟩
  go_wp2
  go_ret
  exact⟨rfl,unhide HB⟩
 ·have e1:(decide (1≤x) && decide (x≤120))=false:=by
   rw[Bool.and_eq_false_iff,decide_eq_false_iff_not,decide_eq_false_iff_not];omega
  rw[e1,Bool.false_and] at hb
  subst hb
  have C1:Hid (∀ w,Calls Tryz.prog 62 #[.int .i64 x,.int .i64 1,.int .i64 120] w fun e w'=>e = .returned (.bool false)∧w=w'):=fun w=>within_is x 1 120 false w e1.symm
  clear e1 h1
  go_enter Tryz.func137,Tryz.ntmps137
  go_wp2_with fail
  refine ((unhide C1) _).mono ?_
  rintro e w' ⟨rfl,rfl⟩
  go_wp2
  go_ret
  exact⟨rfl,unhide HB⟩
theorem Zch(x y x' y':Int)(a:Option Addr)(n c:Nat)(p:Nat)(b:Bool)(w:World)(h1:w.cell? ⟨p,0,none⟩=some (.int .i64 x'))(h2:w.cell? ⟨p,1,none⟩=some (.int .i64 y'))(hp:p<w.heap.size)
  (hb:(decide (x=x') && decide (y=y'))=b) :
  Calls Tryz.prog 158 #[.agg #[.int .i64 x,.int .i64 y,.slice a n c],.pointer (some ⟨p,0,none⟩)] w fun e w'=>e = .returned (.bool b)∧Below w.heap.size w w':=by
 subst hb
 have HB:=hide (bel_new w (.cells #[.int .i64 x,.int .i64 y,.slice a n c] 140))
 by_cases hx:x=x'
 ·subst hx
  by_cases hy:y=y'
  ·subst hy
   rw[decide_eq_true rfl,decide_eq_true rfl]
   go_enter Tryz.func158,Tryz.ntmps158
   go_wp2
   go_ret
   exact⟨rfl,unhide HB⟩
  ·rw[decide_eq_true rfl,decide_eq_false hy]
   go_enter Tryz.func158,Tryz.ntmps158
   go_wp2
   go_ret
   exact⟨rfl,unhide HB⟩
 ·rw[decide_eq_false hx,Bool.false_and]
  go_enter Tryz.func158,Tryz.ntmps158
  go_wp2
  go_ret
  exact⟨rfl,unhide HB⟩
def J8(x:InD):List InD→Nat→Int
 | [],_=>-1
 | y :: r,k=>if Wa x y then k else J8 x r (k+1)
theorem Cj(x:InD):∀ (l:List InD) (k:Nat),decide (0≤J8 x l k)=l.any (Wa x)
 | [],_=>rfl
 | y :: r,k=>by
  unfold J8
  by_cases h:Wa x y=true
  ·rw[if_pos h];simp[h]
  ·rw[if_neg h,Cj x r (k+1)];simp[h]
theorem E8(x:InD)(l:List InD)(k:Nat)(h:k<l.length):J8 x (l.drop k) k=if Wa x l[k] then (k:Int) else J8 x (l.drop (k+1)) (k+1):=by
 rw[List.drop_eq_getElem_cons h];rfl
theorem M5(b off n c:Nat)(l:List InD)(x:InD)(p:Nat)(w:World)(hz:l.length=n)(hn:n≤6)(hc:∀ i (h:i<l.length),InAt w b (off+i*3) l[i])
  (h1:w.cell? ⟨p,0,none⟩=some (.int .i64 x.1)) (h2:w.cell? ⟨p,1,none⟩=some (.int .i64 x.2.1)) :
  Calls Tryz.prog 207 #[.slice (some ⟨b,off,none⟩) n c,.func (.func 158) #[] #[.pointer (some ⟨p,0,none⟩)]] w fun e w'=>e = .returned (.int .i64 (J8 x l 0))∧Below w.heap.size w w':=by
 have HC:=hide hc
 have HZ:=hide hz
 have H1:=hide h1
 have H2:=hide h2
 clear hc hz h1 h2
 go_enter Tryz.func207,Tryz.ntmps207
 go_wp2
 go_loopw [5,8] (fun _ i wr=>∃ k:Nat,k≤n∧i = .int .i64 k∧Hid (J8 x l 0=J8 x (l.drop k) k)∧Below w.heap.size w wr) (fun _ i _=>n - (intOf i).toNat)
 case atStart=>exact⟨0,Nat.zero_le _,rfl,rfl,Below.refl _ _⟩
 case round=>
  obtain⟨k,hk,rfl,A,hb⟩:=hrel
  have HB:=hide hb
  by_cases hlt:k<n
  ·have hlk:k<l.length:=by rw[unhide HZ];exact hlt
   have hin:=InAt.kept _ _ _ _ _ hb ((unhide HC) k hlk)
   have S:=hide (E8 x l k hlk)
   obtain⟨y,hy⟩:∃ y,l[k]=y:=⟨_,rfl⟩
   rw[hy] at hin S
   obtain⟨g1,g2,ka,kn,kc,g3,_,_⟩:=hin
   have C1:Hid (∀ q,Wa x y=q→Calls Tryz.prog 158 #[.agg #[.int .i64 y.1,.int .i64 y.2.1,.slice ka kn kc],.pointer (some ⟨p,0,none⟩)] wr fun e w'=>e = .returned (.bool q)∧Below wr.heap.size wr w'):=
    fun q hq=>Zch y.1 y.2.1 x.1 x.2.1 ka kn kc p q wr (cell_later hb (unhide H1)) (cell_later hb (unhide H2)) (World.block_lt_of_cell? _ _ (cell_later hb (unhide H1))) hq
   by_cases hs:Wa x y=true
   ·have S2:Hid (J8 x l 0=k):=by show _=_;rw[unhide A,unhide S,if_pos hs]
    have C2:=hide ((unhide C1) true hs)
    clear S A hs C1 hb hy
    go_wp2_with fail
    refine (unhide C2).mono ?_
    rintro e w' ⟨rfl,hb'⟩
    have HB':=hide (bel_on (unhide HB) hb')
    clear hb'
    go_wp2
    go_ret
    exact⟨by rw[unhide S2];rfl,unhide HB'⟩
   ·have hs':Wa x y=false:=by simpa using hs
    have S2:Hid (J8 x l 0=J8 x (l.drop (k+1)) (k+1)):=by show _=_;rw[unhide A,unhide S,if_neg hs]
    have C2:=hide ((unhide C1) false hs')
    clear S A hs hs' C1 hb hy
    go_wp2_with fail
    refine (unhide C2).mono ?_
    rintro e w' ⟨rfl,hb'⟩
    have HB':=hide (bel_on (unhide HB) hb')
    clear hb'
    go_wp2
    go_roundw
    case rel=>exact⟨k+1,by omega,by go_num,S2,unhide HB'⟩
    case measure=>simp[intOf];omega
  ·have S2:Hid (J8 x l 0 = -1):=by
    show _=_
    rw[unhide A,List.drop_of_length_le (by rw[unhide HZ];omega)];rfl
   clear A hb
   go_wp2
   go_ret
   exact⟨by rw[unhide S2];rfl,unhide HB⟩
theorem M6(a:Option Addr)(c:Nat)(v:Value)(w:World) :
  Calls Tryz.prog 207 #[.slice a 0 c,v] w fun e w'=>e = .returned (.int .i64 (-1))∧w=w':=by
 go_enter Tryz.func207,Tryz.ntmps207
 go_wp2
 refine wp_loop_rounds 1 ?_
 rw[rounds_succ]
 go_wp2
 go_ret
 exact⟨rfl,rfl⟩
theorem Fi(a:Option Addr)(n c:Nat)(l:List InD)(x:InD)(p:Nat)(w:World)(hn:n≤6)(h:InsAt w a n l)
  (h1:w.cell? ⟨p,0,none⟩=some (.int .i64 x.1)) (h2:w.cell? ⟨p,1,none⟩=some (.int .i64 x.2.1)) :
  Calls Tryz.prog 207 #[.slice a n c,.func (.func 158) #[] #[.pointer (some ⟨p,0,none⟩)]] w fun e w'=>e = .returned (.int .i64 (J8 x l 0))∧Below w.heap.size w w':=by
 obtain⟨hz,hc⟩:=h
 by_cases h0:n=0
 ·subst h0
  have e:l=[]:=List.length_eq_zero_iff.1 hz
  subst e
  exact (M6 a c _ w).mono fun e w' ⟨q1,q2⟩=>⟨q1,q2 ▸ Below.refl _ _⟩
 ·obtain⟨b,off,rfl,_,hcell⟩:=hc (by omega)
  exact M5 b off n c l x p w hz hn hcell h1 h2
theorem Jz(a:Option Addr)(n c:Nat)(l:List InD)(x:InD)(p:Nat)(o:Bool)(w:World)(hn:n≤6)(h:InsAt w a n l)
  (h1:w.cell? ⟨p,0,none⟩=some (.int .i64 x.1)) (h2:w.cell? ⟨p,1,none⟩=some (.int .i64 x.2.1)) (ho:l.any (Wa x)=o) :
  Calls Tryz.prog 157 #[.slice a n c,.func (.func 158) #[] #[.pointer (some ⟨p,0,none⟩)]] w fun e w'=>e = .returned (.bool o)∧Below w.heap.size w w':=by
 have E:Hid (decide (0≤J8 x l 0)=o):=by show _=_;rw[Cj,ho]
 have C:=Fi a n c l x p w hn h h1 h2
 obtain⟨z,hz⟩:∃ z,J8 x l 0=z:=⟨_,rfl⟩
 rw[hz] at C E
 have CC:=hide C
 clear C hz h ho h1 h2
 cases o with
 | true=>
  have h0:0≤z:=of_decide_eq_true (unhide E)
  go_enter Tryz.func157,Tryz.ntmps157
  go_wp2_with fail
  refine (unhide CC).mono ?_
  rintro e w' ⟨rfl,hb⟩
  have HB:=hide hb
  clear hb
  go_wp2
  go_ret
  exact⟨rfl,unhide HB⟩
 | false=>
  have h2:decide (0≤z)=false:=unhide E
  have h1:z<0:=by have:=of_decide_eq_false h2;omega
  go_enter Tryz.func157,Tryz.ntmps157
  go_wp2_with fail
  refine (unhide CC).mono ?_
  rintro e w' ⟨rfl,hb⟩
  have HB:=hide hb
  clear hb
  go_wp2
  go_ret
  exact⟨rfl,unhide HB⟩
end Go.Proofs.YtepmnpapdknocaaGreatDoor
