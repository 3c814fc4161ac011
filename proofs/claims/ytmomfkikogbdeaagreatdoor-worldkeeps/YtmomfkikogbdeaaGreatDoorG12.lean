import Derived.Test.YtmomfkikogbdeaaGreatDoorH
import Derived.Lib.AppendIntMem
import Derived.Lib.ItoaLen
import Derived.Lib.SmallJoins
import Derived.Lib.AtoiAll
import Derived.Test.YtmomfkikogbdeaaGreatDoorG11
open Go.Proofs.Tryz
open Bool renaming and_eq_true->cB
open Go.Ending renaming returned->cS
open Go.IntKind renaming i64->J
open Go.Obj renaming cells->cR
open Go.Value renaming int->E,slice->F,tuple->cT
open Go.World renaming block_lt_of_cell?->aD
open List renaming getElem_mem->aX,take_succ_eq_append_getElem->aV,length_take->bJ,take_of_length_le->aN
open Nat renaming le_refl->aF,zero_le->aM
set_option maxHeartbeats 6400000
set_option maxRecDepth 10000
namespace Go.Proofs.YtmomfkikogbdeaaGreatDoor
open Go.RowKit
def namesL:List ByteArray:=[⟨#[]⟩,⟨#[]⟩,⟨#[100,117,112]⟩,⟨#[115,119,97,112]⟩,⟨#[100,114,111,112]⟩,⟨#[97,100,100]⟩,⟨#[115,117,98]⟩,⟨#[115,97,109,101]⟩,⟨#[108,101,115,115]⟩,⟨#[110,111,116]⟩,⟨#[97,110,100]⟩,⟨#[118,101,114,105,102,121]⟩,⟨#[104,101,105,103,104,116]⟩,⟨#[109,105,120]⟩]
def Hr(k:Nat):ByteArray:=namesL.getD k ⟨#[]⟩
def Cu:Array Value:=(namesL.map Value.string).toArray
def Wf(o:Int×Int):ByteArray:=if o.1=1 then ⟨(Lib.itoa o.2).toArray⟩ else Hr o.1.toNat
def Vw(l:List (Int×Int)):ByteArray:=⟨(Lib.join ((l.map Wf).map (·.data.toList)) [32]).toArray⟩
structure Env(w:World):Prop where
 tab:Lib.TabIs Tryz.prog w "internal/strconv.uint64pow10" .u64 Lib.pow10Tab
 nam:w.var? Tryz.prog "cairn/lock.names" = some Cu
theorem Tryz.gTab:Tryz.prog.globalNamed "internal/strconv.uint64pow10" = some 2:=by kernel_rfl
theorem Tryz.gNam:Tryz.prog.globalNamed "cairn/lock.names" = some 1:=by kernel_rfl
theorem Env.later{w w':World}(h:Env w)(z:ZD w w'):Env w':=
 ⟨Joins.var_stays Tryz.gTab h.tab z (aF _),Joins.var_stays Tryz.gNam h.nam z (aF _)⟩
theorem Env.name{w:World}(h:Env w)(k:Nat)(z:k<14):w.cell? ⟨1,k,none⟩=some (.string (Hr k)):=by
 have:=World.var?_cell Tryz.gNam h.nam k;rw[this];have Q:k<namesL.length:=z;simp[Cu,Hr,Q]
theorem Env.lt{w:World}(h:Env w):1<w.heap.size:=aD _ _ (h.name 0 (by decide))
theorem Zal{a b:ByteArray}(h:a=b):Ending.returned (.string a) = cS (.string b):=by rw[h]
theorem Hf(k n:Int)(w:World)(hE:Env w)(z:Ww (k,n)=0) :
  ZH 286 #[.agg #[E J k,E J n]] w (.string (Wf (k,n))):=by
 have Q:ZD w (w.alloc (cR #[E J k,E J n] 164)):=(Below.refl _ _).alloc (aF _) _;have HB:=Zd Q;have HE:=Zd hE;by_cases h1:k=1
 ·subst h1
  have hn : -1000000<=n/\n<=1000000:=by
   have:fit n=true:=by
    simp only[Ww] at z;cases h:fit n with
    | true=>rfl
    | false=>simp[h] at z
   exact (Ut n).1 this
  have g0 : -9223372036854775808<=n:=by omega
  have g1:n<=9223372036854775807:=by omega
  have e:Wf (1,n)=⟨(Lib.itoa n).toArray⟩:=by simp[Wf]
  rw[e];have HT:=Zd (hE.later Q).tab;clear hE z Q e hn;go_enter func286,ntmps286;go_wp2_with fail;refine (Tryz.strconv_Itoa n g0 g1 _ HT).mono ?_;rintro e w1 ⟨rfl,k,os,rfl⟩;have ab:=Zd (HB.trans ((Lib.below_grow _ _ (aF _) k os).mono HB.size));go_wp2;go_ret;exact⟨rfl,Za ab⟩
 ·have hk:1<=k/\k<=13:=by
   simp only[Ww] at z;split at z
   ·cases z
   ·omega
  obtain⟨m,rfl⟩:=Int.eq_ofNat_of_zero_le (show 0<=k by omega);have e:Wf ((m:Int),n)=Hr m:=by simp[Wf];intro h;omega
  have c1:=hE.name m (by omega);have hl:=hE.lt;have g1:((m:Int) == 1)=false:=by simp;omega
  have g2:(m:Int)<14:=by omega
  rw[e];obtain⟨x,hx⟩:=ZG (Hr m);rw[<-hx] at c1 ⊢;clear hE z Q e h1 hk hx;go_enter func286,ntmps286;go_wp2;go_ret;exact⟨rfl,Za HB⟩
theorem Fb{a b:ByteArray}{v}(h:a=b):Ending.returned (cT #[.string a,v]) = cS (cT #[.string b,v]):=by rw[h]
theorem Tryz.info9:(Tryz.prog.info? 9).map (λi=>(i.zero,i.size,i.bytes))=some (some (.string ⟨#[]⟩),1,16):=by kernel_rfl
theorem Cj(o:Int×Int)(h:Ww o=0):(Wf o).data.toList.length<=21:=by
 obtain⟨k,n⟩:=o;unfold Wf;split
 ·rename_i h1;have h1:k=1:=h1;subst h1
  have hn : -1000000<=n/\n<=1000000:=by
   have:fit n=true:=by
    simp only[Ww] at h;cases hf:fit n with
    | true=>rfl
    | false=>simp[hf] at h
   exact (Ut n).1 this
  simpa using Lib.itoa_length_le n (by omega) (by omega)
 ·have Q:1<=k/\k<=13:=by
   simp only[Ww] at h;split at h
   ·cases h
   ·omega
  show (Hr k.toNat).data.toList.length<=21;have z:k.toNat<14:=by omega
  have all:∀ j:Fin 14,(Hr j.val).data.toList.length<=21:=by decide
  exact all ⟨k.toNat,z⟩
theorem Zat:∀ (xs:List (List UInt8)),(∀ x∈xs,x.length<=21)->Lib.lens xs<=21*xs.length
 | [],_=>by simp[Lib.lens]
 | x :: r,h=>by
  have h1:=h x (by simp);have h2:=Zat r (λy z=>h y (by simp[z]));simp only[Lib.lens,List.length_cons] at h2 ⊢;simp at h2 ⊢;omega
theorem Pe(l:List (Int×Int))(h16:l.length<=16)(h:Qh l=0):(Lib.join ((l.map Wf).map (·.data.toList)) [32]).length<=400:=by
 cases l with
 | nil=>simp[Lib.join_nil]
 | cons o r=>
  rw[List.map_cons,List.map_cons,Lib.join_length]
  have z:=Zat (((o :: r).map Wf).map (·.data.toList)) (λx hx=>by
   simp only[List.map_map,List.mem_map,Function.comp] at hx;obtain⟨q,hq,rfl⟩:=hx;obtain⟨i,hi,rfl⟩:=List.getElem_of_mem hq;exact Cj _ (Kw h i hi))
  simp only[List.map_cons,List.length_cons,List.length_map,List.length_nil] at z h16 ⊢;omega
theorem Zcb(a len cap l)(w:World)(hO:OpsAt w a len l)(z:chk l≠0) :
  ZH 257 #[F a len cap] w (cT #[.string ⟨#[]⟩,E J (chk l)]):=by
 have Q:=Zd (V7 a len cap l w hO);obtain⟨x,hx⟩:=ZG (chk l);rw[<-hx] at z Q ⊢;have ad:(x != 0)=true:=by simp[z]
 clear hO z hx;go_enter func257,ntmps257;go_wp2_with fail;refine Q.mono ?_;rintro e w1 ⟨rfl,ab⟩;have ac:=Zd ab;clear ab;go_wp2;go_ret2;exact⟨rfl,Za ac⟩
def Zae(l:List (Int×Int))(j:Nat):Value:=.string (Wf (l.getD j (0,0)))
theorem Ce(b off len cap:Nat)(l:List (Int×Int))(w:World)(hE:Env w)(hz:l.length=len)(cn:0<len)(z:chk l=0)(be:b<w.heap.size)
  (hc:∀ i,i<len->w.cell? ⟨b,off+i*2,none⟩=some (E J (l.getD i (0,0)).1)/\w.cell? ⟨b,off+i*2+1,none⟩=some (E J (l.getD i (0,0)).2)) :
  ZH 257 #[F (some ⟨b,off,none⟩) len cap] w (cT #[.string (Vw l),E J 0]):=by
 obtain⟨i0,hi,ce,cf,cg⟩:=info_parts Tryz.info9
 have h16:len<=16:=by
  unfold chk at z;split at z
  ·cases z
  ·omega
 have am:Qh l=0:=by
  unfold chk at z;split at z
  ·cases z
  ·exact z
 have HK:=Zd (Kw am);have cb:=Zd (Pe l (by omega) am);have CK:=Zd (V7 (some ⟨b,off,none⟩) len cap l w ⟨hz,λ_=>⟨b,off,rfl,hc⟩⟩);rw[z] at CK;have HE:=Zd hE;have HC:=Zd hc;have HZ:=Zd hz;clear hE hc hz z am;go_enter func257,ntmps257;go_wp2_with fail;refine CK.mono ?_;rintro e Q ⟨rfl,az⟩;have aw:=Zd az;clear az
 go_wp2_with (at_make;refine wpList_make_full _ rfl _ _ 22 rfl Q.heap.size 9 i0 (.string ⟨#[]⟩) 1 underlying22 hi ce cf .i64 .i64 _ _ len rfl rfl rfl rfl (by rw[cg];omega) (by unfold maxLen;omega) (aF _) ?_;intro w2 bh bf)
 have bj:FillV Q.heap.size 9 len (Zae l) Q w2 0:=⟨⟨_,bh,λj hj=>absurd hj (by omega)⟩,(Below.refl _ _).grown bf (aF _) (λk h=>by cases h)⟩;have bz:=Zd bj;clear bj bh bf
 go_loopw [18] (λi wr=>∃ k:Nat,k<=len/\i = E J k/\FillV Q.heap.size 9 len (Zae l) Q wr k) (λi _=>len - (intOf i).toNat)
 case atStart=>exact⟨0,aM _,rfl,Za bz⟩
 case round=>
  obtain⟨k,hk,rfl,af⟩:=hrel;have HF:=Zd af;have aa:ZD w wr:=aw.trans (af.bel.mono aw.size);have bq:=Zd aa;by_cases ac:k<len
  ·have bg:k<l.length:=(by rw[Za HZ];exact ac);obtain⟨c1,c2⟩:=HC k ac;rw[<-aa.cell (p:=⟨b,off+k*2,none⟩) be] at c1;rw[<-aa.cell (p:=⟨b,off+k*2+1,none⟩) be] at c2;obtain⟨q,hq⟩:=ZG (l.getD k (0,0));rw[<-hq] at c1 c2;have bi:q=l[k]:=(by rw[hq];simp[bg]);have ap:=HK k bg;rw[<-bi] at ap;have HQ:=Zd hq;obtain⟨kd,n⟩:=q;have ak:ZD wr (wr.alloc (cR #[E J kd,E J n] 164)):=(Below.refl _ _).alloc (aF _) _;have PO:=Zd (Hf kd n _ ((HE.later aa).later ak) ap);obtain⟨x,hx⟩:=ZG (Wf (kd,n));rw[<-hx] at PO;have HX:=Zd hx;have bo:=Zd ak;clear af aa hq bi ap hx ak;go_wp2_with fail;refine PO.mono ?_;rintro e w3 ⟨rfl,bb⟩;have ae:=(HF.keep bo).keep bb;obtain⟨v,cm⟩:=ae.old ac;have cl:=ae.free k;have bt:=Zd ae;clear bb ae;go_wp2;go_roundw
   case rel=>
    refine⟨k+1,by omega,by go_num,bt.step ac ?_⟩;show Value.string x=Zae l k;rw[Za HX,Za HQ];rfl
   case measure=>simp[intOf];omega
  ·clear af aa;have e:k=len:=(by omega);subst e;clear hk ac
   have HJ:Hid (∀ (j:Nat) x,(l.map Wf)[j]? = some x->wr.cell? ⟨Q.heap.size,0+j,none⟩=some (.string x)):=λj x hj=>by
    have an:j<l.length:=by
     rcases Nat.lt_or_ge j l.length with h|h
     ·exact h
     ·rw[List.getElem?_eq_none (by simpa using h)] at hj;cases hj
    rw[Nat.zero_add,(Za HF).cells (aF _) j (by rw[<-Za HZ];exact an)];simp[an] at hj;simp[Zae,an,hj]
   have HL:Hid ((l.map Wf).length=k):=(by rw[List.length_map];exact Za HZ);have JN:=Zd (Tryz.strings_Join Q.heap.size 0 k (l.map Wf) ⟨#[32]⟩ wr HJ HF.lt (by rw[Za HL];omega) (by rw[Za HL];exact aF _) (Nat.le_trans cb (by decide)));rw[Za HL] at JN
   change Hid (Calls _ _ _ _ λe w'=>e = cS (.string (Vw l))/\_) at JN
   obtain⟨t,ht⟩:=ZG (Vw l);rw[<-ht] at JN;have HT:=Zd ht;clear ht;go_wp2_with fail;refine JN.mono ?_;rintro e w4 ⟨rfl,bd⟩;have bk:=Zd (Znk bq bd);clear bd;go_wp2;go_ret2;exact⟨Fb HT,Za bk⟩
theorem Cf(a cap)(w:World) :
  ZH 257 #[F a 0 cap] w (cT #[.string ⟨#[]⟩,E J 0]):=by
 obtain⟨i0,hi,ab,ac,ad⟩:=info_parts Tryz.info9;go_enter func257,ntmps257;go_wp2_with fail;refine (K7 a cap w).mono ?_;rintro e w1 ⟨rfl,rfl⟩
 go_wp2_with (at_make;refine wpList_make_full _ rfl _ _ 22 rfl w.heap.size 9 i0 (.string ⟨#[]⟩) 1 underlying22 hi ab ac .i64 .i64 _ _ 0 rfl rfl rfl rfl (by rw[ad];omega) (by unfold maxLen;omega) (aF _) ?_;intro w2 aa z)
 have Q:Hid (ZD w w2):=(Below.refl _ _).grown z (aF _) (λk h=>by cases h);clear aa z;refine wp_loop_rounds 1 ?_;rw[rounds_succ];go_wp2_with fail;refine (Tryz.strings_Join_none _ _ _ _).mono ?_;rintro e w3 ⟨rfl,rfl⟩;go_wp2;go_ret2;exact⟨rfl,Za Q⟩
def prT(l:List (Int×Int)):ByteArray:=if chk l=0 then Vw l else ⟨#[]⟩
theorem Zcc(a len cap l)(w:World)(hE:Env w)(Q:OpsAt w a len l) :
  ZH 257 #[F a len cap] w (cT #[.string (prT l),E J (chk l)]):=by
 unfold prT;by_cases z:chk l=0
 ·rw[if_pos z,z];obtain⟨hz,hc⟩:=Q;by_cases h:len=0
  ·subst h;have e:l=[]:=List.length_eq_zero_iff.1 hz;subst e;exact Cf a cap w
  ·obtain⟨b,off,rfl,aa⟩:=hc (by omega);exact Ce b off len cap l w hE hz (by omega) z (aD _ _ (aa 0 (by omega)).1) aa
 ·rw[if_neg z];exact Zcb a len cap l w Q z
def Gv(v:Int):ByteArray:=⟨(Lib.itoa v).toArray⟩
theorem Znl{a b:ByteArray}(h:a.data.toList=b.data.toList):a=b:=by
 cases a with|mk d=>cases b with|mk e=>cases d;cases e;simp at h;rw[h]
def Uw(z:ByteArray)(Z:List Int):ByteArray:=Z.foldl (λt aa=>t++(⟨#[32]⟩++Gv aa)) z
theorem Zby(z:ByteArray)(Z)(aa:Int):Uw z (Z++[aa])=Uw z Z++(⟨#[32]⟩++Gv aa):=by unfold Uw;rw[List.foldl_append];rfl
theorem Gu(n:Int)(h : -10000000000<=n/\n<=10000000000):(Gv n).size<=21:=by
 have:=Lib.itoa_length_le n (by omega) (by omega);simpa[Gv,ByteArray.size] using this
theorem Fs(x:ByteArray)(c:UInt8):((⟨#[c]⟩:ByteArray)++x).size=x.size+1:=by rw[ByteArray.size_append];show 1+x.size=_;omega
theorem U6(x:ByteArray)(c:UInt8):(x++(⟨#[c]⟩:ByteArray)).size=x.size+1:=by rw[ByteArray.size_append];rfl
theorem Qs{α : Type}(f : α->ByteArray)(m:Nat):∀ (Z:List α) (t:ByteArray),(∀ z∈Z,(f z).size<=m)->(Z.foldl (λt z=>t++f z) t).size<=t.size+m*Z.length
 | [],t,_=>by simp
 | z :: r,t,h=>by
  have h1:=Qs f m r (t++f z) (λy Q=>h y (by simp[Q]));have h2:=h z (by simp);rw[ByteArray.size_append] at h1;simp only[List.foldl_cons,List.length_cons,Nat.mul_add,Nat.mul_one];omega
theorem U8(Q:ByteArray)(Z:List Int)(h:∀ z∈Z,-10000000000<=z/\z<=10000000000):(Uw Q Z).size<=Q.size+22*Z.length:=
 Qs (λz=>(⟨#[32]⟩:ByteArray)++Gv z) 22 Z Q (λz hz=>by rw[Fs];have:=Gu z (h z hz);omega)
theorem Ux(z:ByteArray)(b off n c:Nat)(Z:List Int)(w:World)(hE:Env w)(hw:z.size<=10)(hn:n<=6)(hz:Z.length=n)(hl:b<w.heap.size)
  (hc:∀ i,i<n->w.cell? ⟨b,off+i,none⟩=some (E J (Z.getD i 0))) (hr:∀ bh∈Z,-10000000000<=bh/\bh<=10000000000) :
  ZH 105 #[.string z,F (some ⟨b,off,none⟩) n c] w (.string (Uw z Z)):=by
 have HE:=Zd hE;have HC:=Zd hc;have HZ:=Zd hz;have HR:=Zd hr;clear hE hc hz hr;go_enter func105,ntmps105;go_wp2
 go_loopw [5,11] (λs i wr=>∃ k:Nat,k<=n/\i = E J k/\s = .string (Uw z (Z.take k))/\ZD w wr) (λ_ i _=>n - (intOf i).toNat)
 case atStart=>exact⟨0,aM _,rfl,rfl,Below.refl _ _⟩
 case round=>
  obtain⟨k,hk,rfl,rfl,hb⟩:=hrel;have HB:=Zd hb;by_cases am:k<n
  ·have ad:k<Z.length:=(by rw[Za HZ];exact am);have c1:=HC k am;rw[<-hb.cell (p:=⟨b,off+k,none⟩) hl] at c1;have e1:Z.getD k 0=Z[k]:=(by simp[ad]);rw[e1] at c1;have ae:=HR Z[k] (aX ad);have hS:=Zby z (Z.take k) Z[k];rw[<-aV ad] at hS
   have az:(Uw z (Z.take k)).size<=200:=by
    have:=U8 z (Z.take k) (λbh hz=>HR bh (List.mem_of_mem_take hz));rw[bJ] at this;omega
   obtain⟨bh,hz⟩:=ZF (Z[k]);rw[hz] at c1 ae hS;obtain⟨T,hT⟩:=ZF (Uw z (Z.take k));rw[hT] at hS az ⊢;have HS:=Zd hS;have bd:=Gu bh ae;have be:((⟨#[32]⟩:ByteArray)++Gv bh).size<=22:=by rw[Fs];omega
   have IT:Hid (∀ w,Env w->Calls Tryz.prog 167 #[E J bh] w λe w'=>e = cS (.string (Gv bh))/\ZD w w'):=λw hw=>
    (Tryz.strconv_Itoa bh (by omega) (by omega) w hw.tab).mono λe w' ⟨h1,k,os,h2⟩=>⟨h1,by rw[h2];exact Lib.below_grow _ _ (aF _) k os⟩
   have EE:=Zd (HE.later hb);clear hb hz hT hS e1 ae;go_wp2_with fail;refine (IT _ EE).mono ?_;rintro e w3 ⟨rfl,ak⟩;have ar:=Zd (Zf HB ak);clear ak;go_wp2;go_roundw
   case rel=>exact⟨k+1,by omega,by go_num,by rw[Za HS],Za ar⟩
   case measure=>simp[intOf];omega
  ·have e:k=n:=(by omega);subst e;have HT:Hid (Uw z (Z.take k)=Uw z Z):=(by show _=_;rw[aN (by rw[Za HZ];exact aF _)]);clear hb;go_wp2;go_ret;exact⟨Zal HT,Za HB⟩
def Mk(z:ByteArray)(Z:List Int)(l:List (Int×Int)):ByteArray:=((Uw z Z++⟨#[58]⟩)++Vw l)++⟨#[10]⟩
theorem Rk(l)(h:chk l=0):(Vw l).size<=400:=by
 unfold chk at h;split at h
 ·cases h
 ·have:=Pe l (by omega) h;simpa[Vw,ByteArray.size] using this
theorem Hv(z:ByteArray)(Z:List Int)(l)(hw:z.size<=10)(hz:Z.length<=2)(hr:∀ ae∈Z,-10000000000<=ae/\ae<=10000000000)(hl:chk l=0):(Mk z Z l).size<=460:=by
 unfold Mk;have h1:=U8 z Z hr;have h2:=Rk l hl;rw[U6,ByteArray.size_append,U6];have h3:22*Z.length<=44:=by omega
 omega
theorem Tl(a len cap l)(z:ByteArray)(b off n c:Nat)(Z:List Int)(t:ByteArray)(w:World)(hE:Env w)(hO:OpsAt w a len l)(aa:chk l=0)(hw:z.size<=10)(hn:n<=2)(hz:Z.length=n)(hl:b<w.heap.size)
  (hc:∀ i,i<n->w.cell? ⟨b,off+i,none⟩=some (E J (Z.getD i 0))) (hr:∀ bb∈Z,-10000000000<=bb/\bb<=10000000000) (Q:Mk z Z l=t) :
  ZH 211 #[F a len cap,.string z,F (some ⟨b,off,none⟩) n c] w (.string t):=by
 have PR:=Zd (Zcc a len cap l w hE hO);have e:prT l=Vw l:=by unfold prT;rw[if_pos aa]
 rw[e,aa] at PR
 have R:Hid (∀ w',ZD w w'->Calls Tryz.prog 105 #[.string z,F (some ⟨b,off,none⟩) n c] w' λe w2=>e = cS (.string (Uw z Z))/\ZD w' w2):=λw' hb=>
  Ux z b off n c Z w' (hE.later hb) hw (by omega) hz (Nat.lt_of_lt_of_le hl hb.size) (λi hi=>by rw[hb.cell (p:=⟨b,off+i,none⟩) hl];exact hc i hi) hr
 have s1:(Uw z Z).size<=54:=by have:=U8 z Z hr;omega
 have s2:=Rk l aa;unfold Mk at Q;obtain⟨A,hA⟩:=ZF (Uw z Z);obtain⟨B,hB⟩:=ZF (Vw l);rw[hA] at R s1 Q;rw[hB] at PR s2 Q;have s3:(A++(⟨#[58]⟩:ByteArray)).size<=55:=by rw[U6];omega
 have s4:((A++(⟨#[58]⟩:ByteArray))++B).size<=455:=by rw[ByteArray.size_append];omega
 have HT:=Zd Q;clear hE hO aa hz hc hr e hA hB Q;go_enter func211,ntmps211;go_wp2_with fail;refine PR.mono ?_;rintro e w1 ⟨rfl,ah⟩;have ae:=Zd ah;clear ah;go_wp2_with fail;refine (R w1 ae).mono ?_;rintro e w2 ⟨rfl,aj⟩;have ap:=Zd (Zf ae aj);clear aj;go_wp2;go_ret;exact⟨Zal HT,Za ap⟩
def txB:ByteArray:=⟨#[116,120]⟩
def inB:ByteArray:=⟨#[105,110]⟩
def Zmi:ByteArray:=⟨#[111,117,116]⟩
def Uf(h:Int):ByteArray:=Uw txB [h]++⟨#[10]⟩
def Kb(x:InD):ByteArray:=Mk inB [x.1,x.2.1] x.2.2
def To(x:Zz):ByteArray:=Mk Zmi [x.1] x.2
def Xq(h:Int)(I:List InD):ByteArray:=I.foldl (λt x=>t++Kb x) (Uf h)
def Wn(t:ByteArray)(O:List Zz):ByteArray:=O.foldl (λt x=>t++To x) t
def Z7(t:TxD):ByteArray:=Wn (Xq t.1 t.2.1) t.2.2
theorem Nl(h:Int)(I x):Xq h (I++[x])=Xq h I++Kb x:=by unfold Xq;rw[List.foldl_append];rfl
theorem Lm(t:ByteArray)(O)(x:Zz):Wn t (O++[x])=Wn t O++To x:=by unfold Wn;rw[List.foldl_append];rfl
theorem Rm(h:Int)(Q:0<=h/\h<=1000):(Uf h).size<=30:=by
 unfold Uf;have:=U8 txB [h] (λab z=>by simp at z;omega);rw[U6];have e:txB.size=2:=rfl;simp only[List.length_cons,List.length_nil] at this;omega
theorem Ph(x:InD)(h:Ga x=true/\chk x.2.2=0):(Kb x).size<=460:=by
 have hp:=(Fl x).1 h.1;exact Hv inB [x.1,x.2.1] x.2.2 (by decide) (by simp) (λaa z=>by simp at z;omega) h.2
theorem Tn(x:Zz)(h:(1<=x.1/\x.1<=1000000000)/\chk x.2=0):(To x).size<=460:=
 Hv Zmi [x.1] x.2 (by decide) (by simp) (λaa z=>by simp at z;omega) h.2
theorem Qp(h:Int)(I:List InD)(Q:0<=h/\h<=1000)(z:∀ x∈I,Ga x=true/\chk x.2.2=0):(Xq h I).size<=30+460*I.length:=by
 have h1:=Qs Kb 460 I (Uf h) (λx hx=>Ph x (z x hx));have h2:=Rm h Q;have h3:(Xq h I).size<=(Uf h).size+460*I.length:=h1;omega
theorem Rj(t:ByteArray)(O:List Zz)(z:∀ x∈O,(1<=x.1/\x.1<=1000000000)/\chk x.2=0):(Wn t O).size<=t.size+460*O.length:=
 Qs To 460 O t (λx hx=>Tn x (z x hx))
theorem J7(w:World)(x)(t:TypeId):(w.alloc (cR #[x] t)).cell? ⟨w.heap.size,0,none⟩=some x:=by rw[World.cell?_alloc_at _ _ _ _ rfl];rfl
def txT(t:TxD):ByteArray:=if Zw t=0 then Z7 t else ⟨#[]⟩
theorem Dq(h:Int)(ai ao ni ci no co I O)(x:Int)(w:World)(Q:InsAt w ai ni I)(hO:OutsAt w ao no O)(sI:SlOk ai ni ci)(hx:Zw (h,I,O)=x)(h0:x≠0) :
  ZH 155 #[.agg #[E J h,F ai ni ci,F ao no co]] w (cT #[.string ⟨#[]⟩,E J x]):=by
 have z:=Zh w (cR #[E J h,F ai ni ci,F ao no co] 59);have HB:=Zd z;have C:=Zd (Vd h ai ao ni ci no co I O _ (Q.later z) (hO.later z) sI);rw[hx] at C;have g:(x != 0)=true:=by simp[h0]
 clear z Q hO sI hx h0;go_enter func155,ntmps155;go_wp2_with fail;refine C.mono ?_;rintro e w2 ⟨rfl,ab⟩;have ae:=Zd (Zf HB ab);clear ab;go_wp2;go_ret2;exact⟨rfl,Za ae⟩
theorem Te(h:Int)(ai ao ni ci no co I O)(w:World)(hE:Env w)(hI:InsAt w ai ni I)(hO:OutsAt w ao no O)(sI:SlOk ai ni ci)(hx:Zw (h,I,O)=0) :
  ZH 155 #[.agg #[E J h,F ai ni ci,F ao no co]] w (cT #[.string (Z7 (h,I,O)),E J 0]):=by
 have ok:=TxOk.of hx;have hb:=Zh w (cR #[E J h,F ai ni ci,F ao no co] 59);obtain⟨n0,n1,n2⟩:=U4 w (E J h) (F ai ni ci) (F ao no co) 59;have HB:=Zd hb;have C:=Zd (Vd h ai ao ni ci no co I O _ (hI.later hb) (hO.later hb) sI);rw[hx] at C;have N0:=Zd n0;have N1:=Zd n1;have N2:=Zd n2;have dg:ni<=6:=by have:=ok.ins6;have:=hI.1;simp only at *;omega
 have dn:no<=6:=by have:=ok.outs6;have:=hO.1;simp only at *;omega
 have dp:0<no:=by have:=ok.some;have:=hO.1;simp only at *;omega
 have HI:=Zd hI;have HO:=Zd hO;have HE:=Zd hE;have HG:=Zd ok.hgt;have bk:=Zd ok.ins;have ca:=Zd ok.outs;clear hb hI hO sI hx n0 n1 n2 hE ok;go_enter func155,ntmps155;go_wp2_with fail;refine C.mono ?_;rintro e w2 ⟨rfl,aj⟩;have m0:=Ze aj N0;have M1:=Zd (Ze aj N1);have M2:=Zd (Ze aj N2);have s2:w.heap.size<w2.heap.size:=aD _ _ m0;have bv:=Zf HB aj;have ba:=Zh w2 (cR #[E J h] 3)
 have R:=Zd (Ux txB w2.heap.size 0 1 1 [h] (w2.alloc (cR #[E J h] 3)) (HE.later (Zf bv ba)) (by decide) (by decide) rfl (by simp) (λi hi=>by
  have e:i=0:=by omega
  subst e;exact J7 w2 (E J h) 3) (λdt hz=>by have:=Za HG;simp at hz;omega))
 have cl:=Zd ba;have dk:=Zd aj;have cp:=Zd bv;have hs:=Rm h HG
 have di:(Uw txB [h]).size<=29:=by
  have e:Uf h=Uw txB [h]++⟨#[10]⟩:=rfl;rw[e,U6] at hs;omega
 obtain⟨T0,bs⟩:=ZF (Uw txB [h]);have cu:Hid (T0++⟨#[10]⟩=Uf h):=by show _=_;rw[<-bs];rfl
 rw[bs] at R di;clear aj bv ba hs bs;go_wp2_with fail;refine R.mono ?_;rintro e w3 ⟨rfl,cc⟩;have bd:=Zf cl cc;have m1:=Ze bd M1;have cz:=Zd (Ze bd M2);have s3:w.heap.size<w3.heap.size:=aD _ _ m1;have cq:=Zd (Zf cp bd);clear cc bd;go_wp2
 go_loopw [5,23] (λs i wr=>∃ k:Nat,k<=ni/\i = E J k/\s = .string (Xq h (I.take k))/\ZD w3 wr) (λ_ i _=>ni - (intOf i).toNat)
 case atStart=>exact⟨0,aM _,rfl,by rw[Za cu];rfl,Below.refl _ _⟩
 case round=>
  obtain⟨k,hk,rfl,rfl,aq⟩:=hrel;have bx:=Zd aq;have be:=Zf cq aq;have cn:=Zd be;by_cases bg:k<ni
  ·have ag:k<I.length:=(by rw[(Za HI).1];exact bg);obtain⟨b,off,rfl,df,au⟩:=(HI.later be).2 (by omega);obtain⟨g1,g2,ka,kn,kc,g3,g4,_⟩:=au k ag;have aa:=bk I[k] (aX ag);have Q:=Nl h (I.take k) I[k];rw[<-aV ag] at Q
   have bu:(Xq h (I.take k)).size<=3000:=by
    have:=Qp h (I.take k) HG (λx hx=>bk x (List.mem_of_mem_take hx));rw[bJ] at this;omega
   have an:=Ph I[k] aa;obtain⟨x,hx⟩:=ZF (I[k]);rw[hx] at g1 g2 g4 aa Q an;obtain⟨z,x2,aw⟩:=x;simp only at g1 g2 g3 g4;have hp:=(Fl _).1 aa.1;simp only at hp;obtain⟨T,hT⟩:=ZF (Xq h (I.take k));obtain⟨X,hX⟩:=ZF (Kb (z,x2,aw));rw[hT,hX] at Q;rw[hT] at bu ⊢;rw[hX] at an;have HS:=Zd Q;have b1:=Zh wr (cR #[E J z,E J x2,F ka kn kc] 119);have b2:=Zh (wr.alloc (cR #[E J z,E J x2,F ka kn kc] 119)) (cR #[E J z,E J x2] 3);have ac:=Zf b1 b2;have t2:=L6 (wr.alloc (cR #[E J z,E J x2,F ka kn kc] 119)) (E J z) (E J x2) 3;have al:(wr.alloc (cR #[E J z,E J x2,F ka kn kc] 119)).heap.size=wr.heap.size+1:=(by simp);rw[al] at t2
   have PL:=Zd (Tl ka kn kc aw inB (wr.heap.size+1) 0 2 2 [z,x2] X ((wr.alloc (cR #[E J z,E J x2,F ka kn kc] 119)).alloc (cR #[E J z,E J x2] 3)) ((HE.later be).later ac) (g4.later ac) aa.2 (by decide) (by decide) rfl (by simp) (λi hi=>by
    have e:i=0\/i=1:=by omega
    rcases e with rfl|rfl
    ·exact t2.1
    ·exact t2.2) (λdt hz=>by simp at hz;omega) hX)
   have bh:=Zd ac;clear aq be au g4 aa hx hT hX Q b1 b2 ac t2 al hp;go_wp2_with fail;refine PL.mono ?_;rintro e w4 ⟨rfl,ap⟩;have bi:=Zd (bx.trans ((Zf bh ap).mono bx.size));clear ap;go_wp2;go_roundw
   case rel=>exact⟨k+1,by omega,by go_num,by rw[Za HS],Za bi⟩
   case measure=>simp[intOf];omega
  ·have e:k=ni:=(by omega);subst e;have HT:Hid (Xq h (I.take k)=Xq h I):=(by show _=_;rw[aN (by rw[(Za HI).1];exact aF _)]);have bu:=Qp h I HG bk;have dl:I.length<=6:=(by rw[(Za HI).1];exact dg);obtain⟨T1,bt⟩:=ZF (Xq h I);rw[bt] at HT bu;have cw:=Zd bt;have m2:=Ze aq cz;have s4:w.heap.size<wr.heap.size:=aD _ _ m2;rw[Za HT];clear aq bt hk bg;go_wp2
   go_loopw [5,43] (λs i wz=>∃ j:Nat,j<=no/\i = E J j/\s = .string (Wn T1 (O.take j))/\ZD wr wz) (λ_ i _=>no - (intOf i).toNat)
   case atStart=>exact⟨0,aM _,rfl,rfl,Below.refl _ _⟩
   case round=>
    obtain⟨j,hj,rfl,rfl,bf⟩:=hrel;have bz:=Zd bf;have ar:=Zf cn bf;have cm:=Zd ar;by_cases bg:j<no
    ·have ag:j<O.length:=(by rw[(Za HO).1];exact bg);obtain⟨b,off,rfl,df,au⟩:=(HO.later ar).2 (by omega);obtain⟨g1,ka,kn,kc,g3,g4,_⟩:=au j ag;have aa:=ca O[j] (aX ag);have Q:=Lm T1 (O.take j) O[j];rw[<-aV ag] at Q
     have de:(Wn T1 (O.take j)).size<=6000:=by
      have:=Rj T1 (O.take j) (λx hx=>ca x (List.mem_of_mem_take hx));rw[bJ] at this;omega
     have an:=Tn O[j] aa;obtain⟨x,hx⟩:=ZF (O[j]);rw[hx] at g1 g4 aa Q an;obtain⟨z,aw⟩:=x;simp only at g1 g3 g4;have hp:=aa.1;simp only at hp;obtain⟨T,hT⟩:=ZF (Wn T1 (O.take j));obtain⟨X,hX⟩:=ZF (To (z,aw));rw[hT,hX] at Q;rw[hT] at de ⊢;rw[hX] at an;have HS:=Zd Q;have b1:=Zh wr (cR #[E J z,F ka kn kc] 122);have b2:=Zh (wr.alloc (cR #[E J z,F ka kn kc] 122)) (cR #[E J z] 3);have ac:=Zf b1 b2;have t2:=J7 (wr.alloc (cR #[E J z,F ka kn kc] 122)) (E J z) 3;have al:(wr.alloc (cR #[E J z,F ka kn kc] 122)).heap.size=wr.heap.size+1:=(by simp);rw[al] at t2
     have PL:=Zd (Tl ka kn kc aw Zmi (wr.heap.size+1) 0 1 1 [z] X ((wr.alloc (cR #[E J z,F ka kn kc] 122)).alloc (cR #[E J z] 3)) ((HE.later ar).later ac) (g4.later ac) aa.2 (by decide) (by decide) rfl (by simp) (λi hi=>by
      have e:i=0:=(by omega);subst e;exact t2) (λdt hz=>by simp at hz;omega) hX)
     have bh:=Zd ac;clear bf ar au g4 aa hx hT hX Q b1 b2 ac t2 al hp;go_wp2_with fail;refine PL.mono ?_;rintro e w4 ⟨rfl,ap⟩;have bi:=Zd (bz.trans ((Zf bh ap).mono bz.size));clear ap;go_wp2;go_roundw
     case rel=>exact⟨j+1,by omega,by go_num,by rw[Za HS],Za bi⟩
     case measure=>simp[intOf];omega
    ·have HF:Hid (Wn T1 (O.take j)=Z7 (h,I,O)):=by
      show _=_;rw[aN (by rw[(Za HO).1];omega),<-Za cw];rfl
     clear bf ar;go_wp2;go_ret2;exact⟨Fb HF,Za cm⟩
theorem Gs(h:Int)(ai ao ni ci no co I O)(t:ByteArray)(x:Int)(w:World)(hE:Env w)(z:InsAt w ai ni I)(Q:OutsAt w ao no O)(sI:SlOk ai ni ci)(hx:Zw (h,I,O)=x)(ht:txT (h,I,O)=t) :
  ZH 155 #[.agg #[E J h,F ai ni ci,F ao no co]] w (cT #[.string t,E J x]):=by
 subst ht;by_cases h0:Zw (h,I,O)=0
 ·rw[h0] at hx;subst hx;unfold txT;rw[if_pos h0];exact Te h ai ao ni ci no co I O w hE z Q sI h0
 ·unfold txT;rw[if_neg h0];exact Dq h ai ao ni ci no co I O x w z Q sI hx (by rw[<-hx];exact h0)
def blockB:ByteArray:=⟨#[98,108,111,99,107]⟩
def Wl:List TxD->ByteArray
 | []=>⟨#[]⟩
 | t :: r=>Z7 t++Wl r
def Ws(b:Zl):ByteArray:=(Uw blockB [b.1,b.2.1,b.2.2.1,b.2.2.2.1]++⟨#[10]⟩)++Wl b.2.2.2.2
def Bf(b:Zl):ByteArray:=if Ym b=0 then Ws b else ⟨#[]⟩
theorem Qg(h:Int):∀ (i:Nat) (T:List TxD),Xx h i T=0->∀ t∈T,Zw t=0
 | _,[],_,t,z=>by cases z
 | i,x :: r,e,t,z=>by
  unfold Xx at e;split at e
  ·rename_i q;exact absurd e q
  ·rename_i q;split at e
   ·cases e
   ·rcases List.mem_cons.1 z with rfl|z
    ·exact Classical.not_not.1 q
    ·exact Qg h (i+1) r e t z
theorem Mq{p h k n:Int}(e:Wp p h k n=true):0<=p/\p<=120/\1<=h/\h<=1000/\1<=k/\k<=1000/\0<=n/\n<=1000000000:=by
 unfold Wp at e;rw[cB,cB,cB,cB,cB,cB,cB] at e;obtain⟨⟨a,b⟩,⟨c,d⟩,⟨e,f⟩,g,h⟩:=e;exact⟨of_decide_eq_true a,of_decide_eq_true b,of_decide_eq_true c,of_decide_eq_true d,of_decide_eq_true e,of_decide_eq_true f,of_decide_eq_true g,of_decide_eq_true h⟩
theorem V6{p h k n:Int}{T:List TxD}(e:Ym (p,h,k,n,T)=0):Wp p h k n=true/\0<T.length/\T.length<=4/\Xx h 0 T=0/\(∀ t∈T,Zw t=0):=by
 unfold Ym at e;simp only at e;split at e
 ·cases e
 rename_i z;split at e
 ·cases e
 rename_i Q;split at e
 ·cases e
 rename_i q3;exact⟨by cases q:Wp p h k n with|true=>rfl|false=>exact absurd q z,by omega,by omega,e,Qg h 0 T e⟩
theorem Qz{α : Type}:∀ (L:List (List α)),([]:List α).intercalate L=L.flatten
 | []=>rfl
 | [x]=>by simp[List.intercalate]
 | x :: y :: r=>by
  have:=Qz (y :: r);simp[List.intercalate] at this ⊢;exact this
theorem Dp(t)(h:Zw t=0):(Z7 t).size<=6000:=by
 have ok:=TxOk.of h;have h1:=Rj (Xq t.1 t.2.1) t.2.2 ok.outs;have h2:=Qp t.1 t.2.1 ok.hgt ok.ins;have h3:=ok.ins6;have h4:=ok.outs6;unfold Z7;omega
theorem Tc:∀ (T:List TxD),(∀ t∈T,Zw t=0)->(Wl T).size<=6000*T.length
 | [],_=>by simp[Wl];rfl
 | t :: r,h=>by
  have h1:=Dp t (h t (List.mem_cons_self ..));have h2:=Tc r (λx hx=>h x (List.mem_cons_of_mem _ hx));rw[Wl,ByteArray.size_append,List.length_cons];omega
theorem Td:∀ (T:List TxD),(Wl T).data.toList=((T.map Z7).map (·.data.toList)).flatten
 | []=>rfl
 | t :: r=>by
  rw[Wl,ByteArray.data_append,Array.toList_append,Td r];rfl
theorem Mn(T:List TxD):(⟨(Lib.join ((T.map Z7).map (·.data.toList)) []).toArray⟩:ByteArray)=Wl T:=by
 refine Znl ?_;rw[Td];show Lib.join _ _=_;unfold Lib.join;exact Qz _
def txV(T:List TxD)(i:Nat):Value:=.string (Z7 (T.getD i (0,[],[])))
theorem Ji(b off m c:Nat)(T:List TxD)(w:World)(hE:Env w)(hz:T.length=m)(hm:m<=4)(ar:∀ t∈T,Zw t=0)(hc:∀ i (h:i<T.length),TxAt w b (off+i*3) T[i]) :
  Calls Tryz.prog 87 #[F (some ⟨b,off,none⟩) m c] w λe w'=>e = cS (F (some ⟨w.heap.size,0,none⟩) m m)/\FillV w.heap.size 9 m (txV T) w w' m:=by
 obtain⟨i0,hi,bs,bt,bu⟩:=info_parts Tryz.info9;have HE:=Zd hE;have HC:=Zd hc;have HZ:=Zd hz;have HK:=Zd ar;clear hE hc hz ar;go_enter func87,ntmps87
 go_wp2_with (at_make;refine wpList_make_full _ rfl _ _ 22 rfl w.heap.size 9 i0 (.string ⟨#[]⟩) 1 underlying22 hi bs bt .i64 .i64 _ _ m rfl rfl rfl rfl (by rw[bu];omega) (by unfold maxLen;omega) (aF _) ?_;intro w2 ax au)
 have ay:FillV w.heap.size 9 m (txV T) w w2 0:=⟨⟨_,ax,λj hj=>absurd hj (by omega)⟩,(Below.refl _ _).grown au (aF _) (λk h=>by cases h)⟩;have bj:=Zd ay;clear ay ax au
 go_loopw [11] (λi wr=>∃ k:Nat,k<=m/\i = E J k/\FillV w.heap.size 9 m (txV T) w wr k) (λi _=>m - (intOf i).toNat)
 case atStart=>exact⟨0,aM _,rfl,Za bj⟩
 case round=>
  obtain⟨k,hk,rfl,ad⟩:=hrel;have HF:=Zd ad;have aa:ZD w wr:=ad.bel;have cc:=Zd aa;by_cases ae:k<m
  ·have aw:k<T.length:=(by rw[Za HZ];exact ae);have av:=TxAt.kept _ _ _ _ _ aa (HC k aw);have hx:=HK T[k] (aX _);have HQ:Hid (T.getD k (0,[],[])=T[k]):=(by show _=_;simp[aw]);obtain⟨t,ht⟩:=ZF (T[k]);rw[ht] at av hx HQ;obtain⟨t1,I,O⟩:=t;obtain⟨g0,⟨ai,ni,ci,g1,hI,sI⟩,ao,no,co,g2,hO,_⟩:=av;simp only at g0 g1 g2 hI hO;obtain⟨Y,hY⟩:=ZG (wr.alloc (cR #[E J t1,F ai ni ci,F ao no co] 59));have Q:ZD wr Y:=(by rw[hY];exact Zh _ _);have z:Y.heap[wr.heap.size]? = some (cR [E J t1,F ai ni ci,F ao no co].toArray 59 (0,0)):=(by rw[hY];exact Zv _ _ _ _ _);have y0:=Zb z 0 _ rfl;have y1:=Zb z 1 _ rfl;have y2:=Zb z 2 _ rfl;have yl:=lt_of_block z;have PO:=Zd (Te t1 ai ao ni ci no co I O Y (HE.later (Zf aa Q)) (hI.later Q) (hO.later Q) sI hx);obtain⟨x,aj⟩:=ZG (Z7 (t1,I,O));rw[<-aj] at PO;have HX:=Zd aj;have be:=Zd Q;clear ad aa ht hx z Q hI hO sI aj;go_wp2_with fail;rw[<-hY];clear hY;go_wp2_with fail;refine PO.mono ?_;rintro e w3 ⟨rfl,ap⟩;have ab:=(HF.keep be).keep ap;obtain⟨v,cg⟩:=ab.old ae;have cd:=ab.free k;have ce:=ab.lt;have bh:=Zd ab;clear ap ab y0 y1 y2 yl g0 g1 g2;go_wp2;go_roundw
   case rel=>
    refine⟨k+1,by omega,by go_num,bh.step ae ?_⟩;show Value.string x=txV T k;unfold txV;rw[Za HX,Za HQ]
   case measure=>simp[intOf];omega
  ·clear ad aa;have e:k=m:=(by omega);subst e;clear hk ae;go_wp2;go_ret;exact⟨rfl,Za HF⟩
