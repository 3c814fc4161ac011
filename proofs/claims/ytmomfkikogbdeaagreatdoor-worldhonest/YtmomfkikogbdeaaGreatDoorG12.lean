import Derived.Test.YtmomfkikogbdeaaGreatDoorH
import Derived.Lib.AppendIntMem
import Derived.Lib.ItoaLen
import Derived.Lib.SmallJoins
import Derived.Lib.AtoiAll
import Derived.Test.YtmomfkikogbdeaaGreatDoorG11
open Go.Proofs.Tryz
open Bool renaming and_eq_true->bY
open Go.Ending renaming returned->dA
open Go.IntKind renaming i64->J
open Go.Obj renaming cells->cZ
open Go.Value renaming int->E,slice->F,tuple->dB
open Go.World renaming block_lt_of_cell?->aE
open List renaming length_cons->cL,map_cons->bO,getElem_mem->aQ,take_succ_eq_append_getElem->aS,length_take->bP,take_of_length_le->aV
open Nat renaming le_refl->aF,zero_le->aL
set_option maxHeartbeats 6400000
set_option maxRecDepth 10000
namespace Go.Proofs.YtmomfkikogbdeaaGreatDoor
open Go.RowKit
def namesL:List ByteArray:=[⟨#[]⟩,⟨#[]⟩,⟨#[100,117,112]⟩,⟨#[115,119,97,112]⟩,⟨#[100,114,111,112]⟩,⟨#[97,100,100]⟩,⟨#[115,117,98]⟩,⟨#[115,97,109,101]⟩,⟨#[108,101,115,115]⟩,⟨#[110,111,116]⟩,⟨#[97,110,100]⟩,⟨#[118,101,114,105,102,121]⟩,⟨#[104,101,105,103,104,116]⟩,⟨#[109,105,120]⟩]
def Vz(k:Nat):ByteArray:=namesL.getD k ⟨#[]⟩
def Zbd:Array Value:=(namesL.map Value.string).toArray
def Yr(o:Int×Int):ByteArray:=if o.1=1 then ⟨(Lib.itoa o.2).toArray⟩ else Vz o.1.toNat
def Z5(l:List (Int×Int)):ByteArray:=⟨(Lib.join ((l.map Yr).map (·.data.toList)) [32]).toArray⟩
structure Env(w:World):Prop where
 tab:Lib.TabIs Tryz.prog w "internal/strconv.uint64pow10" .u64 Lib.pow10Tab
 nam:w.var? Tryz.prog "cairn/lock.names" = some Zbd
theorem Tryz.gTab:Tryz.prog.globalNamed "internal/strconv.uint64pow10" = some 2:=by kernel_rfl
theorem Tryz.gNam:Tryz.prog.globalNamed "cairn/lock.names" = some 1:=by kernel_rfl
theorem Env.later{w w':World}(h:Env w)(z:ZD w w'):Env w':=
 ⟨Joins.var_stays Tryz.gTab h.tab z (aF _),Joins.var_stays Tryz.gNam h.nam z (aF _)⟩
theorem Env.name{w:World}(h:Env w)(k:Nat)(z:k<14):w.cell? ⟨1,k,none⟩=some (.string (Vz k)):=by
 have:=World.var?_cell Tryz.gNam h.nam k;rw[this];have Q:k<namesL.length:=z;simp[Zbd,Vz,Q]
theorem Env.lt{w:World}(h:Env w):1<w.heap.size:=aE _ _ (h.name 0 (by decide))
theorem Zdu{a b:ByteArray}(h:a=b):Ending.returned (.string a) = dA (.string b):=by rw[h]
theorem Kv(k n:Int)(w:World)(hE:Env w)(z:Xy (k,n)=0) :
  ZH 286 #[.agg #[E J k,E J n]] w (.string (Yr (k,n))):=by
 have Q:ZD w (w.alloc (cZ #[E J k,E J n] 164)):=(Below.refl _ _).alloc (aF _) _;obtain⟨HB,HE⟩:=kh2 Q hE;by_cases h1:k=1
 ·subst h1
  have hn : -1000000<=n/\n<=1000000:=by
   have:fit n=true:=by
    simp only[Xy] at z;cases h:fit n with
    | true=>rfl
    | false=>simp[h] at z
   exact (Uk n).1 this
  have g0 : -9223372036854775808<=n:=by omega
  have g1:n<=9223372036854775807:=by omega
  have e:Yr (1,n)=⟨(Lib.itoa n).toArray⟩:=by simp[Yr]
  rw[e];have HT:=Zd (hE.later Q).tab;clear hE z Q e hn;go_enter func286,ntmps286;go_wp2_with fail;refine (Tryz.strconv_Itoa n g0 g1 _ HT).mono ?_;rintro e w1 ⟨rfl,k,os,rfl⟩;have ab:=Zd (HB.trans ((Lib.below_grow _ _ (aF _) k os).mono HB.size));go_wp2;go_ret;exact⟨rfl,Za ab⟩
 ·have hk:1<=k/\k<=13:=by
   simp only[Xy] at z;split at z
   ·cases z
   ·omega
  obtain⟨m,rfl⟩:=Int.eq_ofNat_of_zero_le (show 0<=k by omega);have e:Yr ((m:Int),n)=Vz m:=by simp[Yr];intro h;omega
  have c1:=hE.name m (by omega);have hl:=hE.lt;have g1:((m:Int) == 1)=false:=by simp;omega
  have g2:(m:Int)<14:=by omega
  rw[e];obtain⟨x,hx⟩:=ZG (Vz m);rw[<-hx] at c1 ⊢;clear hE z Q e h1 hk hx;go_enter func286,ntmps286;go_wp2;go_ret;exact⟨rfl,Za HB⟩
theorem A8{a b:ByteArray}{v}(h:a=b):Ending.returned (dB #[.string a,v]) = dA (dB #[.string b,v]):=by rw[h]
theorem Tryz.info9:(Tryz.prog.info? 9).map (λi=>(i.zero,i.size,i.bytes))=some (some (.string ⟨#[]⟩),1,16):=by kernel_rfl
theorem Zat(o:Int×Int)(h:Xy o=0):(Yr o).data.toList.length<=21:=by
 obtain⟨k,n⟩:=o;unfold Yr;split
 ·rename_i h1;have h1:k=1:=h1;subst h1
  have hn : -1000000<=n/\n<=1000000:=by
   have:fit n=true:=by
    simp only[Xy] at h;cases hf:fit n with
    | true=>rfl
    | false=>simp[hf] at h
   exact (Uk n).1 this
  simpa using Lib.itoa_length_le n (by omega) (by omega)
 ·have Q:1<=k/\k<=13:=by
   simp only[Xy] at h;split at h
   ·cases h
   ·omega
  show (Vz k.toNat).data.toList.length<=21;have z:k.toNat<14:=by omega
  have all:∀ j:Fin 14,(Vz j.val).data.toList.length<=21:=by decide
  exact all ⟨k.toNat,z⟩
theorem Zed:∀ (xs:List (List UInt8)),(∀ x∈xs,x.length<=21)->Lib.lens xs<=21*xs.length
 | [],_=>by simp[Lib.lens]
 | x :: r,h=>by
  have h1:=h x (by simp);have h2:=Zed r (λy z=>h y (by simp[z]));simp only[Lib.lens,cL] at h2 ⊢;simp at h2 ⊢;omega
theorem J6(l:List (Int×Int))(h16:l.length<=16)(h:U8 l=0):(Lib.join ((l.map Yr).map (·.data.toList)) [32]).length<=400:=by
 cases l with
 | nil=>simp[Lib.join_nil]
 | cons o r=>
  rw[bO,bO,Lib.join_length]
  have z:=Zed (((o :: r).map Yr).map (·.data.toList)) (λx hx=>by
   simp only[List.map_map,List.mem_map,Function.comp] at hx;obtain⟨q,hq,rfl⟩:=hx;obtain⟨i,hi,rfl⟩:=List.getElem_of_mem hq;exact Zat _ (Qv h i hi))
  simp only[bO,cL,List.length_map,List.length_nil] at z h16 ⊢;omega
theorem Zfv(a len cap l)(w:World)(hO:OpsAt w a len l)(z:chk l≠0) :
  ZH 257 #[F a len cap] w (dB #[.string ⟨#[]⟩,E J (chk l)]):=by
 have Q:=Zd (Uo a len cap l w hO);obtain⟨x,hx⟩:=ZG (chk l);rw[<-hx] at z Q ⊢;have ad:(x != 0)=true:=by simp[z]
 clear hO z hx;go_enter func257,ntmps257;go_wp2_with fail;refine Q.mono ?_;rintro e w1 ⟨rfl,ab⟩;have ac:=Zd ab;clear ab;go_wp2;go_ret2;exact⟨rfl,Za ac⟩
def Zde(l:List (Int×Int))(j:Nat):Value:=.string (Yr (l.getD j (0,0)))
theorem Zao(b off len cap:Nat)(l:List (Int×Int))(w:World)(hE:Env w)(hz:l.length=len)(cn:0<len)(z:chk l=0)(be:b<w.heap.size)
  (hc:∀ i,i<len->w.cell? ⟨b,off+i*2,none⟩=some (E J (l.getD i (0,0)).1)/\w.cell? ⟨b,off+i*2+1,none⟩=some (E J (l.getD i (0,0)).2)) :
  ZH 257 #[F (some ⟨b,off,none⟩) len cap] w (dB #[.string (Z5 l),E J 0]):=by
 obtain⟨i0,hi,ce,cf,cg⟩:=info_parts Tryz.info9
 have h16:len<=16:=by
  unfold chk at z;split at z
  ·cases z
  ·omega
 have am:U8 l=0:=by
  unfold chk at z;split at z
  ·cases z
  ·exact z
 obtain⟨HK,cb,CK⟩:=kh3 (Qv am) (J6 l (by omega) am) (Uo (some ⟨b,off,none⟩) len cap l w ⟨hz,λ_=>⟨b,off,rfl,hc⟩⟩);rw[z] at CK;obtain⟨HE,HC,HZ⟩:=kh3 hE hc hz;clear hE hc hz z am;go_enter func257,ntmps257;go_wp2_with fail;refine CK.mono ?_;rintro e Q ⟨rfl,az⟩;have aw:=Zd az;clear az
 go_wp2_with (at_make;refine wpList_make_full _ rfl _ _ 22 rfl Q.heap.size 9 i0 (.string ⟨#[]⟩) 1 underlying22 hi ce cf .i64 .i64 _ _ len rfl rfl rfl rfl (by rw[cg];omega) (by unfold maxLen;omega) (aF _) ?_;intro w2 bh bf)
 have bj:FillV Q.heap.size 9 len (Zde l) Q w2 0:=⟨⟨_,bh,λj hj=>absurd hj (by omega)⟩,(Below.refl _ _).grown bf (aF _) (λk h=>by cases h)⟩;have bz:=Zd bj;clear bj bh bf
 go_loopw [18] (λi wr=>∃ k:Nat,k<=len/\i = E J k/\FillV Q.heap.size 9 len (Zde l) Q wr k) (λi _=>len - (intOf i).toNat)
 case atStart=>exact⟨0,aL _,rfl,Za bz⟩
 case round=>
  obtain⟨k,hk,rfl,af⟩:=hrel;have HF:=Zd af;have aa:ZD w wr:=aw.trans (af.bel.mono aw.size);have bq:=Zd aa;by_cases ac:k<len
  ·have bg:k<l.length:=(by rw[Za HZ];exact ac);obtain⟨c1,c2⟩:=HC k ac;rw[<-aa.cell (p:=⟨b,off+k*2,none⟩) be] at c1;rw[<-aa.cell (p:=⟨b,off+k*2+1,none⟩) be] at c2;obtain⟨q,hq⟩:=ZG (l.getD k (0,0));rw[<-hq] at c1 c2;have bi:q=l[k]:=(by rw[hq];simp[bg]);have ap:=HK k bg;rw[<-bi] at ap;have HQ:=Zd hq;obtain⟨kd,n⟩:=q;have ak:ZD wr (wr.alloc (cZ #[E J kd,E J n] 164)):=(Below.refl _ _).alloc (aF _) _;have PO:=Zd (Kv kd n _ ((HE.later aa).later ak) ap);obtain⟨x,hx⟩:=ZG (Yr (kd,n));rw[<-hx] at PO;obtain⟨HX,bo⟩:=kh2 hx ak;clear af aa hq bi ap hx ak;go_wp2_with fail;refine PO.mono ?_;rintro e w3 ⟨rfl,bb⟩;have ae:=(HF.keep bo).keep bb;obtain⟨v,cm⟩:=ae.old ac;have cl:=ae.free k;have bt:=Zd ae;clear bb ae;go_wp2;go_roundw
   case rel=>
    refine⟨k+1,by omega,by go_num,bt.step ac ?_⟩;show Value.string x=Zde l k;rw[Za HX,Za HQ];rfl
   case measure=>simp[intOf];omega
  ·clear af aa;have e:k=len:=(by omega);subst e;clear hk ac
   have HJ:Hid (∀ (j:Nat) x,(l.map Yr)[j]? = some x->wr.cell? ⟨Q.heap.size,0+j,none⟩=some (.string x)):=λj x hj=>by
    have an:j<l.length:=by
     rcases Nat.lt_or_ge j l.length with h|h
     ·exact h
     ·rw[List.getElem?_eq_none (by simpa using h)] at hj;cases hj
    rw[Nat.zero_add,(Za HF).cells (aF _) j (by rw[<-Za HZ];exact an)];simp[an] at hj;simp[Zde,an,hj]
   have HL:Hid ((l.map Yr).length=k):=(by rw[List.length_map];exact Za HZ);have JN:=Zd (Tryz.strings_Join Q.heap.size 0 k (l.map Yr) ⟨#[32]⟩ wr HJ HF.lt (by rw[Za HL];omega) (by rw[Za HL];exact aF _) (Nat.le_trans cb (by decide)));rw[Za HL] at JN
   change Hid (Calls _ _ _ _ λe w'=>e = dA (.string (Z5 l))/\_) at JN
   obtain⟨t,ht⟩:=ZG (Z5 l);rw[<-ht] at JN;have HT:=Zd ht;clear ht;go_wp2_with fail;refine JN.mono ?_;rintro e w4 ⟨rfl,bd⟩;have bk:=Zd (Zsb bq bd);clear bd;go_wp2;go_ret2;exact⟨A8 HT,Za bk⟩
theorem Zap(a cap)(w:World) :
  ZH 257 #[F a 0 cap] w (dB #[.string ⟨#[]⟩,E J 0]):=by
 obtain⟨i0,hi,ab,ac,ad⟩:=info_parts Tryz.info9;go_enter func257,ntmps257;go_wp2_with fail;refine (Mg a cap w).mono ?_;rintro e w1 ⟨rfl,rfl⟩
 go_wp2_with (at_make;refine wpList_make_full _ rfl _ _ 22 rfl w.heap.size 9 i0 (.string ⟨#[]⟩) 1 underlying22 hi ab ac .i64 .i64 _ _ 0 rfl rfl rfl rfl (by rw[ad];omega) (by unfold maxLen;omega) (aF _) ?_;intro w2 aa z)
 have Q:Hid (ZD w w2):=(Below.refl _ _).grown z (aF _) (λk h=>by cases h);clear aa z;refine wp_loop_rounds 1 ?_;rw[rounds_succ];go_wp2_with fail;refine (Tryz.strings_Join_none _ _ _ _).mono ?_;rintro e w3 ⟨rfl,rfl⟩;go_wp2;go_ret2;exact⟨rfl,Za Q⟩
def prT(l:List (Int×Int)):ByteArray:=if chk l=0 then Z5 l else ⟨#[]⟩
theorem Zfw(a len cap l)(w:World)(hE:Env w)(Q:OpsAt w a len l) :
  ZH 257 #[F a len cap] w (dB #[.string (prT l),E J (chk l)]):=by
 unfold prT;by_cases z:chk l=0
 ·rw[if_pos z,z];obtain⟨hz,hc⟩:=Q;by_cases h:len=0
  ·subst h;have e:l=[]:=List.length_eq_zero_iff.1 hz;subst e;exact Zap a cap w
  ·obtain⟨b,off,rfl,aa⟩:=hc (by omega);exact Zao b off len cap l w hE hz (by omega) z (aE _ _ (aa 0 (by omega)).1) aa
 ·rw[if_neg z];exact Zfv a len cap l w Q z
def Xv(v:Int):ByteArray:=⟨(Lib.itoa v).toArray⟩
def R9(s:ByteArray):Option Int:=
 match Lib.atoiAll s.data.toList with
 | .ok v=>if (Xv v).toList=s.toList then some v else none
 | _=>none
theorem Zsc{a b:ByteArray}(h:a.data.toList=b.data.toList):a=b:=by
 cases a with|mk d=>cases b with|mk e=>cases d;cases e;simp at h;rw[h]
def Xi(z:ByteArray)(Z:List Int):ByteArray:=Z.foldl (λt aa=>t++(⟨#[32]⟩++Xv aa)) z
theorem Zfr(z:ByteArray)(Z)(aa:Int):Xi z (Z++[aa])=Xi z Z++(⟨#[32]⟩++Xv aa):=by unfold Xi;rw[List.foldl_append];rfl
theorem H8(n:Int)(h : -10000000000<=n/\n<=10000000000):(Xv n).size<=21:=by
 have:=Lib.itoa_length_le n (by omega) (by omega);simpa[Xv,ByteArray.size] using this
theorem Bn(x:ByteArray)(c:UInt8):((⟨#[c]⟩:ByteArray)++x).size=x.size+1:=by rw[ByteArray.size_append];show 1+x.size=_;omega
theorem Uv(x:ByteArray)(c:UInt8):(x++(⟨#[c]⟩:ByteArray)).size=x.size+1:=by rw[ByteArray.size_append];rfl
theorem Ji{α : Type}(f : α->ByteArray)(m:Nat):∀ (Z:List α) (t:ByteArray),(∀ z∈Z,(f z).size<=m)->(Z.foldl (λt z=>t++f z) t).size<=t.size+m*Z.length
 | [],t,_=>by simp
 | z :: r,t,h=>by
  have h1:=Ji f m r (t++f z) (λy Q=>h y (by simp[Q]));have h2:=h z (by simp);rw[ByteArray.size_append] at h1;simp only[List.foldl_cons,cL,Nat.mul_add,Nat.mul_one];omega
theorem Qo(Q:ByteArray)(Z:List Int)(h:∀ z∈Z,-10000000000<=z/\z<=10000000000):(Xi Q Z).size<=Q.size+22*Z.length:=
 Ji (λz=>(⟨#[32]⟩:ByteArray)++Xv z) 22 Z Q (λz hz=>by rw[Bn];have:=H8 z (h z hz);omega)
theorem Qg(z:ByteArray)(b off n c:Nat)(Z:List Int)(w:World)(hE:Env w)(hw:z.size<=10)(hn:n<=6)(hz:Z.length=n)(hl:b<w.heap.size)
  (hc:∀ i,i<n->w.cell? ⟨b,off+i,none⟩=some (E J (Z.getD i 0))) (hr:∀ bh∈Z,-10000000000<=bh/\bh<=10000000000) :
  ZH 105 #[.string z,F (some ⟨b,off,none⟩) n c] w (.string (Xi z Z)):=by
 obtain⟨HE,HC,HZ,HR⟩:=kh4 hE hc hz hr;clear hE hc hz hr;go_enter func105,ntmps105;go_wp2
 go_loopw [5,11] (λs i wr=>∃ k:Nat,k<=n/\i = E J k/\s = .string (Xi z (Z.take k))/\ZD w wr) (λ_ i _=>n - (intOf i).toNat)
 case atStart=>exact⟨0,aL _,rfl,rfl,Below.refl _ _⟩
 case round=>
  obtain⟨k,hk,rfl,rfl,hb⟩:=hrel;have HB:=Zd hb;by_cases am:k<n
  ·have ad:k<Z.length:=(by rw[Za HZ];exact am);have c1:=HC k am;rw[<-hb.cell (p:=⟨b,off+k,none⟩) hl] at c1;have e1:Z.getD k 0=Z[k]:=(by simp[ad]);rw[e1] at c1;have ae:=HR Z[k] (aQ ad);have hS:=Zfr z (Z.take k) Z[k];rw[<-aS ad] at hS
   have az:(Xi z (Z.take k)).size<=200:=by
    have:=Qo z (Z.take k) (λbh hz=>HR bh (List.mem_of_mem_take hz));rw[bP] at this;omega
   obtain⟨bh,hz⟩:=ZF (Z[k]);rw[hz] at c1 ae hS;obtain⟨T,hT⟩:=ZF (Xi z (Z.take k));rw[hT] at hS az ⊢;have HS:=Zd hS;have bd:=H8 bh ae;have be:((⟨#[32]⟩:ByteArray)++Xv bh).size<=22:=by rw[Bn];omega
   have IT:Hid (∀ w,Env w->Calls Tryz.prog 167 #[E J bh] w λe w'=>e = dA (.string (Xv bh))/\ZD w w'):=λw hw=>
    (Tryz.strconv_Itoa bh (by omega) (by omega) w hw.tab).mono λe w' ⟨h1,k,os,h2⟩=>⟨h1,by rw[h2];exact Lib.below_grow _ _ (aF _) k os⟩
   have EE:=Zd (HE.later hb);clear hb hz hT hS e1 ae;go_wp2_with fail;refine (IT _ EE).mono ?_;rintro e w3 ⟨rfl,ak⟩;have ar:=Zd (Zf HB ak);clear ak;go_wp2;go_roundw
   case rel=>exact⟨k+1,by omega,by go_num,by rw[Za HS],Za ar⟩
   case measure=>simp[intOf];omega
  ·have e:k=n:=(by omega);subst e;have HT:Hid (Xi z (Z.take k)=Xi z Z):=(by show _=_;rw[aV (by rw[Za HZ];exact aF _)]);clear hb;go_wp2;go_ret;exact⟨Zdu HT,Za HB⟩
def Nz(z:ByteArray)(Z:List Int)(l:List (Int×Int)):ByteArray:=((Xi z Z++⟨#[58]⟩)++Z5 l)++⟨#[10]⟩
theorem R8(l)(h:chk l=0):(Z5 l).size<=400:=by
 unfold chk at h;split at h
 ·cases h
 ·have:=J6 l (by omega) h;simpa[Z5,ByteArray.size] using this
theorem Lk(z:ByteArray)(Z:List Int)(l)(hw:z.size<=10)(hz:Z.length<=2)(hr:∀ ae∈Z,-10000000000<=ae/\ae<=10000000000)(hl:chk l=0):(Nz z Z l).size<=460:=by
 unfold Nz;have h1:=Qo z Z hr;have h2:=R8 l hl;rw[Uv,ByteArray.size_append,Uv];have h3:22*Z.length<=44:=by omega
 omega
theorem Sh(a len cap l)(z:ByteArray)(b off n c:Nat)(Z:List Int)(t:ByteArray)(w:World)(hE:Env w)(hO:OpsAt w a len l)(aa:chk l=0)(hw:z.size<=10)(hn:n<=2)(hz:Z.length=n)(hl:b<w.heap.size)
  (hc:∀ i,i<n->w.cell? ⟨b,off+i,none⟩=some (E J (Z.getD i 0))) (hr:∀ bb∈Z,-10000000000<=bb/\bb<=10000000000) (Q:Nz z Z l=t) :
  ZH 211 #[F a len cap,.string z,F (some ⟨b,off,none⟩) n c] w (.string t):=by
 have PR:=Zd (Zfw a len cap l w hE hO);have e:prT l=Z5 l:=by unfold prT;rw[if_pos aa]
 rw[e,aa] at PR
 have R:Hid (∀ w',ZD w w'->Calls Tryz.prog 105 #[.string z,F (some ⟨b,off,none⟩) n c] w' λe w2=>e = dA (.string (Xi z Z))/\ZD w' w2):=λw' hb=>
  Qg z b off n c Z w' (hE.later hb) hw (by omega) hz (Nat.lt_of_lt_of_le hl hb.size) (λi hi=>by rw[hb.cell (p:=⟨b,off+i,none⟩) hl];exact hc i hi) hr
 have s1:(Xi z Z).size<=54:=by have:=Qo z Z hr;omega
 have s2:=R8 l aa;unfold Nz at Q;obtain⟨A,hA⟩:=ZF (Xi z Z);obtain⟨B,hB⟩:=ZF (Z5 l);rw[hA] at R s1 Q;rw[hB] at PR s2 Q;have s3:(A++(⟨#[58]⟩:ByteArray)).size<=55:=by rw[Uv];omega
 have s4:((A++(⟨#[58]⟩:ByteArray))++B).size<=455:=by rw[ByteArray.size_append];omega
 have HT:=Zd Q;clear hE hO aa hz hc hr e hA hB Q;go_enter func211,ntmps211;go_wp2_with fail;refine PR.mono ?_;rintro e w1 ⟨rfl,ah⟩;have ae:=Zd ah;clear ah;go_wp2_with fail;refine (R w1 ae).mono ?_;rintro e w2 ⟨rfl,aj⟩;have ap:=Zd (Zf ae aj);clear aj;go_wp2;go_ret;exact⟨Zdu HT,Za ap⟩
def txB:ByteArray:=⟨#[116,120]⟩
def inB:ByteArray:=⟨#[105,110]⟩
def outB:ByteArray:=⟨#[111,117,116]⟩
def V7(h:Int):ByteArray:=Xi txB [h]++⟨#[10]⟩
def Lr(x:InD):ByteArray:=Nz inB [x.1,x.2.1] x.2.2
def Sk(x:Zy):ByteArray:=Nz outB [x.1] x.2
def Y9(h:Int)(I:List InD):ByteArray:=I.foldl (λt x=>t++Lr x) (V7 h)
def Xk(t:ByteArray)(O:List Zy):ByteArray:=O.foldl (λt x=>t++Sk x) t
def Zw(t:TxD):ByteArray:=Xk (Y9 t.1 t.2.1) t.2.2
theorem Fh(h:Int)(I x):Y9 h (I++[x])=Y9 h I++Lr x:=by unfold Y9;rw[List.foldl_append];rfl
theorem Mt(t:ByteArray)(O)(x:Zy):Xk t (O++[x])=Xk t O++Sk x:=by unfold Xk;rw[List.foldl_append];rfl
theorem Tb(h:Int)(Q:0<=h/\h<=1000):(V7 h).size<=30:=by
 unfold V7;have:=Qo txB [h] (λab z=>by simp at z;omega);rw[Uv];have e:txB.size=2:=rfl;simp only[cL,List.length_nil] at this;omega
theorem Gt(x:InD)(h:Tp x=true/\chk x.2.2=0):(Lr x).size<=460:=by
 have hp:=(Ku x).1 h.1;exact Lk inB [x.1,x.2.1] x.2.2 (by decide) (by simp) (λaa z=>by simp at z;omega) h.2
theorem Sj(x:Zy)(h:(1<=x.1/\x.1<=1000000000)/\chk x.2=0):(Sk x).size<=460:=
 Lk outB [x.1] x.2 (by decide) (by simp) (λaa z=>by simp at z;omega) h.2
theorem Jf(h:Int)(I:List InD)(Q:0<=h/\h<=1000)(z:∀ x∈I,Tp x=true/\chk x.2.2=0):(Y9 h I).size<=30+460*I.length:=by
 have h1:=Ji Lr 460 I (V7 h) (λx hx=>Gt x (z x hx));have h2:=Tb h Q;have h3:(Y9 h I).size<=(V7 h).size+460*I.length:=h1;omega
theorem R7(t:ByteArray)(O:List Zy)(z:∀ x∈O,(1<=x.1/\x.1<=1000000000)/\chk x.2=0):(Xk t O).size<=t.size+460*O.length:=
 Ji Sk 460 O t (λx hx=>Sj x (z x hx))
theorem Rp(w:World)(x)(t:TypeId):(w.alloc (cZ #[x] t)).cell? ⟨w.heap.size,0,none⟩=some x:=by rw[World.cell?_alloc_at _ _ _ _ rfl];rfl
def txT(t:TxD):ByteArray:=if Zu t=0 then Zw t else ⟨#[]⟩
theorem Al(h:Int)(ai ao ni ci no co I O)(x:Int)(w:World)(Q:InsAt w ai ni I)(hO:OutsAt w ao no O)(sI:SlOk ai ni ci)(hx:Zu (h,I,O)=x)(h0:x≠0) :
  ZH 155 #[.agg #[E J h,F ai ni ci,F ao no co]] w (dB #[.string ⟨#[]⟩,E J x]):=by
 have z:=Zh w (cZ #[E J h,F ai ni ci,F ao no co] 59);obtain⟨HB,C⟩:=kh2 z (Vw h ai ao ni ci no co I O _ (Q.later z) (hO.later z) sI);rw[hx] at C;have g:(x != 0)=true:=by simp[h0]
 clear z Q hO sI hx h0;go_enter func155,ntmps155;go_wp2_with fail;refine C.mono ?_;rintro e w2 ⟨rfl,ab⟩;have ae:=Zd (Zf HB ab);clear ab;go_wp2;go_ret2;exact⟨rfl,Za ae⟩
theorem T9(h:Int)(ai ao ni ci no co I O)(w:World)(hE:Env w)(hI:InsAt w ai ni I)(hO:OutsAt w ao no O)(sI:SlOk ai ni ci)(hx:Zu (h,I,O)=0) :
  ZH 155 #[.agg #[E J h,F ai ni ci,F ao no co]] w (dB #[.string (Zw (h,I,O)),E J 0]):=by
 have ok:=TxOk.of hx;have hb:=Zh w (cZ #[E J h,F ai ni ci,F ao no co] 59);obtain⟨n0,n1,n2⟩:=Qm w (E J h) (F ai ni ci) (F ao no co) 59;obtain⟨HB,C⟩:=kh2 hb (Vw h ai ao ni ci no co I O _ (hI.later hb) (hO.later hb) sI);rw[hx] at C;obtain⟨N0,N1,N2⟩:=kh3 n0 n1 n2;have df:ni<=6:=by have:=ok.ins6;have:=hI.1;simp only at *;omega
 have dm:no<=6:=by have:=ok.outs6;have:=hO.1;simp only at *;omega
 have dn:0<no:=by have:=ok.some;have:=hO.1;simp only at *;omega
 obtain⟨HI,HO,HE,HG,bj,bz⟩:=kh6 hI hO hE ok.hgt ok.ins ok.outs;clear hb hI hO sI hx n0 n1 n2 hE ok;go_enter func155,ntmps155;go_wp2_with fail;refine C.mono ?_;rintro e w2 ⟨rfl,aj⟩;have m0:=Ze aj N0;obtain⟨M1,M2⟩:=kh2 (Ze aj N1) (Ze aj N2);have s2:w.heap.size<w2.heap.size:=aE _ _ m0;have bu:=Zf HB aj;have ba:=Zh w2 (cZ #[E J h] 3)
 have R:=Zd (Qg txB w2.heap.size 0 1 1 [h] (w2.alloc (cZ #[E J h] 3)) (HE.later (Zf bu ba)) (by decide) (by decide) rfl (by simp) (λi hi=>by
  have e:i=0:=by omega
  subst e;exact Rp w2 (E J h) 3) (λds hz=>by have:=Za HG;simp at hz;omega))
 obtain⟨cj,dj,cn⟩:=kh3 ba aj bu;have hs:=Tb h HG
 have dh:(Xi txB [h]).size<=29:=by
  have e:V7 h=Xi txB [h]++⟨#[10]⟩:=rfl;rw[e,Uv] at hs;omega
 obtain⟨T0,br⟩:=ZF (Xi txB [h]);have ct:Hid (T0++⟨#[10]⟩=V7 h):=by show _=_;rw[<-br];rfl
 rw[br] at R dh;clear aj bu ba hs br;go_wp2_with fail;refine R.mono ?_;rintro e w3 ⟨rfl,cb⟩;have bb:=Zf cj cb;have m1:=Ze bb M1;have cy:=Zd (Ze bb M2);have s3:w.heap.size<w3.heap.size:=aE _ _ m1;have cp:=Zd (Zf cn bb);clear cb bb;go_wp2
 go_loopw [5,23] (λs i wr=>∃ k:Nat,k<=ni/\i = E J k/\s = .string (Y9 h (I.take k))/\ZD w3 wr) (λ_ i _=>ni - (intOf i).toNat)
 case atStart=>exact⟨0,aL _,rfl,by rw[Za ct];rfl,Below.refl _ _⟩
 case round=>
  obtain⟨k,hk,rfl,rfl,aq⟩:=hrel;have bv:=Zd aq;have bd:=Zf cp aq;have cm:=Zd bd;by_cases bf:k<ni
  ·have ag:k<I.length:=(by rw[(Za HI).1];exact bf);obtain⟨b,off,rfl,de,au⟩:=(HI.later bd).2 (by omega);obtain⟨g1,g2,ka,kn,kc,g3,g4,_⟩:=au k ag;have aa:=bj I[k] (aQ ag);have Q:=Fh h (I.take k) I[k];rw[<-aS ag] at Q
   have bt:(Y9 h (I.take k)).size<=3000:=by
    have:=Jf h (I.take k) HG (λx hx=>bj x (List.mem_of_mem_take hx));rw[bP] at this;omega
   have an:=Gt I[k] aa;obtain⟨x,hx⟩:=ZF (I[k]);rw[hx] at g1 g2 g4 aa Q an;obtain⟨z,x2,key⟩:=x;simp only at g1 g2 g3 g4;have hp:=(Ku _).1 aa.1;simp only at hp;obtain⟨T,hT⟩:=ZF (Y9 h (I.take k));obtain⟨X,hX⟩:=ZF (Lr (z,x2,key));rw[hT,hX] at Q;rw[hT] at bt ⊢;rw[hX] at an;have HS:=Zd Q;have b1:=Zh wr (cZ #[E J z,E J x2,F ka kn kc] 119);have b2:=Zh (wr.alloc (cZ #[E J z,E J x2,F ka kn kc] 119)) (cZ #[E J z,E J x2] 3);have ac:=Zf b1 b2;have t2:=Nd (wr.alloc (cZ #[E J z,E J x2,F ka kn kc] 119)) (E J z) (E J x2) 3;have al:(wr.alloc (cZ #[E J z,E J x2,F ka kn kc] 119)).heap.size=wr.heap.size+1:=(by simp);rw[al] at t2
   have PL:=Zd (Sh ka kn kc key inB (wr.heap.size+1) 0 2 2 [z,x2] X ((wr.alloc (cZ #[E J z,E J x2,F ka kn kc] 119)).alloc (cZ #[E J z,E J x2] 3)) ((HE.later bd).later ac) (g4.later ac) aa.2 (by decide) (by decide) rfl (by simp) (λi hi=>by
    have e:i=0\/i=1:=by omega
    rcases e with rfl|rfl
    ·exact t2.1
    ·exact t2.2) (λds hz=>by simp at hz;omega) hX)
   have bg:=Zd ac;clear aq bd au g4 aa hx hT hX Q b1 b2 ac t2 al hp;go_wp2_with fail;refine PL.mono ?_;rintro e w4 ⟨rfl,ap⟩;have bh:=Zd (bv.trans ((Zf bg ap).mono bv.size));clear ap;go_wp2;go_roundw
   case rel=>exact⟨k+1,by omega,by go_num,by rw[Za HS],Za bh⟩
   case measure=>simp[intOf];omega
  ·have e:k=ni:=(by omega);subst e;have HT:Hid (Y9 h (I.take k)=Y9 h I):=(by show _=_;rw[aV (by rw[(Za HI).1];exact aF _)]);have bt:=Jf h I HG bj;have dk:I.length<=6:=(by rw[(Za HI).1];exact df);obtain⟨T1,bs⟩:=ZF (Y9 h I);rw[bs] at HT bt;have cu:=Zd bs;have m2:=Ze aq cy;have s4:w.heap.size<wr.heap.size:=aE _ _ m2;rw[Za HT];clear aq bs hk bf;go_wp2
   go_loopw [5,43] (λs i wz=>∃ j:Nat,j<=no/\i = E J j/\s = .string (Xk T1 (O.take j))/\ZD wr wz) (λ_ i _=>no - (intOf i).toNat)
   case atStart=>exact⟨0,aL _,rfl,rfl,Below.refl _ _⟩
   case round=>
    obtain⟨j,hj,rfl,rfl,be⟩:=hrel;have bx:=Zd be;have ar:=Zf cm be;have cl:=Zd ar;by_cases bf:j<no
    ·have ag:j<O.length:=(by rw[(Za HO).1];exact bf);obtain⟨b,off,rfl,de,au⟩:=(HO.later ar).2 (by omega);obtain⟨g1,ka,kn,kc,g3,g4,_⟩:=au j ag;have aa:=bz O[j] (aQ ag);have Q:=Mt T1 (O.take j) O[j];rw[<-aS ag] at Q
     have dd:(Xk T1 (O.take j)).size<=6000:=by
      have:=R7 T1 (O.take j) (λx hx=>bz x (List.mem_of_mem_take hx));rw[bP] at this;omega
     have an:=Sj O[j] aa;obtain⟨x,hx⟩:=ZF (O[j]);rw[hx] at g1 g4 aa Q an;obtain⟨z,key⟩:=x;simp only at g1 g3 g4;have hp:=aa.1;simp only at hp;obtain⟨T,hT⟩:=ZF (Xk T1 (O.take j));obtain⟨X,hX⟩:=ZF (Sk (z,key));rw[hT,hX] at Q;rw[hT] at dd ⊢;rw[hX] at an;have HS:=Zd Q;have b1:=Zh wr (cZ #[E J z,F ka kn kc] 122);have b2:=Zh (wr.alloc (cZ #[E J z,F ka kn kc] 122)) (cZ #[E J z] 3);have ac:=Zf b1 b2;have t2:=Rp (wr.alloc (cZ #[E J z,F ka kn kc] 122)) (E J z) 3;have al:(wr.alloc (cZ #[E J z,F ka kn kc] 122)).heap.size=wr.heap.size+1:=(by simp);rw[al] at t2
     have PL:=Zd (Sh ka kn kc key outB (wr.heap.size+1) 0 1 1 [z] X ((wr.alloc (cZ #[E J z,F ka kn kc] 122)).alloc (cZ #[E J z] 3)) ((HE.later ar).later ac) (g4.later ac) aa.2 (by decide) (by decide) rfl (by simp) (λi hi=>by
      have e:i=0:=(by omega);subst e;exact t2) (λds hz=>by simp at hz;omega) hX)
     have bg:=Zd ac;clear be ar au g4 aa hx hT hX Q b1 b2 ac t2 al hp;go_wp2_with fail;refine PL.mono ?_;rintro e w4 ⟨rfl,ap⟩;have bh:=Zd (bx.trans ((Zf bg ap).mono bx.size));clear ap;go_wp2;go_roundw
     case rel=>exact⟨j+1,by omega,by go_num,by rw[Za HS],Za bh⟩
     case measure=>simp[intOf];omega
    ·have HF:Hid (Xk T1 (O.take j)=Zw (h,I,O)):=by
      show _=_;rw[aV (by rw[(Za HO).1];omega),<-Za cu];rfl
     clear be ar;go_wp2;go_ret2;exact⟨A8 HF,Za cl⟩
theorem Hy(h:Int)(ai ao ni ci no co I O)(t:ByteArray)(x:Int)(w:World)(hE:Env w)(z:InsAt w ai ni I)(Q:OutsAt w ao no O)(sI:SlOk ai ni ci)(hx:Zu (h,I,O)=x)(ht:txT (h,I,O)=t) :
  ZH 155 #[.agg #[E J h,F ai ni ci,F ao no co]] w (dB #[.string t,E J x]):=by
 subst ht;by_cases h0:Zu (h,I,O)=0
 ·rw[h0] at hx;subst hx;unfold txT;rw[if_pos h0];exact T9 h ai ao ni ci no co I O w hE z Q sI h0
 ·unfold txT;rw[if_neg h0];exact Al h ai ao ni ci no co I O x w z Q sI hx (by rw[<-hx];exact h0)
def blockB:ByteArray:=⟨#[98,108,111,99,107]⟩
def W3:List TxD->ByteArray
 | []=>⟨#[]⟩
 | t :: r=>Zw t++W3 r
def Wp(b:Zl):ByteArray:=(Xi blockB [b.1,b.2.1,b.2.2.1,b.2.2.2.1]++⟨#[10]⟩)++W3 b.2.2.2.2
def Ev(b:Zl):ByteArray:=if Yk b=0 then Wp b else ⟨#[]⟩
theorem Qu(h:Int):∀ (i:Nat) (T:List TxD),We h i T=0->∀ t∈T,Zu t=0
 | _,[],_,t,z=>by cases z
 | i,x :: r,e,t,z=>by
  unfold We at e;split at e
  ·rename_i q;exact absurd e q
  ·rename_i q;split at e
   ·cases e
   ·rcases List.mem_cons.1 z with rfl|z
    ·exact Classical.not_not.1 q
    ·exact Qu h (i+1) r e t z
theorem Db{p h k n:Int}(e:W9 p h k n=true):0<=p/\p<=120/\1<=h/\h<=1000/\1<=k/\k<=1000/\0<=n/\n<=1000000000:=by
 unfold W9 at e;rw[bY,bY,bY,bY,bY,bY,bY] at e;obtain⟨⟨a,b⟩,⟨c,d⟩,⟨e,f⟩,g,h⟩:=e;exact⟨of_decide_eq_true a,of_decide_eq_true b,of_decide_eq_true c,of_decide_eq_true d,of_decide_eq_true e,of_decide_eq_true f,of_decide_eq_true g,of_decide_eq_true h⟩
theorem Un{p h k n:Int}{T:List TxD}(e:Yk (p,h,k,n,T)=0):W9 p h k n=true/\0<T.length/\T.length<=4/\We h 0 T=0/\(∀ t∈T,Zu t=0):=by
 unfold Yk at e;simp only at e;split at e
 ·cases e
 rename_i z;split at e
 ·cases e
 rename_i Q;split at e
 ·cases e
 rename_i q3;exact⟨by cases q:W9 p h k n with|true=>rfl|false=>exact absurd q z,by omega,by omega,e,Qu h 0 T e⟩
theorem Jr{α : Type}:∀ (L:List (List α)),([]:List α).intercalate L=L.flatten
 | []=>rfl
 | [x]=>by simp[List.intercalate]
 | x :: y :: r=>by
  have:=Jr (y :: r);simp[List.intercalate] at this ⊢;exact this
theorem Ak(t)(h:Zu t=0):(Zw t).size<=6000:=by
 have ok:=TxOk.of h;have h1:=R7 (Y9 t.1 t.2.1) t.2.2 ok.outs;have h2:=Jf t.1 t.2.1 ok.hgt ok.ins;have h3:=ok.ins6;have h4:=ok.outs6;unfold Zw;omega
theorem T7:∀ (T:List TxD),(∀ t∈T,Zu t=0)->(W3 T).size<=6000*T.length
 | [],_=>by simp[W3];rfl
 | t :: r,h=>by
  have h1:=Ak t (h t (List.mem_cons_self ..));have h2:=T7 r (λx hx=>h x (List.mem_cons_of_mem _ hx));rw[W3,ByteArray.size_append,cL];omega
theorem T8:∀ (T:List TxD),(W3 T).data.toList=((T.map Zw).map (·.data.toList)).flatten
 | []=>rfl
 | t :: r=>by
  rw[W3,ByteArray.data_append,Array.toList_append,T8 r];rfl
theorem N8(T:List TxD):(⟨(Lib.join ((T.map Zw).map (·.data.toList)) []).toArray⟩:ByteArray)=W3 T:=by
 refine Zsc ?_;rw[T8];show Lib.join _ _=_;unfold Lib.join;exact Jr _
def txV(T:List TxD)(i:Nat):Value:=.string (Zw (T.getD i (0,[],[])))
theorem J4(b off m c:Nat)(T:List TxD)(w:World)(hE:Env w)(hz:T.length=m)(hm:m<=4)(ar:∀ t∈T,Zu t=0)(hc:∀ i (h:i<T.length),TxAt w b (off+i*3) T[i]) :
  Calls Tryz.prog 87 #[F (some ⟨b,off,none⟩) m c] w λe w'=>e = dA (F (some ⟨w.heap.size,0,none⟩) m m)/\FillV w.heap.size 9 m (txV T) w w' m:=by
 obtain⟨i0,hi,bs,bt,bu⟩:=info_parts Tryz.info9;obtain⟨HE,HC,HZ,HK⟩:=kh4 hE hc hz ar;clear hE hc hz ar;go_enter func87,ntmps87
 go_wp2_with (at_make;refine wpList_make_full _ rfl _ _ 22 rfl w.heap.size 9 i0 (.string ⟨#[]⟩) 1 underlying22 hi bs bt .i64 .i64 _ _ m rfl rfl rfl rfl (by rw[bu];omega) (by unfold maxLen;omega) (aF _) ?_;intro w2 ax au)
 have ay:FillV w.heap.size 9 m (txV T) w w2 0:=⟨⟨_,ax,λj hj=>absurd hj (by omega)⟩,(Below.refl _ _).grown au (aF _) (λk h=>by cases h)⟩;have bj:=Zd ay;clear ay ax au
 go_loopw [11] (λi wr=>∃ k:Nat,k<=m/\i = E J k/\FillV w.heap.size 9 m (txV T) w wr k) (λi _=>m - (intOf i).toNat)
 case atStart=>exact⟨0,aL _,rfl,Za bj⟩
 case round=>
  obtain⟨k,hk,rfl,ab⟩:=hrel;have HF:=Zd ab;have Q:ZD w wr:=ab.bel;have cc:=Zd Q;by_cases ac:k<m
  ·have aw:k<T.length:=(by rw[Za HZ];exact ac);have av:=TxAt.kept _ _ _ _ _ Q (HC k aw);have hx:=HK T[k] (aQ _);have HQ:Hid (T.getD k (0,[],[])=T[k]):=(by show _=_;simp[aw]);obtain⟨t,ht⟩:=ZF (T[k]);rw[ht] at av hx HQ;obtain⟨t1,I,O⟩:=t;obtain⟨g0,⟨ai,ni,ci,g1,hI,sI⟩,ao,no,co,g2,hO,_⟩:=av;simp only at g0 g1 g2 hI hO;obtain⟨Y,hY,z,an⟩:=ka00 wr [E J t1,F ai ni ci,F ao no co] 59;obtain⟨y0,y1,y2,yl⟩:=kc3 an;have PO:=Zd (T9 t1 ai ao ni ci no co I O Y (HE.later (Zf Q z)) (hI.later z) (hO.later z) sI hx);obtain⟨x,af⟩:=ZG (Zw (t1,I,O));rw[<-af] at PO;obtain⟨HX,be⟩:=kh2 af z;clear ab Q ht hx an z hI hO sI af;go_wp2_with fail;rw[<-hY];clear hY;go_wp2_with fail;refine PO.mono ?_;rintro e w3 ⟨rfl,ap⟩;have aa:=(HF.keep be).keep ap;obtain⟨v,cg⟩:=aa.old ac;have cd:=aa.free k;have ce:=aa.lt;have bh:=Zd aa;clear ap aa y0 y1 y2 yl g0 g1 g2;go_wp2;go_roundw
   case rel=>
    refine⟨k+1,by omega,by go_num,bh.step ac ?_⟩;show Value.string x=txV T k;unfold txV;rw[Za HX,Za HQ]
   case measure=>simp[intOf];omega
  ·clear ab Q;have e:k=m:=(by omega);subst e;clear hk ac;go_wp2;go_ret;exact⟨rfl,Za HF⟩
