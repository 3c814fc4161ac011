import Derived.Test.YtmomfkikogbdeaaGreatDoorH
import Derived.Lib.AppendIntMem
import Derived.Lib.ItoaLen
import Derived.Lib.SmallJoins
import Derived.Lib.AtoiAll
import Derived.Test.YtmomfkikogbdeaaGreatDoorG11
open Go.Proofs.Tryz
open Bool renaming and_eq_true->bW
open Go.Ending renaming returned->cY
open Go.IntKind renaming i64->J
open Go.Obj renaming cells->cW
open Go.RowKit renaming Below->aD,intOf->cE
open Go.Value renaming int->E,slice->F,tuple->cZ
open Go.World renaming block_lt_of_cell?->aF
open List renaming getElem_mem->bB,take_succ_eq_append_getElem->aW,length_take->bL,take_of_length_le->aL
open Nat renaming le_refl->aH,zero_le->aQ
set_option maxHeartbeats 6400000
set_option maxRecDepth 10000
namespace Go.Proofs.YtmomfkikogbdeaaGreatDoor
open Go.RowKit
def namesL:List ByteArray:=[⟨#[]⟩,⟨#[]⟩,⟨#[100,117,112]⟩,⟨#[115,119,97,112]⟩,⟨#[100,114,111,112]⟩,⟨#[97,100,100]⟩,⟨#[115,117,98]⟩,⟨#[115,97,109,101]⟩,⟨#[108,101,115,115]⟩,⟨#[110,111,116]⟩,⟨#[97,110,100]⟩,⟨#[118,101,114,105,102,121]⟩,⟨#[104,101,105,103,104,116]⟩,⟨#[109,105,120]⟩]
def Gf(k:Nat):ByteArray:=namesL.getD k ⟨#[]⟩
def Az:Array Value:=(namesL.map Value.string).toArray
def Xn(o:Int×Int):ByteArray:=if o.1=1 then ⟨(Lib.itoa o.2).toArray⟩ else Gf o.1.toNat
def Vd(l:List (Int×Int)):ByteArray:=⟨(Lib.join ((l.map Xn).map (·.data.toList)) [32]).toArray⟩
structure Env(w:World):Prop where
 tab:Lib.TabIs Tryz.prog w "internal/strconv.uint64pow10" .u64 Lib.pow10Tab
 nam:w.var? Tryz.prog "cairn/lock.names" = some Az
theorem Tryz.gTab:Tryz.prog.globalNamed "internal/strconv.uint64pow10" = some 2:=by kernel_rfl
theorem Tryz.gNam:Tryz.prog.globalNamed "cairn/lock.names" = some 1:=by kernel_rfl
theorem Env.later{w w':World}(h:Env w)(z:aD w.heap.size w w'):Env w':=
 ⟨Joins.var_stays Tryz.gTab h.tab z (aH _),Joins.var_stays Tryz.gNam h.nam z (aH _)⟩
theorem Env.name{w:World}(h:Env w)(k:Nat)(z:k<14):w.cell? ⟨1,k,none⟩=some (.string (Gf k)):=by
 have:=World.var?_cell Tryz.gNam h.nam k;rw[this];have Q:k<namesL.length:=z;simp[Az,Gf,Q]
theorem Env.lt{w:World}(h:Env w):1<w.heap.size:=aF _ _ (h.name 0 (by decide))
theorem Cs{a b:ByteArray}(h:a=b):Ending.returned (.string a) = cY (.string b):=by rw[h]
theorem Px(k n:Int)(w:World)(hE:Env w)(z:Wl (k,n)=0) :
  ZH 286 #[.agg #[E J k,E J n]] w (.string (Xn (k,n))):=by
 have Q:aD w.heap.size w (w.alloc (cW #[E J k,E J n] 164)):=(Below.refl _ _).alloc (aH _) _;have HB:=Zd Q;have HE:=Zd hE;by_cases h1:k=1
 ·subst h1
  have hn : -1000000<=n/\n<=1000000:=by
   have:fit n=true:=by
    simp only[Wl] at z;cases h:fit n with
    | true=>rfl
    | false=>simp[h] at z
   exact (V6 n).1 this
  have g0 : -9223372036854775808<=n:=by omega
  have g1:n<=9223372036854775807:=by omega
  have e:Xn (1,n)=⟨(Lib.itoa n).toArray⟩:=by simp[Xn]
  rw[e];have HT:=Zd (hE.later Q).tab;clear hE z Q e hn;go_enter func286,ntmps286;go_wp2_with fail;refine (Tryz.strconv_Itoa n g0 g1 _ HT).mono ?_;rintro e w1 ⟨rfl,k,os,rfl⟩;have ab:=Zd (HB.trans ((Lib.below_grow _ _ (aH _) k os).mono HB.size));go_wp2;go_ret;exact⟨rfl,Za ab⟩
 ·have hk:1<=k/\k<=13:=by
   simp only[Wl] at z;split at z
   ·cases z
   ·omega
  obtain⟨m,rfl⟩:=Int.eq_ofNat_of_zero_le (show 0<=k by omega);have e:Xn ((m:Int),n)=Gf m:=by simp[Xn];intro h;omega
  have c1:=hE.name m (by omega);have hl:=hE.lt;have g1:((m:Int) == 1)=false:=by simp;omega
  have g2:(m:Int)<14:=by omega
  rw[e];obtain⟨x,hx⟩:=ZG (Gf m);rw[<-hx] at c1 ⊢;clear hE z Q e h1 hk hx;go_enter func286,ntmps286;go_wp2;go_ret;exact⟨rfl,Za HB⟩
theorem Nu{a b:ByteArray}{v:Value}(h:a=b):Ending.returned (cZ #[.string a,v]) = cY (cZ #[.string b,v]):=by rw[h]
theorem Tryz.info9:(Tryz.prog.info? 9).map (λi=>(i.zero,i.size,i.bytes))=some (some (.string ⟨#[]⟩),1,16):=by kernel_rfl
theorem Ar(o:Int×Int)(h:Wl o=0):(Xn o).data.toList.length<=21:=by
 obtain⟨k,n⟩:=o;unfold Xn;split
 ·rename_i h1;have h1:k=1:=h1;subst h1
  have hn : -1000000<=n/\n<=1000000:=by
   have:fit n=true:=by
    simp only[Wl] at h;cases hf:fit n with
    | true=>rfl
    | false=>simp[hf] at h
   exact (V6 n).1 this
  simpa using Lib.itoa_length_le n (by omega) (by omega)
 ·have Q:1<=k/\k<=13:=by
   simp only[Wl] at h;split at h
   ·cases h
   ·omega
  show (Gf k.toNat).data.toList.length<=21;have z:k.toNat<14:=by omega
  have all:∀ j:Fin 14,(Gf j.val).data.toList.length<=21:=by decide
  exact all ⟨k.toNat,z⟩
theorem C7:∀ (xs:List (List UInt8)),(∀ x∈xs,x.length<=21)->Lib.lens xs<=21*xs.length
 | [],_=>by simp[Lib.lens]
 | x :: r,h=>by
  have h1:=h x (by simp);have h2:=C7 r (λy z=>h y (by simp[z]));simp only[Lib.lens,List.length_cons] at h2 ⊢;simp at h2 ⊢;omega
theorem T6(l:List (Int×Int))(h16:l.length<=16)(h:Qc l=0):(Lib.join ((l.map Xn).map (·.data.toList)) [32]).length<=400:=by
 cases l with
 | nil=>simp[Lib.join_nil]
 | cons o r=>
  rw[List.map_cons,List.map_cons,Lib.join_length]
  have z:=C7 (((o :: r).map Xn).map (·.data.toList)) (λx hx=>by
   simp only[List.map_map,List.mem_map,Function.comp] at hx;obtain⟨q,hq,rfl⟩:=hx;obtain⟨i,hi,rfl⟩:=List.getElem_of_mem hq;exact Ar _ (G8 h i hi))
  simp only[List.map_cons,List.length_cons,List.length_map,List.length_nil] at z h16 ⊢;omega
theorem E8(a:Option Addr)(len cap:Nat)(l:List (Int×Int))(w:World)(hO:OpsAt w a len l)(z:chk l≠0) :
  ZH 257 #[F a len cap] w (cZ #[.string ⟨#[]⟩,E J (chk l)]):=by
 have Q:=Zd (Vh a len cap l w hO);obtain⟨x,hx⟩:=ZG (chk l);rw[<-hx] at z Q ⊢;have ad:(x != 0)=true:=by simp[z]
 clear hO z hx;go_enter func257,ntmps257;go_wp2_with fail;refine Q.mono ?_;rintro e w1 ⟨rfl,ab⟩;have ac:=Zd ab;clear ab;go_wp2;go_ret2;exact⟨rfl,Za ac⟩
def Cm(l:List (Int×Int))(j:Nat):Value:=.string (Xn (l.getD j (0,0)))
theorem An(b off len cap:Nat)(l:List (Int×Int))(w:World)(hE:Env w)(hz:l.length=len)(cn:0<len)(z:chk l=0)(be:b<w.heap.size)
  (hc:∀ i,i<len->w.cell? ⟨b,off+i*2,none⟩=some (E J (l.getD i (0,0)).1)/\w.cell? ⟨b,off+i*2+1,none⟩=some (E J (l.getD i (0,0)).2)) :
  ZH 257 #[F (some ⟨b,off,none⟩) len cap] w (cZ #[.string (Vd l),E J 0]):=by
 obtain⟨i0,hi,ce,cf,cg⟩:=info_parts Tryz.info9
 have h16:len<=16:=by
  unfold chk at z;split at z
  ·cases z
  ·omega
 have am:Qc l=0:=by
  unfold chk at z;split at z
  ·cases z
  ·exact z
 have HK:=Zd (G8 am);have cb:=Zd (T6 l (by omega) am);have CK:=Zd (Vh (some ⟨b,off,none⟩) len cap l w ⟨hz,λ_=>⟨b,off,rfl,hc⟩⟩);rw[z] at CK;have HE:=Zd hE;have HC:=Zd hc;have HZ:=Zd hz;clear hE hc hz z am;go_enter func257,ntmps257;go_wp2_with fail;refine CK.mono ?_;rintro e Q ⟨rfl,az⟩;have aw:=Zd az;clear az
 go_wp2_with (at_make;refine wpList_make_full _ rfl _ _ 22 rfl Q.heap.size 9 i0 (.string ⟨#[]⟩) 1 underlying22 hi ce cf .i64 .i64 _ _ len rfl rfl rfl rfl (by rw[cg];omega) (by unfold maxLen;omega) (aH _) ?_;intro w2 bh bf)
 have bj:FillV Q.heap.size 9 len (Cm l) Q w2 0:=⟨⟨_,bh,λj hj=>absurd hj (by omega)⟩,(Below.refl _ _).grown bf (aH _) (λk h=>by cases h)⟩;have bz:=Zd bj;clear bj bh bf
 go_loopw [18] (λi wr=>∃ k:Nat,k<=len/\i = E J k/\FillV Q.heap.size 9 len (Cm l) Q wr k) (λi _=>len - (cE i).toNat)
 case atStart=>exact⟨0,aQ _,rfl,Za bz⟩
 case round=>
  obtain⟨k,hk,rfl,af⟩:=hrel;have HF:=Zd af;have aa:aD w.heap.size w wr:=aw.trans (af.bel.mono aw.size);have bq:=Zd aa;by_cases ac:k<len
  ·have bg:k<l.length:=(by rw[Za HZ];exact ac);obtain⟨c1,c2⟩:=HC k ac;rw[<-aa.cell (p:=⟨b,off+k*2,none⟩) be] at c1;rw[<-aa.cell (p:=⟨b,off+k*2+1,none⟩) be] at c2;obtain⟨q,hq⟩:=ZG (l.getD k (0,0));rw[<-hq] at c1 c2;have bi:q=l[k]:=(by rw[hq];simp[bg]);have ap:=HK k bg;rw[<-bi] at ap;have HQ:=Zd hq;obtain⟨kd,n⟩:=q;have ak:aD wr.heap.size wr (wr.alloc (cW #[E J kd,E J n] 164)):=(Below.refl _ _).alloc (aH _) _;have PO:=Zd (Px kd n _ ((HE.later aa).later ak) ap);obtain⟨x,hx⟩:=ZG (Xn (kd,n));rw[<-hx] at PO;have HX:=Zd hx;have bo:=Zd ak;clear af aa hq bi ap hx ak;go_wp2_with fail;refine PO.mono ?_;rintro e w3 ⟨rfl,bb⟩;have ae:=(HF.keep bo).keep bb;obtain⟨v,cm⟩:=ae.old ac;have cl:=ae.free k;have bt:=Zd ae;clear bb ae;go_wp2;go_roundw
   case rel=>
    refine⟨k+1,by omega,by go_num,bt.step ac ?_⟩;show Value.string x=Cm l k;rw[Za HX,Za HQ];rfl
   case measure=>simp[cE];omega
  ·clear af aa;have e:k=len:=(by omega);subst e;clear hk ac
   have HJ:Hid (∀ (j:Nat) x,(l.map Xn)[j]? = some x->wr.cell? ⟨Q.heap.size,0+j,none⟩=some (.string x)):=λj x hj=>by
    have an:j<l.length:=by
     rcases Nat.lt_or_ge j l.length with h|h
     ·exact h
     ·rw[List.getElem?_eq_none (by simpa using h)] at hj;cases hj
    rw[Nat.zero_add,(Za HF).cells (aH _) j (by rw[<-Za HZ];exact an)];simp[an] at hj;simp[Cm,an,hj]
   have HL:Hid ((l.map Xn).length=k):=(by rw[List.length_map];exact Za HZ);have JN:=Zd (Tryz.strings_Join Q.heap.size 0 k (l.map Xn) ⟨#[32]⟩ wr HJ HF.lt (by rw[Za HL];omega) (by rw[Za HL];exact aH _) (Nat.le_trans cb (by decide)));rw[Za HL] at JN
   change Hid (Calls _ _ _ _ λe w'=>e = cY (.string (Vd l))/\_) at JN
   obtain⟨t,ht⟩:=ZG (Vd l);rw[<-ht] at JN;have HT:=Zd ht;clear ht;go_wp2_with fail;refine JN.mono ?_;rintro e w4 ⟨rfl,bd⟩;have bk:=Zd (Zkd bq bd);clear bd;go_wp2;go_ret2;exact⟨Nu HT,Za bk⟩
theorem Ao(a:Option Addr)(cap:Nat)(w:World) :
  ZH 257 #[F a 0 cap] w (cZ #[.string ⟨#[]⟩,E J 0]):=by
 obtain⟨i0,hi,ab,ac,ad⟩:=info_parts Tryz.info9;go_enter func257,ntmps257;go_wp2_with fail;refine (Hd a cap w).mono ?_;rintro e w1 ⟨rfl,rfl⟩
 go_wp2_with (at_make;refine wpList_make_full _ rfl _ _ 22 rfl w.heap.size 9 i0 (.string ⟨#[]⟩) 1 underlying22 hi ab ac .i64 .i64 _ _ 0 rfl rfl rfl rfl (by rw[ad];omega) (by unfold maxLen;omega) (aH _) ?_;intro w2 aa z)
 have Q:Hid (aD w.heap.size w w2):=(Below.refl _ _).grown z (aH _) (λk h=>by cases h);clear aa z;refine wp_loop_rounds 1 ?_;rw[rounds_succ];go_wp2_with fail;refine (Tryz.strings_Join_none _ _ _ _).mono ?_;rintro e w3 ⟨rfl,rfl⟩;go_wp2;go_ret2;exact⟨rfl,Za Q⟩
def prT(l:List (Int×Int)):ByteArray:=if chk l=0 then Vd l else ⟨#[]⟩
theorem E9(a:Option Addr)(len cap:Nat)(l:List (Int×Int))(w:World)(hE:Env w)(Q:OpsAt w a len l) :
  ZH 257 #[F a len cap] w (cZ #[.string (prT l),E J (chk l)]):=by
 unfold prT;by_cases z:chk l=0
 ·rw[if_pos z,z];obtain⟨hz,hc⟩:=Q;by_cases h:len=0
  ·subst h;have e:l=[]:=List.length_eq_zero_iff.1 hz;subst e;exact Ao a cap w
  ·obtain⟨b,off,rfl,aa⟩:=hc (by omega);exact An b off len cap l w hE hz (by omega) z (aF _ _ (aa 0 (by omega)).1) aa
 ·rw[if_neg z];exact E8 a len cap l w Q z
def Ph(v:Int):ByteArray:=⟨(Lib.itoa v).toArray⟩
theorem Zke{a b:ByteArray}(h:a.data.toList=b.data.toList):a=b:=by
 cases a with|mk d=>cases b with|mk e=>cases d;cases e;simp at h;rw[h]
def V9(z:ByteArray)(Z:List Int):ByteArray:=Z.foldl (λt aa=>t++(⟨#[32]⟩++Ph aa)) z
theorem E5(z:ByteArray)(Z:List Int)(aa:Int):V9 z (Z++[aa])=V9 z Z++(⟨#[32]⟩++Ph aa):=by unfold V9;rw[List.foldl_append];rfl
theorem Pg(n:Int)(h : -10000000000<=n/\n<=10000000000):(Ph n).size<=21:=by
 have:=Lib.itoa_length_le n (by omega) (by omega);simpa[Ph,ByteArray.size] using this
theorem Dg(x:ByteArray)(c:UInt8):((⟨#[c]⟩:ByteArray)++x).size=x.size+1:=by rw[ByteArray.size_append];show 1+x.size=_;omega
theorem Ug(x:ByteArray)(c:UInt8):(x++(⟨#[c]⟩:ByteArray)).size=x.size+1:=by rw[ByteArray.size_append];rfl
theorem U1{α : Type}(f : α->ByteArray)(m:Nat):∀ (Z:List α) (t:ByteArray),(∀ z∈Z,(f z).size<=m)->(Z.foldl (λt z=>t++f z) t).size<=t.size+m*Z.length
 | [],t,_=>by simp
 | z :: r,t,h=>by
  have h1:=U1 f m r (t++f z) (λy Q=>h y (by simp[Q]));have h2:=h z (by simp);rw[ByteArray.size_append] at h1;simp only[List.foldl_cons,List.length_cons,Nat.mul_add,Nat.mul_one];omega
theorem Uh(Q:ByteArray)(Z:List Int)(h:∀ z∈Z,-10000000000<=z/\z<=10000000000):(V9 Q Z).size<=Q.size+22*Z.length:=
 U1 (λz=>(⟨#[32]⟩:ByteArray)++Ph z) 22 Z Q (λz hz=>by rw[Dg];have:=Pg z (h z hz);omega)
theorem Ua(z:ByteArray)(b off n c:Nat)(Z:List Int)(w:World)(hE:Env w)(hw:z.size<=10)(hn:n<=6)(hz:Z.length=n)(hl:b<w.heap.size)
  (hc:∀ i,i<n->w.cell? ⟨b,off+i,none⟩=some (E J (Z.getD i 0))) (hr:∀ bh∈Z,-10000000000<=bh/\bh<=10000000000) :
  ZH 105 #[.string z,F (some ⟨b,off,none⟩) n c] w (.string (V9 z Z)):=by
 have HE:=Zd hE;have HC:=Zd hc;have HZ:=Zd hz;have HR:=Zd hr;clear hE hc hz hr;go_enter func105,ntmps105;go_wp2
 go_loopw [5,11] (λs i wr=>∃ k:Nat,k<=n/\i = E J k/\s = .string (V9 z (Z.take k))/\aD w.heap.size w wr) (λ_ i _=>n - (cE i).toNat)
 case atStart=>exact⟨0,aQ _,rfl,rfl,Below.refl _ _⟩
 case round=>
  obtain⟨k,hk,rfl,rfl,hb⟩:=hrel;have HB:=Zd hb;by_cases am:k<n
  ·have ad:k<Z.length:=(by rw[Za HZ];exact am);have c1:=HC k am;rw[<-hb.cell (p:=⟨b,off+k,none⟩) hl] at c1;have e1:Z.getD k 0=Z[k]:=(by simp[ad]);rw[e1] at c1;have ae:=HR Z[k] (bB ad);have hS:=E5 z (Z.take k) Z[k];rw[<-aW ad] at hS
   have az:(V9 z (Z.take k)).size<=200:=by
    have:=Uh z (Z.take k) (λbh hz=>HR bh (List.mem_of_mem_take hz));rw[bL] at this;omega
   obtain⟨bh,hz⟩:=ZF (Z[k]);rw[hz] at c1 ae hS;obtain⟨T,hT⟩:=ZF (V9 z (Z.take k));rw[hT] at hS az ⊢;have HS:=Zd hS;have bd:=Pg bh ae;have be:((⟨#[32]⟩:ByteArray)++Ph bh).size<=22:=by rw[Dg];omega
   have IT:Hid (∀ w,Env w->Calls Tryz.prog 167 #[E J bh] w λe w'=>e = cY (.string (Ph bh))/\aD w.heap.size w w'):=λw hw=>
    (Tryz.strconv_Itoa bh (by omega) (by omega) w hw.tab).mono λe w' ⟨h1,k,os,h2⟩=>⟨h1,by rw[h2];exact Lib.below_grow _ _ (aH _) k os⟩
   have EE:=Zd (HE.later hb);clear hb hz hT hS e1 ae;go_wp2_with fail;refine (IT _ EE).mono ?_;rintro e w3 ⟨rfl,ak⟩;have ar:=Zd (Zf HB ak);clear ak;go_wp2;go_roundw
   case rel=>exact⟨k+1,by omega,by go_num,by rw[Za HS],Za ar⟩
   case measure=>simp[cE];omega
  ·have e:k=n:=(by omega);subst e;have HT:Hid (V9 z (Z.take k)=V9 z Z):=(by show _=_;rw[aL (by rw[Za HZ];exact aH _)]);clear hb;go_wp2;go_ret;exact⟨Cs HT,Za HB⟩
def K7(z:ByteArray)(Z:List Int)(l:List (Int×Int)):ByteArray:=((V9 z Z++⟨#[58]⟩)++Vd l)++⟨#[10]⟩
theorem Jm(l:List (Int×Int))(h:chk l=0):(Vd l).size<=400:=by
 unfold chk at h;split at h
 ·cases h
 ·have:=T6 l (by omega) h;simpa[Vd,ByteArray.size] using this
theorem Gj(z:ByteArray)(Z:List Int)(l:List (Int×Int))(hw:z.size<=10)(hz:Z.length<=2)(hr:∀ ae∈Z,-10000000000<=ae/\ae<=10000000000)(hl:chk l=0):(K7 z Z l).size<=460:=by
 unfold K7;have h1:=Uh z Z hr;have h2:=Jm l hl;rw[Ug,ByteArray.size_append,Ug];have h3:22*Z.length<=44:=by omega
 omega
theorem Rn(a:Option Addr)(len cap:Nat)(l:List (Int×Int))(z:ByteArray)(b off n c:Nat)(Z:List Int)(t:ByteArray)(w:World)(hE:Env w)(hO:OpsAt w a len l)(aa:chk l=0)(hw:z.size<=10)(hn:n<=2)(hz:Z.length=n)(hl:b<w.heap.size)
  (hc:∀ i,i<n->w.cell? ⟨b,off+i,none⟩=some (E J (Z.getD i 0))) (hr:∀ bb∈Z,-10000000000<=bb/\bb<=10000000000) (Q:K7 z Z l=t) :
  ZH 211 #[F a len cap,.string z,F (some ⟨b,off,none⟩) n c] w (.string t):=by
 have PR:=Zd (E9 a len cap l w hE hO);have e:prT l=Vd l:=by unfold prT;rw[if_pos aa]
 rw[e,aa] at PR
 have R:Hid (∀ w',aD w.heap.size w w'->Calls Tryz.prog 105 #[.string z,F (some ⟨b,off,none⟩) n c] w' λe w2=>e = cY (.string (V9 z Z))/\aD w'.heap.size w' w2):=λw' hb=>
  Ua z b off n c Z w' (hE.later hb) hw (by omega) hz (Nat.lt_of_lt_of_le hl hb.size) (λi hi=>by rw[hb.cell (p:=⟨b,off+i,none⟩) hl];exact hc i hi) hr
 have s1:(V9 z Z).size<=54:=by have:=Uh z Z hr;omega
 have s2:=Jm l aa;unfold K7 at Q;obtain⟨A,hA⟩:=ZF (V9 z Z);obtain⟨B,hB⟩:=ZF (Vd l);rw[hA] at R s1 Q;rw[hB] at PR s2 Q;have s3:(A++(⟨#[58]⟩:ByteArray)).size<=55:=by rw[Ug];omega
 have s4:((A++(⟨#[58]⟩:ByteArray))++B).size<=455:=by rw[ByteArray.size_append];omega
 have HT:=Zd Q;clear hE hO aa hz hc hr e hA hB Q;go_enter func211,ntmps211;go_wp2_with fail;refine PR.mono ?_;rintro e w1 ⟨rfl,ah⟩;have ae:=Zd ah;clear ah;go_wp2_with fail;refine (R w1 ae).mono ?_;rintro e w2 ⟨rfl,aj⟩;have ap:=Zd (Zf ae aj);clear aj;go_wp2;go_ret;exact⟨Cs HT,Za ap⟩
def txB:ByteArray:=⟨#[116,120]⟩
def inB:ByteArray:=⟨#[105,110]⟩
def Ziz:ByteArray:=⟨#[111,117,116]⟩
def Vo(h:Int):ByteArray:=V9 txB [h]++⟨#[10]⟩
def Gn(x:InD):ByteArray:=K7 inB [x.1,x.2.1] x.2.2
def Rq(x:Z5):ByteArray:=K7 Ziz [x.1] x.2
def Xe(h:Int)(I:List InD):ByteArray:=I.foldl (λt x=>t++Gn x) (Vo h)
def Xy(t:ByteArray)(O:List Z5):ByteArray:=O.foldl (λt x=>t++Rq x) t
def Z8(t:TxD):ByteArray:=Xy (Xe t.1 t.2.1) t.2.2
theorem L8(h:Int)(I:List InD)(x:InD):Xe h (I++[x])=Xe h I++Gn x:=by unfold Xe;rw[List.foldl_append];rfl
theorem Ht(t:ByteArray)(O:List Z5)(x:Z5):Xy t (O++[x])=Xy t O++Rq x:=by unfold Xy;rw[List.foldl_append];rfl
theorem Jp(h:Int)(Q:0<=h/\h<=1000):(Vo h).size<=30:=by
 unfold Vo;have:=Uh txB [h] (λab z=>by simp at z;omega);rw[Ug];have e:txB.size=2:=rfl;simp only[List.length_cons,List.length_nil] at this;omega
theorem T9(x:InD)(h:Sr x=true/\chk x.2.2=0):(Gn x).size<=460:=by
 have hp:=(N9 x).1 h.1;exact Gj inB [x.1,x.2.1] x.2.2 (by decide) (by simp) (λaa z=>by simp at z;omega) h.2
theorem Rp(x:Z5)(h:(1<=x.1/\x.1<=1000000000)/\chk x.2=0):(Rq x).size<=460:=
 Gj Ziz [x.1] x.2 (by decide) (by simp) (λaa z=>by simp at z;omega) h.2
theorem Ux(h:Int)(I:List InD)(Q:0<=h/\h<=1000)(z:∀ x∈I,Sr x=true/\chk x.2.2=0):(Xe h I).size<=30+460*I.length:=by
 have h1:=U1 Gn 460 I (Vo h) (λx hx=>T9 x (z x hx));have h2:=Jp h Q;have h3:(Xe h I).size<=(Vo h).size+460*I.length:=h1;omega
theorem Jl(t:ByteArray)(O:List Z5)(z:∀ x∈O,(1<=x.1/\x.1<=1000000000)/\chk x.2=0):(Xy t O).size<=t.size+460*O.length:=
 U1 Rq 460 O t (λx hx=>Rp x (z x hx))
theorem Jb(w:World)(x:Value)(t:TypeId):(w.alloc (cW #[x] t)).cell? ⟨w.heap.size,0,none⟩=some x:=by rw[World.cell?_alloc_at _ _ _ _ rfl];rfl
def txT(t:TxD):ByteArray:=if Zv t=0 then Z8 t else ⟨#[]⟩
theorem Nb(h:Int)(ai ao:Option Addr)(ni ci no co:Nat)(I:List InD)(O:List Z5)(x:Int)(w:World)(Q:InsAt w ai ni I)(hO:OutsAt w ao no O)(sI:SlOk ai ni ci)(hx:Zv (h,I,O)=x)(h0:x≠0) :
  ZH 155 #[.agg #[E J h,F ai ni ci,F ao no co]] w (cZ #[.string ⟨#[]⟩,E J x]):=by
 have z:=Zh w (cW #[E J h,F ai ni ci,F ao no co] 59);have HB:=Zd z;have C:=Zd (Ws h ai ao ni ci no co I O _ (Q.later z) (hO.later z) sI);rw[hx] at C;have g:(x != 0)=true:=by simp[h0]
 clear z Q hO sI hx h0;go_enter func155,ntmps155;go_wp2_with fail;refine C.mono ?_;rintro e w2 ⟨rfl,ab⟩;have ae:=Zd (Zf HB ab);clear ab;go_wp2;go_ret2;exact⟨rfl,Za ae⟩
theorem Re(h:Int)(ai ao:Option Addr)(ni ci no co:Nat)(I:List InD)(O:List Z5)(w:World)(hE:Env w)(hI:InsAt w ai ni I)(hO:OutsAt w ao no O)(sI:SlOk ai ni ci)(hx:Zv (h,I,O)=0) :
  ZH 155 #[.agg #[E J h,F ai ni ci,F ao no co]] w (cZ #[.string (Z8 (h,I,O)),E J 0]):=by
 have ok:=TxOk.of hx;have hb:=Zh w (cW #[E J h,F ai ni ci,F ao no co] 59);obtain⟨n0,n1,n2⟩:=Ud w (E J h) (F ai ni ci) (F ao no co) 59;have HB:=Zd hb;have C:=Zd (Ws h ai ao ni ci no co I O _ (hI.later hb) (hO.later hb) sI);rw[hx] at C;have N0:=Zd n0;have N1:=Zd n1;have N2:=Zd n2;have dg:ni<=6:=by have:=ok.ins6;have:=hI.1;simp only at *;omega
 have dn:no<=6:=by have:=ok.outs6;have:=hO.1;simp only at *;omega
 have dp:0<no:=by have:=ok.some;have:=hO.1;simp only at *;omega
 have HI:=Zd hI;have HO:=Zd hO;have HE:=Zd hE;have HG:=Zd ok.hgt;have bk:=Zd ok.ins;have ca:=Zd ok.outs;clear hb hI hO sI hx n0 n1 n2 hE ok;go_enter func155,ntmps155;go_wp2_with fail;refine C.mono ?_;rintro e w2 ⟨rfl,aj⟩;have m0:=Ze aj N0;have M1:=Zd (Ze aj N1);have M2:=Zd (Ze aj N2);have s2:w.heap.size<w2.heap.size:=aF _ _ m0;have bv:=Zf HB aj;have ba:=Zh w2 (cW #[E J h] 3)
 have R:=Zd (Ua txB w2.heap.size 0 1 1 [h] (w2.alloc (cW #[E J h] 3)) (HE.later (Zf bv ba)) (by decide) (by decide) rfl (by simp) (λi hi=>by
  have e:i=0:=by omega
  subst e;exact Jb w2 (E J h) 3) (λdt hz=>by have:=Za HG;simp at hz;omega))
 have cl:=Zd ba;have dk:=Zd aj;have cp:=Zd bv;have hs:=Jp h HG
 have di:(V9 txB [h]).size<=29:=by
  have e:Vo h=V9 txB [h]++⟨#[10]⟩:=rfl;rw[e,Ug] at hs;omega
 obtain⟨T0,bs⟩:=ZF (V9 txB [h]);have cu:Hid (T0++⟨#[10]⟩=Vo h):=by show _=_;rw[<-bs];rfl
 rw[bs] at R di;clear aj bv ba hs bs;go_wp2_with fail;refine R.mono ?_;rintro e w3 ⟨rfl,cc⟩;have bd:=Zf cl cc;have m1:=Ze bd M1;have cz:=Zd (Ze bd M2);have s3:w.heap.size<w3.heap.size:=aF _ _ m1;have cq:=Zd (Zf cp bd);clear cc bd;go_wp2
 go_loopw [5,23] (λs i wr=>∃ k:Nat,k<=ni/\i = E J k/\s = .string (Xe h (I.take k))/\aD w3.heap.size w3 wr) (λ_ i _=>ni - (cE i).toNat)
 case atStart=>exact⟨0,aQ _,rfl,by rw[Za cu];rfl,Below.refl _ _⟩
 case round=>
  obtain⟨k,hk,rfl,rfl,aq⟩:=hrel;have bx:=Zd aq;have be:=Zf cq aq;have cn:=Zd be;by_cases bg:k<ni
  ·have ag:k<I.length:=(by rw[(Za HI).1];exact bg);obtain⟨b,off,rfl,df,au⟩:=(HI.later be).2 (by omega);obtain⟨g1,g2,ka,kn,kc,g3,g4,_⟩:=au k ag;have aa:=bk I[k] (bB ag);have Q:=L8 h (I.take k) I[k];rw[<-aW ag] at Q
   have bu:(Xe h (I.take k)).size<=3000:=by
    have:=Ux h (I.take k) HG (λx hx=>bk x (List.mem_of_mem_take hx));rw[bL] at this;omega
   have an:=T9 I[k] aa;obtain⟨x,hx⟩:=ZF (I[k]);rw[hx] at g1 g2 g4 aa Q an;obtain⟨z,x2,aw⟩:=x;simp only at g1 g2 g3 g4;have hp:=(N9 _).1 aa.1;simp only at hp;obtain⟨T,hT⟩:=ZF (Xe h (I.take k));obtain⟨X,hX⟩:=ZF (Gn (z,x2,aw));rw[hT,hX] at Q;rw[hT] at bu ⊢;rw[hX] at an;have HS:=Zd Q;have b1:=Zh wr (cW #[E J z,E J x2,F ka kn kc] 119);have b2:=Zh (wr.alloc (cW #[E J z,E J x2,F ka kn kc] 119)) (cW #[E J z,E J x2] 3);have ac:=Zf b1 b2;have t2:=Kg (wr.alloc (cW #[E J z,E J x2,F ka kn kc] 119)) (E J z) (E J x2) 3;have al:(wr.alloc (cW #[E J z,E J x2,F ka kn kc] 119)).heap.size=wr.heap.size+1:=(by simp);rw[al] at t2
   have PL:=Zd (Rn ka kn kc aw inB (wr.heap.size+1) 0 2 2 [z,x2] X ((wr.alloc (cW #[E J z,E J x2,F ka kn kc] 119)).alloc (cW #[E J z,E J x2] 3)) ((HE.later be).later ac) (g4.later ac) aa.2 (by decide) (by decide) rfl (by simp) (λi hi=>by
    have e:i=0\/i=1:=by omega
    rcases e with rfl|rfl
    ·exact t2.1
    ·exact t2.2) (λdt hz=>by simp at hz;omega) hX)
   have bh:=Zd ac;clear aq be au g4 aa hx hT hX Q b1 b2 ac t2 al hp;go_wp2_with fail;refine PL.mono ?_;rintro e w4 ⟨rfl,ap⟩;have bi:=Zd (bx.trans ((Zf bh ap).mono bx.size));clear ap;go_wp2;go_roundw
   case rel=>exact⟨k+1,by omega,by go_num,by rw[Za HS],Za bi⟩
   case measure=>simp[cE];omega
  ·have e:k=ni:=(by omega);subst e;have HT:Hid (Xe h (I.take k)=Xe h I):=(by show _=_;rw[aL (by rw[(Za HI).1];exact aH _)]);have bu:=Ux h I HG bk;have dl:I.length<=6:=(by rw[(Za HI).1];exact dg);obtain⟨T1,bt⟩:=ZF (Xe h I);rw[bt] at HT bu;have cw:=Zd bt;have m2:=Ze aq cz;have s4:w.heap.size<wr.heap.size:=aF _ _ m2;rw[Za HT];clear aq bt hk bg;go_wp2
   go_loopw [5,43] (λs i wz=>∃ j:Nat,j<=no/\i = E J j/\s = .string (Xy T1 (O.take j))/\aD wr.heap.size wr wz) (λ_ i _=>no - (cE i).toNat)
   case atStart=>exact⟨0,aQ _,rfl,rfl,Below.refl _ _⟩
   case round=>
    obtain⟨j,hj,rfl,rfl,bf⟩:=hrel;have bz:=Zd bf;have ar:=Zf cn bf;have cm:=Zd ar;by_cases bg:j<no
    ·have ag:j<O.length:=(by rw[(Za HO).1];exact bg);obtain⟨b,off,rfl,df,au⟩:=(HO.later ar).2 (by omega);obtain⟨g1,ka,kn,kc,g3,g4,_⟩:=au j ag;have aa:=ca O[j] (bB ag);have Q:=Ht T1 (O.take j) O[j];rw[<-aW ag] at Q
     have de:(Xy T1 (O.take j)).size<=6000:=by
      have:=Jl T1 (O.take j) (λx hx=>ca x (List.mem_of_mem_take hx));rw[bL] at this;omega
     have an:=Rp O[j] aa;obtain⟨x,hx⟩:=ZF (O[j]);rw[hx] at g1 g4 aa Q an;obtain⟨z,aw⟩:=x;simp only at g1 g3 g4;have hp:=aa.1;simp only at hp;obtain⟨T,hT⟩:=ZF (Xy T1 (O.take j));obtain⟨X,hX⟩:=ZF (Rq (z,aw));rw[hT,hX] at Q;rw[hT] at de ⊢;rw[hX] at an;have HS:=Zd Q;have b1:=Zh wr (cW #[E J z,F ka kn kc] 122);have b2:=Zh (wr.alloc (cW #[E J z,F ka kn kc] 122)) (cW #[E J z] 3);have ac:=Zf b1 b2;have t2:=Jb (wr.alloc (cW #[E J z,F ka kn kc] 122)) (E J z) 3;have al:(wr.alloc (cW #[E J z,F ka kn kc] 122)).heap.size=wr.heap.size+1:=(by simp);rw[al] at t2
     have PL:=Zd (Rn ka kn kc aw Ziz (wr.heap.size+1) 0 1 1 [z] X ((wr.alloc (cW #[E J z,F ka kn kc] 122)).alloc (cW #[E J z] 3)) ((HE.later ar).later ac) (g4.later ac) aa.2 (by decide) (by decide) rfl (by simp) (λi hi=>by
      have e:i=0:=(by omega);subst e;exact t2) (λdt hz=>by simp at hz;omega) hX)
     have bh:=Zd ac;clear bf ar au g4 aa hx hT hX Q b1 b2 ac t2 al hp;go_wp2_with fail;refine PL.mono ?_;rintro e w4 ⟨rfl,ap⟩;have bi:=Zd (bz.trans ((Zf bh ap).mono bz.size));clear ap;go_wp2;go_roundw
     case rel=>exact⟨j+1,by omega,by go_num,by rw[Za HS],Za bi⟩
     case measure=>simp[cE];omega
    ·have HF:Hid (Xy T1 (O.take j)=Z8 (h,I,O)):=by
      show _=_;rw[aL (by rw[(Za HO).1];omega),<-Za cw];rfl
     clear bf ar;go_wp2;go_ret2;exact⟨Nu HF,Za cm⟩
theorem Pe(h:Int)(ai ao:Option Addr)(ni ci no co:Nat)(I:List InD)(O:List Z5)(t:ByteArray)(x:Int)(w:World)(hE:Env w)(z:InsAt w ai ni I)(Q:OutsAt w ao no O)(sI:SlOk ai ni ci)(hx:Zv (h,I,O)=x)(ht:txT (h,I,O)=t) :
  ZH 155 #[.agg #[E J h,F ai ni ci,F ao no co]] w (cZ #[.string t,E J x]):=by
 subst ht;by_cases h0:Zv (h,I,O)=0
 ·rw[h0] at hx;subst hx;unfold txT;rw[if_pos h0];exact Re h ai ao ni ci no co I O w hE z Q sI h0
 ·unfold txT;rw[if_neg h0];exact Nb h ai ao ni ci no co I O x w z Q sI hx (by rw[<-hx];exact h0)
def blockB:ByteArray:=⟨#[98,108,111,99,107]⟩
def Xx:List TxD->ByteArray
 | []=>⟨#[]⟩
 | t :: r=>Z8 t++Xx r
def Wb(b:Zl):ByteArray:=(V9 blockB [b.1,b.2.1,b.2.2.1,b.2.2.2.1]++⟨#[10]⟩)++Xx b.2.2.2.2
def Fy(b:Zl):ByteArray:=if Yn b=0 then Wb b else ⟨#[]⟩
theorem Uo(h:Int):∀ (i:Nat) (T:List TxD),Xh h i T=0->∀ t∈T,Zv t=0
 | _,[],_,t,z=>by cases z
 | i,x :: r,e,t,z=>by
  unfold Xh at e;split at e
  ·rename_i q;exact absurd e q
  ·rename_i q;split at e
   ·cases e
   ·rcases List.mem_cons.1 z with rfl|z
    ·exact Classical.not_not.1 q
    ·exact Uo h (i+1) r e t z
theorem Ld{p h k n:Int}(e:Wk p h k n=true):0<=p/\p<=120/\1<=h/\h<=1000/\1<=k/\k<=1000/\0<=n/\n<=1000000000:=by
 unfold Wk at e;rw[bW,bW,bW,bW,bW,bW,bW] at e;obtain⟨⟨a,b⟩,⟨c,d⟩,⟨e,f⟩,g,h⟩:=e;exact⟨of_decide_eq_true a,of_decide_eq_true b,of_decide_eq_true c,of_decide_eq_true d,of_decide_eq_true e,of_decide_eq_true f,of_decide_eq_true g,of_decide_eq_true h⟩
theorem Vg{p h k n:Int}{T:List TxD}(e:Yn (p,h,k,n,T)=0):Wk p h k n=true/\0<T.length/\T.length<=4/\Xh h 0 T=0/\(∀ t∈T,Zv t=0):=by
 unfold Yn at e;simp only at e;split at e
 ·cases e
 rename_i z;split at e
 ·cases e
 rename_i Q;split at e
 ·cases e
 rename_i q3;exact⟨by cases q:Wk p h k n with|true=>rfl|false=>exact absurd q z,by omega,by omega,e,Uo h 0 T e⟩
theorem Qa{α : Type}:∀ (L:List (List α)),([]:List α).intercalate L=L.flatten
 | []=>rfl
 | [x]=>by simp[List.intercalate]
 | x :: y :: r=>by
  have:=Qa (y :: r);simp[List.intercalate] at this ⊢;exact this
theorem Na(t:TxD)(h:Zv t=0):(Z8 t).size<=6000:=by
 have ok:=TxOk.of h;have h1:=Jl (Xe t.1 t.2.1) t.2.2 ok.outs;have h2:=Ux t.1 t.2.1 ok.hgt ok.ins;have h3:=ok.ins6;have h4:=ok.outs6;unfold Z8;omega
theorem Rc:∀ (T:List TxD),(∀ t∈T,Zv t=0)->(Xx T).size<=6000*T.length
 | [],_=>by simp[Xx];rfl
 | t :: r,h=>by
  have h1:=Na t (h t (List.mem_cons_self ..));have h2:=Rc r (λx hx=>h x (List.mem_cons_of_mem _ hx));rw[Xx,ByteArray.size_append,List.length_cons];omega
theorem Rd:∀ (T:List TxD),(Xx T).data.toList=((T.map Z8).map (·.data.toList)).flatten
 | []=>rfl
 | t :: r=>by
  rw[Xx,ByteArray.data_append,Array.toList_append,Rd r];rfl
theorem K9(T:List TxD):(⟨(Lib.join ((T.map Z8).map (·.data.toList)) []).toArray⟩:ByteArray)=Xx T:=by
 refine Zke ?_;rw[Rd];show Lib.join _ _=_;unfold Lib.join;exact Qa _
def txV(T:List TxD)(i:Nat):Value:=.string (Z8 (T.getD i (0,[],[])))
theorem Qk(b off m c:Nat)(T:List TxD)(w:World)(hE:Env w)(hz:T.length=m)(hm:m<=4)(ar:∀ t∈T,Zv t=0)(hc:∀ i (h:i<T.length),TxAt w b (off+i*3) T[i]) :
  Calls Tryz.prog 87 #[F (some ⟨b,off,none⟩) m c] w λe w'=>e = cY (F (some ⟨w.heap.size,0,none⟩) m m)/\FillV w.heap.size 9 m (txV T) w w' m:=by
 obtain⟨i0,hi,bs,bt,bu⟩:=info_parts Tryz.info9;have HE:=Zd hE;have HC:=Zd hc;have HZ:=Zd hz;have HK:=Zd ar;clear hE hc hz ar;go_enter func87,ntmps87
 go_wp2_with (at_make;refine wpList_make_full _ rfl _ _ 22 rfl w.heap.size 9 i0 (.string ⟨#[]⟩) 1 underlying22 hi bs bt .i64 .i64 _ _ m rfl rfl rfl rfl (by rw[bu];omega) (by unfold maxLen;omega) (aH _) ?_;intro w2 ax au)
 have ay:FillV w.heap.size 9 m (txV T) w w2 0:=⟨⟨_,ax,λj hj=>absurd hj (by omega)⟩,(Below.refl _ _).grown au (aH _) (λk h=>by cases h)⟩;have bj:=Zd ay;clear ay ax au
 go_loopw [11] (λi wr=>∃ k:Nat,k<=m/\i = E J k/\FillV w.heap.size 9 m (txV T) w wr k) (λi _=>m - (cE i).toNat)
 case atStart=>exact⟨0,aQ _,rfl,Za bj⟩
 case round=>
  obtain⟨k,hk,rfl,ad⟩:=hrel;have HF:=Zd ad;have aa:aD w.heap.size w wr:=ad.bel;have cc:=Zd aa;by_cases ae:k<m
  ·have aw:k<T.length:=(by rw[Za HZ];exact ae);have av:=TxAt.kept _ _ _ _ _ aa (HC k aw);have hx:=HK T[k] (bB _);have HQ:Hid (T.getD k (0,[],[])=T[k]):=(by show _=_;simp[aw]);obtain⟨t,ht⟩:=ZF (T[k]);rw[ht] at av hx HQ;obtain⟨t1,I,O⟩:=t;obtain⟨g0,⟨ai,ni,ci,g1,hI,sI⟩,ao,no,co,g2,hO,_⟩:=av;simp only at g0 g1 g2 hI hO;obtain⟨Y,hY⟩:=ZG (wr.alloc (cW #[E J t1,F ai ni ci,F ao no co] 59));have Q:aD wr.heap.size wr Y:=(by rw[hY];exact Zh _ _);have z:Y.heap[wr.heap.size]? = some (cW [E J t1,F ai ni ci,F ao no co].toArray 59 (0,0)):=(by rw[hY];exact Zw _ _ _ _ _);have y0:=Zb z 0 _ rfl;have y1:=Zb z 1 _ rfl;have y2:=Zb z 2 _ rfl;have yl:=lt_of_block z;have PO:=Zd (Re t1 ai ao ni ci no co I O Y (HE.later (Zf aa Q)) (hI.later Q) (hO.later Q) sI hx);obtain⟨x,aj⟩:=ZG (Z8 (t1,I,O));rw[<-aj] at PO;have HX:=Zd aj;have be:=Zd Q;clear ad aa ht hx z Q hI hO sI aj;go_wp2_with fail;rw[<-hY];clear hY;go_wp2_with fail;refine PO.mono ?_;rintro e w3 ⟨rfl,ap⟩;have ab:=(HF.keep be).keep ap;obtain⟨v,cg⟩:=ab.old ae;have cd:=ab.free k;have ce:=ab.lt;have bh:=Zd ab;clear ap ab y0 y1 y2 yl g0 g1 g2;go_wp2;go_roundw
   case rel=>
    refine⟨k+1,by omega,by go_num,bh.step ae ?_⟩;show Value.string x=txV T k;unfold txV;rw[Za HX,Za HQ]
   case measure=>simp[cE];omega
  ·clear ad aa;have e:k=m:=(by omega);subst e;clear hk ae;go_wp2;go_ret;exact⟨rfl,Za HF⟩
