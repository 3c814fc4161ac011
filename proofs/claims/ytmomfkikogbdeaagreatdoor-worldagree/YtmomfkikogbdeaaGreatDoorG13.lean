import Derived.Test.YtmomfkikogbdeaaGreatDoorH
import Derived.Lib.AppendIntMem
import Derived.Lib.ItoaLen
import Derived.Lib.SmallJoins
import Derived.Lib.AtoiAll
import Derived.Test.YtmomfkikogbdeaaGreatDoorG12
open Go.Proofs.Tryz
open Bool renaming and_eq_true->cG
open Go.Ending renaming returned->dF
open Go.IntKind renaming i64->J
open Go.Obj renaming cells->dE
open Go.Value renaming int->E,slice->F,tuple->dG
open Go.World renaming block_lt_of_cell?->aE
open List renaming map_cons->bY,getElem_mem->bE,take_succ_eq_append_getElem->bA,length_take->bI,take_of_length_le->aS
open Nat renaming le_refl->aF,zero_le->aI
set_option maxHeartbeats 6400000
set_option maxRecDepth 10000
namespace Go.Proofs.YtmomfkikogbdeaaGreatDoor
open Go.RowKit
def namesL:List ByteArray:=[⟨#[]⟩,⟨#[]⟩,⟨#[100,117,112]⟩,⟨#[115,119,97,112]⟩,⟨#[100,114,111,112]⟩,⟨#[97,100,100]⟩,⟨#[115,117,98]⟩,⟨#[115,97,109,101]⟩,⟨#[108,101,115,115]⟩,⟨#[110,111,116]⟩,⟨#[97,110,100]⟩,⟨#[118,101,114,105,102,121]⟩,⟨#[104,101,105,103,104,116]⟩,⟨#[109,105,120]⟩]
def Vp(k:Nat):ByteArray:=namesL.getD k ⟨#[]⟩
def Zbk:Array Value:=(namesL.map Value.string).toArray
def Yi(o:Int×Int):ByteArray:=if o.1=1 then ⟨(Lib.itoa o.2).toArray⟩ else Vp o.1.toNat
def Zv(l:List (Int×Int)):ByteArray:=⟨(Lib.join ((l.map Yi).map (·.data.toList)) [32]).toArray⟩
structure Env(w:World):Prop where
 tab:Lib.TabIs Tryz.prog w "internal/strconv.uint64pow10" .u64 Lib.pow10Tab
 nam:w.var? Tryz.prog "cairn/lock.names" = some Zbk
theorem Tryz.gTab:Tryz.prog.globalNamed "internal/strconv.uint64pow10" = some 2:=by kernel_rfl
theorem Tryz.gNam:Tryz.prog.globalNamed "cairn/lock.names" = some 1:=by kernel_rfl
theorem Env.later{w w':World}(h:Env w)(hb:ZD w w'):Env w':=
 ⟨Joins.var_stays Tryz.gTab h.tab hb (aF _),Joins.var_stays Tryz.gNam h.nam hb (aF _)⟩
theorem Env.name{w:World}(h:Env w)(k:Nat)(hk:k<14):w.cell? ⟨1,k,none⟩=some (.string (Vp k)):=by
 have:=World.var?_cell Tryz.gNam h.nam k;rw[this];have hl:k<namesL.length:=hk;simp[Zbk,Vp,hl]
theorem Env.lt{w:World}(h:Env w):1<w.heap.size:=aE _ _ (h.name 0 (by decide))
theorem Zdq{a b:ByteArray}(h:a=b):Ending.returned (.string a) = dF (.string b):=by rw[h]
theorem Kf(k n:Int)(w:World)(hE:Env w)(hc:Xp (k,n)=0) :
  ZH 286 #[.agg #[E J k,E J n]] w (.string (Yi (k,n))):=by
 have hb:ZD w (w.alloc (dE #[E J k,E J n] 164)):=(Below.refl _ _).alloc (aF _) _;obtain⟨HB,HE⟩:=kh2 hb hE;by_cases h1:k=1
 ·subst h1
  have hn : -1000000<=n/\n<=1000000:=by
   have:fit n=true:=by
    simp only[Xp] at hc;cases h:fit n with
    | true=>rfl
    | false=>simp[h] at hc
   exact (V7 n).1 this
  have g0 : -9223372036854775808<=n:=by omega
  have g1:n<=9223372036854775807:=by omega
  have e:Yi (1,n)=⟨(Lib.itoa n).toArray⟩:=by simp[Yi]
  rw[e];have HT:=Zd (hE.later hb).tab;clear hE hc hb e hn;go_enter func286,ntmps286;go_wp2_with fail;refine (Tryz.strconv_Itoa n g0 g1 _ HT).mono ?_;rintro e w1 ⟨rfl,k,os,rfl⟩;have ad:=Zd (HB.trans ((Lib.below_grow _ _ (aF _) k os).mono HB.size));go_wp2;go_ret;exact⟨rfl,Za ad⟩
 ·have hk:1<=k/\k<=13:=by
   simp only[Xp] at hc;split at hc
   ·cases hc
   ·omega
  obtain⟨m,rfl⟩:=Int.eq_ofNat_of_zero_le (show 0<=k by omega);have e:Yi ((m:Int),n)=Vp m:=by simp[Yi];intro h;omega
  have c1:=hE.name m (by omega);have hl:=hE.lt;have g1:((m:Int) == 1)=false:=by simp;omega
  have g2:(m:Int)<14:=by omega
  rw[e];obtain⟨x,hx⟩:=ZG (Vp m);rw[<-hx] at c1 ⊢;clear hE hc hb e h1 hk hx;go_enter func286,ntmps286;go_wp2;go_ret;exact⟨rfl,Za HB⟩
theorem Bf{a b:ByteArray}{v}(h:a=b):Ending.returned (dG #[.string a,v]) = dF (dG #[.string b,v]):=by rw[h]
theorem Tryz.info9:(Tryz.prog.info? 9).map (λi=>(i.zero,i.size,i.bytes))=some (some (.string ⟨#[]⟩),1,16):=by kernel_rfl
theorem Zbc(o:Int×Int)(h:Xp o=0):(Yi o).data.toList.length<=21:=by
 obtain⟨k,n⟩:=o;unfold Yi;split
 ·rename_i h1;have h1:k=1:=h1;subst h1
  have hn : -1000000<=n/\n<=1000000:=by
   have:fit n=true:=by
    simp only[Xp] at h;cases hf:fit n with
    | true=>rfl
    | false=>simp[hf] at h
   exact (V7 n).1 this
  simpa using Lib.itoa_length_le n (by omega) (by omega)
 ·have hk:1<=k/\k<=13:=by
   simp only[Xp] at h;split at h
   ·cases h
   ·omega
  show (Vp k.toNat).data.toList.length<=21;have aa:k.toNat<14:=by omega
  have all:∀ j:Fin 14,(Vp j.val).data.toList.length<=21:=by decide
  exact all ⟨k.toNat,aa⟩
theorem Zdy:∀ (xs:List (List UInt8)),(∀ x∈xs,x.length<=21)->Lib.lens xs<=21*xs.length
 | [],_=>by simp[Lib.lens]
 | x :: r,h=>by
  have h1:=h x (by simp);have h2:=Zdy r (λy hy=>h y (by simp[hy]));simp only[Lib.lens,List.length_cons] at h2 ⊢;simp at h2 ⊢;omega
theorem Jq(l:List (Int×Int))(h16:l.length<=16)(h:U5 l=0):(Lib.join ((l.map Yi).map (·.data.toList)) [32]).length<=400:=by
 cases l with
 | nil=>simp[Lib.join_nil]
 | cons o r=>
  rw[bY,bY,Lib.join_length]
  have hl:=Zdy (((o :: r).map Yi).map (·.data.toList)) (λx hx=>by
   simp only[List.map_map,List.mem_map,Function.comp] at hx;obtain⟨q,hq,rfl⟩:=hx;obtain⟨i,hi,rfl⟩:=List.getElem_of_mem hq;exact Zbc _ (Qk h i hi))
  simp only[bY,List.length_cons,List.length_map,List.length_nil] at hl h16 ⊢;omega
theorem Zfo(a len cap l)(w:World)(hO:OpsAt w a len l)(hc:chk l≠0) :
  ZH 257 #[F a len cap] w (dG #[.string ⟨#[]⟩,E J (chk l)]):=by
 have CK:=Zd (V9 a len cap l w hO);obtain⟨x,hx⟩:=ZG (chk l);rw[<-hx] at hc CK ⊢;have af:(x != 0)=true:=by simp[hc]
 clear hO hc hx;go_enter func257,ntmps257;go_wp2_with fail;refine CK.mono ?_;rintro e w1 ⟨rfl,ad⟩;have ae:=Zd ad;clear ad;go_wp2;go_ret2;exact⟨rfl,Za ae⟩
def Zdb(l:List (Int×Int))(j:Nat):Value:=.string (Yi (l.getD j (0,0)))
theorem Zax(b off len cap:Nat)(l:List (Int×Int))(w:World)(hE:Env w)(hz:l.length=len)(ct:0<len)(aa:chk l=0)(bh:b<w.heap.size)
  (hc:∀ i,i<len->w.cell? ⟨b,off+i*2,none⟩=some (E J (l.getD i (0,0)).1)/\w.cell? ⟨b,off+i*2+1,none⟩=some (E J (l.getD i (0,0)).2)) :
  ZH 257 #[F (some ⟨b,off,none⟩) len cap] w (dG #[.string (Zv l),E J 0]):=by
 obtain⟨i0,hi,cj,cl,cm⟩:=info_parts Tryz.info9
 have h16:len<=16:=by
  unfold chk at aa;split at aa
  ·cases aa
  ·omega
 have aq:U5 l=0:=by
  unfold chk at aa;split at aa
  ·cases aa
  ·exact aa
 obtain⟨HK,ce,CK⟩:=kh3 (Qk aq) (Jq l (by omega) aq) (V9 (some ⟨b,off,none⟩) len cap l w ⟨hz,λ_=>⟨b,off,rfl,hc⟩⟩);rw[aa] at CK;obtain⟨HE,HC,HZ⟩:=kh3 hE hc hz;clear hE hc hz aa aq;go_enter func257,ntmps257;go_wp2_with fail;refine CK.mono ?_;rintro e w1 ⟨rfl,be⟩;have az:=Zd be;clear be
 go_wp2_with (at_make;refine wpList_make_full _ rfl _ _ 22 rfl w1.heap.size 9 i0 (.string ⟨#[]⟩) 1 underlying22 hi cj cl .i64 .i64 _ _ len rfl rfl rfl rfl (by rw[cm];omega) (by unfold maxLen;omega) (aF _) ?_;intro w2 bk bi)
 have bq:FillV w1.heap.size 9 len (Zdb l) w1 w2 0:=⟨⟨_,bk,λj hj=>absurd hj (by omega)⟩,(Below.refl _ _).grown bi (aF _) (λk h=>by cases h)⟩;have cc:=Zd bq;clear bq bk bi
 go_loopw [18] (λi wr=>∃ k:Nat,k<=len/\i = E J k/\FillV w1.heap.size 9 len (Zdb l) w1 wr k) (λi _=>len - (intOf i).toNat)
 case atStart=>exact⟨0,aI _,rfl,Za cc⟩
 case round=>
  obtain⟨k,hk,rfl,ah⟩:=hrel;have HF:=Zd ah;have ac:ZD w wr:=az.trans (ah.bel.mono az.size);have bt:=Zd ac;by_cases ae:k<len
  ·have bj:k<l.length:=(by rw[Za HZ];exact ae);obtain⟨c1,c2⟩:=HC k ae;rw[<-ac.cell (p:=⟨b,off+k*2,none⟩) bh] at c1;rw[<-ac.cell (p:=⟨b,off+k*2+1,none⟩) bh] at c2;obtain⟨q,hq⟩:=ZG (l.getD k (0,0));rw[<-hq] at c1 c2;have bo:q=l[k]:=(by rw[hq];simp[bj]);have au:=HK k bj;rw[<-bo] at au;have HQ:=Zd hq;obtain⟨kd,n⟩:=q;have an:ZD wr (wr.alloc (dE #[E J kd,E J n] 164)):=(Below.refl _ _).alloc (aF _) _;have PO:=Zd (Kf kd n _ ((HE.later ac).later an) au);obtain⟨x,hx⟩:=ZG (Yi (kd,n));rw[<-hx] at PO;obtain⟨HX,bs⟩:=kh2 hx an;clear ah ac hq bo au hx an;go_wp2_with fail;refine PO.mono ?_;rintro e w3 ⟨rfl,bf⟩;have ag:=(HF.keep bs).keep bf;obtain⟨v,cq⟩:=ag.old ae;have cp:=ag.free k;have bx:=Zd ag;clear bf ag;go_wp2;go_roundw
   case rel=>
    refine⟨k+1,by omega,by go_num,bx.step ae ?_⟩;show Value.string x=Zdb l k;rw[Za HX,Za HQ];rfl
   case measure=>simp[intOf];omega
  ·clear ah ac;have e:k=len:=(by omega);subst e;clear hk ae
   have HJ:Hid (∀ (j:Nat) x,(l.map Yi)[j]? = some x->wr.cell? ⟨w1.heap.size,0+j,none⟩=some (.string x)):=λj x hj=>by
    have ar:j<l.length:=by
     rcases Nat.lt_or_ge j l.length with h|h
     ·exact h
     ·rw[List.getElem?_eq_none (by simpa using h)] at hj;cases hj
    rw[Nat.zero_add,(Za HF).cells (aF _) j (by rw[<-Za HZ];exact ar)];simp[ar] at hj;simp[Zdb,ar,hj]
   have HL:Hid ((l.map Yi).length=k):=(by rw[List.length_map];exact Za HZ);have JN:=Zd (Tryz.strings_Join w1.heap.size 0 k (l.map Yi) ⟨#[32]⟩ wr HJ HF.lt (by rw[Za HL];omega) (by rw[Za HL];exact aF _) (Nat.le_trans ce (by decide)));rw[Za HL] at JN
   change Hid (Calls _ _ _ _ λe w'=>e = dF (.string (Zv l))/\_) at JN
   obtain⟨t,ht⟩:=ZG (Zv l);rw[<-ht] at JN;have HT:=Zd ht;clear ht;go_wp2_with fail;refine JN.mono ?_;rintro e w4 ⟨rfl,bg⟩;have br:=Zd (Zrl bt bg);clear bg;go_wp2;go_ret2;exact⟨Bf HT,Za br⟩
theorem Zay(a cap)(w:World) :
  ZH 257 #[F a 0 cap] w (dG #[.string ⟨#[]⟩,E J 0]):=by
 obtain⟨i0,hi,ad,ae,af⟩:=info_parts Tryz.info9;go_enter func257,ntmps257;go_wp2_with fail;refine (L4 a cap w).mono ?_;rintro e w1 ⟨rfl,rfl⟩
 go_wp2_with (at_make;refine wpList_make_full _ rfl _ _ 22 rfl w.heap.size 9 i0 (.string ⟨#[]⟩) 1 underlying22 hi ad ae .i64 .i64 _ _ 0 rfl rfl rfl rfl (by rw[af];omega) (by unfold maxLen;omega) (aF _) ?_;intro w2 ac aa)
 have HB:Hid (ZD w w2):=(Below.refl _ _).grown aa (aF _) (λk h=>by cases h);clear ac aa;refine wp_loop_rounds 1 ?_;rw[rounds_succ];go_wp2_with fail;refine (Tryz.strings_Join_none _ _ _ _).mono ?_;rintro e w3 ⟨rfl,rfl⟩;go_wp2;go_ret2;exact⟨rfl,Za HB⟩
def prT(l:List (Int×Int)):ByteArray:=if chk l=0 then Zv l else ⟨#[]⟩
theorem Zfp(a len cap l)(w:World)(hE:Env w)(hO:OpsAt w a len l) :
  ZH 257 #[F a len cap] w (dG #[.string (prT l),E J (chk l)]):=by
 unfold prT;by_cases aa:chk l=0
 ·rw[if_pos aa,aa];obtain⟨hz,hc⟩:=hO;by_cases h:len=0
  ·subst h;have e:l=[]:=List.length_eq_zero_iff.1 hz;subst e;exact Zay a cap w
  ·obtain⟨b,off,rfl,ac⟩:=hc (by omega);exact Zax b off len cap l w hE hz (by omega) aa (aE _ _ (ac 0 (by omega)).1) ac
 ·rw[if_neg aa];exact Zfo a len cap l w hO aa
def Xj(v:Int):ByteArray:=⟨(Lib.itoa v).toArray⟩
def Rt(s:ByteArray):Option Int:=
 match Lib.atoiAll s.data.toList with
 | .ok v=>if (Xj v).toList=s.toList then some v else none
 | _=>none
theorem Zcv{a b:ByteArray}(h:a.data.toList=b.data.toList):a=b:=by
 cases a with|mk d=>cases b with|mk e=>cases d;cases e;simp at h;rw[h]
def Yt(aa:ByteArray)(Z:List Int):ByteArray:=Z.foldl (λt z=>t++(⟨#[32]⟩++Xj z)) aa
theorem Zfk(aa:ByteArray)(Z)(z:Int):Yt aa (Z++[z])=Yt aa Z++(⟨#[32]⟩++Xj z):=by unfold Yt;rw[List.foldl_append];rfl
theorem Hp(n:Int)(h : -10000000000<=n/\n<=10000000000):(Xj n).size<=21:=by
 have:=Lib.itoa_length_le n (by omega) (by omega);simpa[Xj,ByteArray.size] using this
theorem Bx(x:ByteArray)(c:UInt8):((⟨#[c]⟩:ByteArray)++x).size=x.size+1:=by rw[ByteArray.size_append];show 1+x.size=_;omega
theorem Ue(x:ByteArray)(c:UInt8):(x++(⟨#[c]⟩:ByteArray)).size=x.size+1:=by rw[ByteArray.size_append];rfl
theorem Qy{α : Type}(f : α->ByteArray)(m:Nat):∀ (Z:List α) (t:ByteArray),(∀ z∈Z,(f z).size<=m)->(Z.foldl (λt z=>t++f z) t).size<=t.size+m*Z.length
 | [],t,_=>by simp
 | z :: r,t,h=>by
  have h1:=Qy f m r (t++f z) (λy hy=>h y (by simp[hy]));have h2:=h z (by simp);rw[ByteArray.size_append] at h1;simp only[List.foldl_cons,List.length_cons,Nat.mul_add,Nat.mul_one];omega
theorem Qc(aa:ByteArray)(Z:List Int)(h:∀ z∈Z,-10000000000<=z/\z<=10000000000):(Yt aa Z).size<=aa.size+22*Z.length:=
 Qy (λz=>(⟨#[32]⟩:ByteArray)++Xj z) 22 Z aa (λz hz=>by rw[Bx];have:=Hp z (h z hz);omega)
theorem U4(aa:ByteArray)(b off n c:Nat)(Z:List Int)(w:World)(hE:Env w)(hw:aa.size<=10)(hn:n<=6)(hz:Z.length=n)(hl:b<w.heap.size)
  (hc:∀ i,i<n->w.cell? ⟨b,off+i,none⟩=some (E J (Z.getD i 0))) (hr:∀ z∈Z,-10000000000<=z/\z<=10000000000) :
  ZH 105 #[.string aa,F (some ⟨b,off,none⟩) n c] w (.string (Yt aa Z)):=by
 obtain⟨HE,HC,HZ,HR⟩:=kh4 hE hc hz hr;clear hE hc hz hr;go_enter func105,ntmps105;go_wp2
 go_loopw [5,11] (λs i wr=>∃ k:Nat,k<=n/\i = E J k/\s = .string (Yt aa (Z.take k))/\ZD w wr) (λ_ i _=>n - (intOf i).toNat)
 case atStart=>exact⟨0,aI _,rfl,rfl,Below.refl _ _⟩
 case round=>
  obtain⟨k,hk,rfl,rfl,hb⟩:=hrel;have HB:=Zd hb;by_cases ap:k<n
  ·have ae:k<Z.length:=(by rw[Za HZ];exact ap);have c1:=HC k ap;rw[<-hb.cell (p:=⟨b,off+k,none⟩) hl] at c1;have e1:Z.getD k 0=Z[k]:=(by simp[ae]);rw[e1] at c1;have af:=HR Z[k] (bE ae);have hS:=Zfk aa (Z.take k) Z[k];rw[<-bA ae] at hS
   have bd:(Yt aa (Z.take k)).size<=200:=by
    have:=Qc aa (Z.take k) (λz hz=>HR z (List.mem_of_mem_take hz));rw[bI] at this;omega
   obtain⟨z,hz⟩:=ZF (Z[k]);rw[hz] at c1 af hS;obtain⟨T,hT⟩:=ZF (Yt aa (Z.take k));rw[hT] at hS bd ⊢;have HS:=Zd hS;have bf:=Hp z af;have bg:((⟨#[32]⟩:ByteArray)++Xj z).size<=22:=by rw[Bx];omega
   have IT:Hid (∀ w,Env w->Calls Tryz.prog 167 #[E J z] w λe w'=>e = dF (.string (Xj z))/\ZD w w'):=λw hw=>
    (Tryz.strconv_Itoa z (by omega) (by omega) w hw.tab).mono λe w' ⟨h1,k,os,h2⟩=>⟨h1,by rw[h2];exact Lib.below_grow _ _ (aF _) k os⟩
   have EE:=Zd (HE.later hb);clear hb hz hT hS e1 af;go_wp2_with fail;refine (IT _ EE).mono ?_;rintro e w3 ⟨rfl,am⟩;have av:=Zd (Zf HB am);clear am;go_wp2;go_roundw
   case rel=>exact⟨k+1,by omega,by go_num,by rw[Za HS],Za av⟩
   case measure=>simp[intOf];omega
  ·have e:k=n:=(by omega);subst e;have HT:Hid (Yt aa (Z.take k)=Yt aa Z):=(by show _=_;rw[aS (by rw[Za HZ];exact aF _)]);clear hb;go_wp2;go_ret;exact⟨Zdq HT,Za HB⟩
def Ny(aa:ByteArray)(Z:List Int)(l:List (Int×Int)):ByteArray:=((Yt aa Z++⟨#[58]⟩)++Zv l)++⟨#[10]⟩
theorem Rr(l)(h:chk l=0):(Zv l).size<=400:=by
 unfold chk at h;split at h
 ·cases h
 ·have:=Jq l (by omega) h;simpa[Zv,ByteArray.size] using this
theorem K9(aa:ByteArray)(Z:List Int)(l)(hw:aa.size<=10)(hz:Z.length<=2)(hr:∀ z∈Z,-10000000000<=z/\z<=10000000000)(hl:chk l=0):(Ny aa Z l).size<=460:=by
 unfold Ny;have h1:=Qc aa Z hr;have h2:=Rr l hl;rw[Ue,ByteArray.size_append,Ue];have h3:22*Z.length<=44:=by omega
 omega
theorem Sa(a len cap l)(aa:ByteArray)(b off n c:Nat)(Z:List Int)(t:ByteArray)(w:World)(hE:Env w)(hO:OpsAt w a len l)(ac:chk l=0)(hw:aa.size<=10)(hn:n<=2)(hz:Z.length=n)(hl:b<w.heap.size)
  (hc:∀ i,i<n->w.cell? ⟨b,off+i,none⟩=some (E J (Z.getD i 0))) (hr:∀ z∈Z,-10000000000<=z/\z<=10000000000) (ht:Ny aa Z l=t) :
  ZH 211 #[F a len cap,.string aa,F (some ⟨b,off,none⟩) n c] w (.string t):=by
 have PR:=Zd (Zfp a len cap l w hE hO);have e:prT l=Zv l:=by unfold prT;rw[if_pos ac]
 rw[e,ac] at PR
 have R:Hid (∀ w',ZD w w'->Calls Tryz.prog 105 #[.string aa,F (some ⟨b,off,none⟩) n c] w' λe w2=>e = dF (.string (Yt aa Z))/\ZD w' w2):=λw' hb=>
  U4 aa b off n c Z w' (hE.later hb) hw (by omega) hz (Nat.lt_of_lt_of_le hl hb.size) (λi hi=>by rw[hb.cell (p:=⟨b,off+i,none⟩) hl];exact hc i hi) hr
 have s1:(Yt aa Z).size<=54:=by have:=Qc aa Z hr;omega
 have s2:=Rr l ac;unfold Ny at ht;obtain⟨A,hA⟩:=ZF (Yt aa Z);obtain⟨B,hB⟩:=ZF (Zv l);rw[hA] at R s1 ht;rw[hB] at PR s2 ht;have s3:(A++(⟨#[58]⟩:ByteArray)).size<=55:=by rw[Ue];omega
 have s4:((A++(⟨#[58]⟩:ByteArray))++B).size<=455:=by rw[ByteArray.size_append];omega
 have HT:=Zd ht;clear hE hO ac hz hc hr e hA hB ht;go_enter func211,ntmps211;go_wp2_with fail;refine PR.mono ?_;rintro e w1 ⟨rfl,ak⟩;have ag:=Zd ak;clear ak;go_wp2_with fail;refine (R w1 ag).mono ?_;rintro e w2 ⟨rfl,am⟩;have ar:=Zd (Zf ag am);clear am;go_wp2;go_ret;exact⟨Zdq HT,Za ar⟩
def txB:ByteArray:=⟨#[116,120]⟩
def inB:ByteArray:=⟨#[105,110]⟩
def outB:ByteArray:=⟨#[111,117,116]⟩
def Vs(h:Int):ByteArray:=Yt txB [h]++⟨#[10]⟩
def Lg(x:InD):ByteArray:=Ny inB [x.1,x.2.1] x.2.2
def Se(x:Z3):ByteArray:=Ny outB [x.1] x.2
def Y3(h:Int)(I:List InD):ByteArray:=I.foldl (λt x=>t++Lg x) (Vs h)
def Xd(t:ByteArray)(O:List Z3):ByteArray:=O.foldl (λt x=>t++Se x) t
def Zy(t:TxD):ByteArray:=Xd (Y3 t.1 t.2.1) t.2.2
theorem Fl(h:Int)(I x):Y3 h (I++[x])=Y3 h I++Lg x:=by unfold Y3;rw[List.foldl_append];rfl
theorem Mk(t:ByteArray)(O)(x:Z3):Xd t (O++[x])=Xd t O++Se x:=by unfold Xd;rw[List.foldl_append];rfl
theorem Rw(h:Int)(hh:0<=h/\h<=1000):(Vs h).size<=30:=by
 unfold Vs;have:=Qc txB [h] (λz hz=>by simp at hz;omega);rw[Ue];have e:txB.size=2:=rfl;simp only[List.length_cons,List.length_nil] at this;omega
theorem Ge(x:InD)(h:Pc x=true/\chk x.2.2=0):(Lg x).size<=460:=by
 have hp:=(Ke x).1 h.1;exact K9 inB [x.1,x.2.1] x.2.2 (by decide) (by simp) (λz hz=>by simp at hz;omega) h.2
theorem Sd(x:Z3)(h:(1<=x.1/\x.1<=1000000000)/\chk x.2=0):(Se x).size<=460:=
 K9 outB [x.1] x.2 (by decide) (by simp) (λz hz=>by simp at hz;omega) h.2
theorem Qv(h:Int)(I:List InD)(hh:0<=h/\h<=1000)(hI:∀ x∈I,Pc x=true/\chk x.2.2=0):(Y3 h I).size<=30+460*I.length:=by
 have h1:=Qy Lg 460 I (Vs h) (λx hx=>Ge x (hI x hx));have h2:=Rw h hh;have h3:(Y3 h I).size<=(Vs h).size+460*I.length:=h1;omega
theorem Rq(t:ByteArray)(O:List Z3)(hO:∀ x∈O,(1<=x.1/\x.1<=1000000000)/\chk x.2=0):(Xd t O).size<=t.size+460*O.length:=
 Qy Se 460 O t (λx hx=>Sd x (hO x hx))
theorem Rc(w:World)(x)(t:TypeId):(w.alloc (dE #[x] t)).cell? ⟨w.heap.size,0,none⟩=some x:=by rw[World.cell?_alloc_at _ _ _ _ rfl];rfl
def txT(t:TxD):ByteArray:=if Zq t=0 then Zy t else ⟨#[]⟩
theorem As(h:Int)(ai ao ni ci no co I O)(x:Int)(w:World)(hI:InsAt w ai ni I)(hO:OutsAt w ao no O)(sI:SlOk ai ni ci)(hx:Zq (h,I,O)=x)(h0:x≠0) :
  ZH 155 #[.agg #[E J h,F ai ni ci,F ao no co]] w (dG #[.string ⟨#[]⟩,E J x]):=by
 have hb:=Zh w (dE #[E J h,F ai ni ci,F ao no co] 59);obtain⟨HB,C⟩:=kh2 hb (Vn h ai ao ni ci no co I O _ (hI.later hb) (hO.later hb) sI);rw[hx] at C;have g:(x != 0)=true:=by simp[h0]
 clear hb hI hO sI hx h0;go_enter func155,ntmps155;go_wp2_with fail;refine C.mono ?_;rintro e w2 ⟨rfl,ad⟩;have ag:=Zd (Zf HB ad);clear ad;go_wp2;go_ret2;exact⟨rfl,Za ag⟩
theorem Ty(h:Int)(ai ao ni ci no co I O)(w:World)(hE:Env w)(hI:InsAt w ai ni I)(hO:OutsAt w ao no O)(sI:SlOk ai ni ci)(hx:Zq (h,I,O)=0) :
  ZH 155 #[.agg #[E J h,F ai ni ci,F ao no co]] w (dG #[.string (Zy (h,I,O)),E J 0]):=by
 have ok:=TxOk.of hx;have hb:=Zh w (dE #[E J h,F ai ni ci,F ao no co] 59);obtain⟨n0,n1,n2⟩:=Sy w (E J h) (F ai ni ci) (F ao no co) 59;obtain⟨HB,C⟩:=kh2 hb (Vn h ai ao ni ci no co I O _ (hI.later hb) (hO.later hb) sI);rw[hx] at C;obtain⟨N0,N1,N2⟩:=kh3 n0 n1 n2;have dh:ni<=6:=by have:=ok.ins6;have:=hI.1;simp only at *;omega
 have dp:no<=6:=by have:=ok.outs6;have:=hO.1;simp only at *;omega
 have dq:0<no:=by have:=ok.some;have:=hO.1;simp only at *;omega
 obtain⟨HI,HO,HE,HG,bq,cc⟩:=kh6 hI hO hE ok.hgt ok.ins ok.outs;clear hb hI hO sI hx n0 n1 n2 hE ok;go_enter func155,ntmps155;go_wp2_with fail;refine C.mono ?_;rintro e w2 ⟨rfl,am⟩;have m0:=Ze am N0;obtain⟨M1,M2⟩:=kh2 (Ze am N1) (Ze am N2);have s2:w.heap.size<w2.heap.size:=aE _ _ m0;have bz:=Zf HB am;have ba:=Zh w2 (dE #[E J h] 3)
 have R:=Zd (U4 txB w2.heap.size 0 1 1 [h] (w2.alloc (dE #[E J h] 3)) (HE.later (Zf bz ba)) (by decide) (by decide) rfl (by simp) (λi hi=>by
  have e:i=0:=by omega
  subst e;exact Rc w2 (E J h) 3) (λz hz=>by have:=Za HG;simp at hz;omega))
 obtain⟨cm,dl,cq⟩:=kh3 ba am bz;have hs:=Rw h HG
 have dj:(Yt txB [h]).size<=29:=by
  have e:Vs h=Yt txB [h]++⟨#[10]⟩:=rfl;rw[e,Ue] at hs;omega
 obtain⟨T0,bu⟩:=ZF (Yt txB [h]);have cw:Hid (T0++⟨#[10]⟩=Vs h):=by show _=_;rw[<-bu];rfl
 rw[bu] at R dj;clear am bz ba hs bu;go_wp2_with fail;refine R.mono ?_;rintro e w3 ⟨rfl,ce⟩;have bf:=Zf cm ce;have m1:=Ze bf M1;have da:=Zd (Ze bf M2);have s3:w.heap.size<w3.heap.size:=aE _ _ m1;have ct:=Zd (Zf cq bf);clear ce bf;go_wp2
 go_loopw [5,23] (λs i wr=>∃ k:Nat,k<=ni/\i = E J k/\s = .string (Y3 h (I.take k))/\ZD w3 wr) (λ_ i _=>ni - (intOf i).toNat)
 case atStart=>exact⟨0,aI _,rfl,by rw[Za cw];rfl,Below.refl _ _⟩
 case round=>
  obtain⟨k,hk,rfl,rfl,au⟩:=hrel;have ca:=Zd au;have bg:=Zf ct au;have cp:=Zd bg;by_cases bi:k<ni
  ·have aj:k<I.length:=(by rw[(Za HI).1];exact bi);obtain⟨b,off,rfl,dg,aw⟩:=(HI.later bg).2 (by omega);obtain⟨g1,g2,ka,kn,kc,g3,g4,_⟩:=aw k aj;have ac:=bq I[k] (bE aj);have hS:=Fl h (I.take k) I[k];rw[<-bA aj] at hS
   have bx:(Y3 h (I.take k)).size<=3000:=by
    have:=Qv h (I.take k) HG (λx hx=>bq x (List.mem_of_mem_take hx));rw[bI] at this;omega
   have aq:=Ge I[k] ac;obtain⟨x,hx⟩:=ZF (I[k]);rw[hx] at g1 g2 g4 ac hS aq;obtain⟨x1,x2,ay⟩:=x;simp only at g1 g2 g3 g4;have hp:=(Ke _).1 ac.1;simp only at hp;obtain⟨T,hT⟩:=ZF (Y3 h (I.take k));obtain⟨X,hX⟩:=ZF (Lg (x1,x2,ay));rw[hT,hX] at hS;rw[hT] at bx ⊢;rw[hX] at aq;have HS:=Zd hS;have b1:=Zh wr (dE #[E J x1,E J x2,F ka kn kc] 119);have b2:=Zh (wr.alloc (dE #[E J x1,E J x2,F ka kn kc] 119)) (dE #[E J x1,E J x2] 3);have ae:=Zf b1 b2;have t2:=M9 (wr.alloc (dE #[E J x1,E J x2,F ka kn kc] 119)) (E J x1) (E J x2) 3;have an:(wr.alloc (dE #[E J x1,E J x2,F ka kn kc] 119)).heap.size=wr.heap.size+1:=(by simp);rw[an] at t2
   have PL:=Zd (Sa ka kn kc ay inB (wr.heap.size+1) 0 2 2 [x1,x2] X ((wr.alloc (dE #[E J x1,E J x2,F ka kn kc] 119)).alloc (dE #[E J x1,E J x2] 3)) ((HE.later bg).later ae) (g4.later ae) ac.2 (by decide) (by decide) rfl (by simp) (λi hi=>by
    have e:i=0\/i=1:=by omega
    rcases e with rfl|rfl
    ·exact t2.1
    ·exact t2.2) (λz hz=>by simp at hz;omega) hX)
   have bj:=Zd ae;clear au bg aw g4 ac hx hT hX hS b1 b2 ae t2 an hp;go_wp2_with fail;refine PL.mono ?_;rintro e w4 ⟨rfl,ar⟩;have bk:=Zd (ca.trans ((Zf bj ar).mono ca.size));clear ar;go_wp2;go_roundw
   case rel=>exact⟨k+1,by omega,by go_num,by rw[Za HS],Za bk⟩
   case measure=>simp[intOf];omega
  ·have e:k=ni:=(by omega);subst e;have HT:Hid (Y3 h (I.take k)=Y3 h I):=(by show _=_;rw[aS (by rw[(Za HI).1];exact aF _)]);have bx:=Qv h I HG bq;have dm:I.length<=6:=(by rw[(Za HI).1];exact dh);obtain⟨T1,bv⟩:=ZF (Y3 h I);rw[bv] at HT bx;have cx:=Zd bv;have m2:=Ze au da;have s4:w.heap.size<wr.heap.size:=aE _ _ m2;rw[Za HT];clear au bv hk bi;go_wp2
   go_loopw [5,43] (λs i wz=>∃ j:Nat,j<=no/\i = E J j/\s = .string (Xd T1 (O.take j))/\ZD wr wz) (λ_ i _=>no - (intOf i).toNat)
   case atStart=>exact⟨0,aI _,rfl,rfl,Below.refl _ _⟩
   case round=>
    obtain⟨j,hj,rfl,rfl,bh⟩:=hrel;have cb:=Zd bh;have av:=Zf cp bh;have cn:=Zd av;by_cases bi:j<no
    ·have aj:j<O.length:=(by rw[(Za HO).1];exact bi);obtain⟨b,off,rfl,dg,aw⟩:=(HO.later av).2 (by omega);obtain⟨g1,ka,kn,kc,g3,g4,_⟩:=aw j aj;have ac:=cc O[j] (bE aj);have hS:=Mk T1 (O.take j) O[j];rw[<-bA aj] at hS
     have df:(Xd T1 (O.take j)).size<=6000:=by
      have:=Rq T1 (O.take j) (λx hx=>cc x (List.mem_of_mem_take hx));rw[bI] at this;omega
     have aq:=Sd O[j] ac;obtain⟨x,hx⟩:=ZF (O[j]);rw[hx] at g1 g4 ac hS aq;obtain⟨x1,ay⟩:=x;simp only at g1 g3 g4;have hp:=ac.1;simp only at hp;obtain⟨T,hT⟩:=ZF (Xd T1 (O.take j));obtain⟨X,hX⟩:=ZF (Se (x1,ay));rw[hT,hX] at hS;rw[hT] at df ⊢;rw[hX] at aq;have HS:=Zd hS;have b1:=Zh wr (dE #[E J x1,F ka kn kc] 122);have b2:=Zh (wr.alloc (dE #[E J x1,F ka kn kc] 122)) (dE #[E J x1] 3);have ae:=Zf b1 b2;have t2:=Rc (wr.alloc (dE #[E J x1,F ka kn kc] 122)) (E J x1) 3;have an:(wr.alloc (dE #[E J x1,F ka kn kc] 122)).heap.size=wr.heap.size+1:=(by simp);rw[an] at t2
     have PL:=Zd (Sa ka kn kc ay outB (wr.heap.size+1) 0 1 1 [x1] X ((wr.alloc (dE #[E J x1,F ka kn kc] 122)).alloc (dE #[E J x1] 3)) ((HE.later av).later ae) (g4.later ae) ac.2 (by decide) (by decide) rfl (by simp) (λi hi=>by
      have e:i=0:=(by omega);subst e;exact t2) (λz hz=>by simp at hz;omega) hX)
     have bj:=Zd ae;clear bh av aw g4 ac hx hT hX hS b1 b2 ae t2 an hp;go_wp2_with fail;refine PL.mono ?_;rintro e w4 ⟨rfl,ar⟩;have bk:=Zd (cb.trans ((Zf bj ar).mono cb.size));clear ar;go_wp2;go_roundw
     case rel=>exact⟨j+1,by omega,by go_num,by rw[Za HS],Za bk⟩
     case measure=>simp[intOf];omega
    ·have HF:Hid (Xd T1 (O.take j)=Zy (h,I,O)):=by
      show _=_;rw[aS (by rw[(Za HO).1];omega),<-Za cx];rfl
     clear bh av;go_wp2;go_ret2;exact⟨Bf HF,Za cn⟩
theorem Hn(h:Int)(ai ao ni ci no co I O)(t:ByteArray)(x:Int)(w:World)(hE:Env w)(hI:InsAt w ai ni I)(hO:OutsAt w ao no O)(sI:SlOk ai ni ci)(hx:Zq (h,I,O)=x)(ht:txT (h,I,O)=t) :
  ZH 155 #[.agg #[E J h,F ai ni ci,F ao no co]] w (dG #[.string t,E J x]):=by
 subst ht;by_cases h0:Zq (h,I,O)=0
 ·rw[h0] at hx;subst hx;unfold txT;rw[if_pos h0];exact Ty h ai ao ni ci no co I O w hE hI hO sI h0
 ·unfold txT;rw[if_neg h0];exact As h ai ao ni ci no co I O x w hI hO sI hx (by rw[<-hx];exact h0)
def blockB:ByteArray:=⟨#[98,108,111,99,107]⟩
def Xr:List TxD->ByteArray
 | []=>⟨#[]⟩
 | t :: r=>Zy t++Xr r
def Yw(b:Zk):ByteArray:=(Yt blockB [b.1,b.2.1,b.2.2.1,b.2.2.2.1]++⟨#[10]⟩)++Xr b.2.2.2.2
def M5(b:Zk):ByteArray:=if Yq b=0 then Yw b else ⟨#[]⟩
theorem Qj(h:Int):∀ (i:Nat) (T:List TxD),Wc h i T=0->∀ t∈T,Zq t=0
 | _,[],_,t,ht=>by cases ht
 | i,x :: r,e,t,ht=>by
  unfold Wc at e;split at e
  ·rename_i q;exact absurd e q
  ·rename_i q;split at e
   ·cases e
   ·rcases List.mem_cons.1 ht with rfl|ht
    ·exact Classical.not_not.1 q
    ·exact Qj h (i+1) r e t ht
theorem Db{p h k n:Int}(e:Wk p h k n=true):0<=p/\p<=120/\1<=h/\h<=1000/\1<=k/\k<=1000/\0<=n/\n<=1000000000:=by
 unfold Wk at e;rw[cG,cG,cG,cG,cG,cG,cG] at e;obtain⟨⟨a,b⟩,⟨c,d⟩,⟨e,f⟩,g,h⟩:=e;exact⟨of_decide_eq_true a,of_decide_eq_true b,of_decide_eq_true c,of_decide_eq_true d,of_decide_eq_true e,of_decide_eq_true f,of_decide_eq_true g,of_decide_eq_true h⟩
theorem Ww{p h k n:Int}{T:List TxD}(e:Yq (p,h,k,n,T)=0):Wk p h k n=true/\0<T.length/\T.length<=4/\Wc h 0 T=0/\(∀ t∈T,Zq t=0):=by
 unfold Yq at e;simp only at e;split at e
 ·cases e
 rename_i q1;split at e
 ·cases e
 rename_i q2;split at e
 ·cases e
 rename_i q3;exact⟨by cases q:Wk p h k n with|true=>rfl|false=>exact absurd q q1,by omega,by omega,e,Qj h 0 T e⟩
theorem Je{α : Type}:∀ (L:List (List α)),([]:List α).intercalate L=L.flatten
 | []=>rfl
 | [x]=>by simp[List.intercalate]
 | x :: y :: r=>by
  have:=Je (y :: r);simp[List.intercalate] at this ⊢;exact this
theorem Ar(t)(h:Zq t=0):(Zy t).size<=6000:=by
 have ok:=TxOk.of h;have h1:=Rq (Y3 t.1 t.2.1) t.2.2 ok.outs;have h2:=Qv t.1 t.2.1 ok.hgt ok.ins;have h3:=ok.ins6;have h4:=ok.outs6;unfold Zy;omega
theorem Tv:∀ (T:List TxD),(∀ t∈T,Zq t=0)->(Xr T).size<=6000*T.length
 | [],_=>by simp[Xr];rfl
 | t :: r,h=>by
  have h1:=Ar t (h t (List.mem_cons_self ..));have h2:=Tv r (λx hx=>h x (List.mem_cons_of_mem _ hx));rw[Xr,ByteArray.size_append,List.length_cons];omega
theorem Tw:∀ (T:List TxD),(Xr T).data.toList=((T.map Zy).map (·.data.toList)).flatten
 | []=>rfl
 | t :: r=>by
  rw[Xr,ByteArray.data_append,Array.toList_append,Tw r];rfl
theorem N6(T:List TxD):(⟨(Lib.join ((T.map Zy).map (·.data.toList)) []).toArray⟩:ByteArray)=Xr T:=by
 refine Zcv ?_;rw[Tw];show Lib.join _ _=_;unfold Lib.join;exact Je _
def txV(T:List TxD)(i:Nat):Value:=.string (Zy (T.getD i (0,[],[])))
theorem Jm(b off m c:Nat)(T:List TxD)(w:World)(hE:Env w)(hz:T.length=m)(hm:m<=4)(aw:∀ t∈T,Zq t=0)(hc:∀ i (h:i<T.length),TxAt w b (off+i*3) T[i]) :
  Calls Tryz.prog 87 #[F (some ⟨b,off,none⟩) m c] w λe w'=>e = dF (F (some ⟨w.heap.size,0,none⟩) m m)/\FillV w.heap.size 9 m (txV T) w w' m:=by
 obtain⟨i0,hi,bv,bx,bz⟩:=info_parts Tryz.info9;obtain⟨HE,HC,HZ,HK⟩:=kh4 hE hc hz aw;clear hE hc hz aw;go_enter func87,ntmps87
 go_wp2_with (at_make;refine wpList_make_full _ rfl _ _ 22 rfl w.heap.size 9 i0 (.string ⟨#[]⟩) 1 underlying22 hi bv bx .i64 .i64 _ _ m rfl rfl rfl rfl (by rw[bz];omega) (by unfold maxLen;omega) (aF _) ?_;intro w2 bb ax)
 have bd:FillV w.heap.size 9 m (txV T) w w2 0:=⟨⟨_,bb,λj hj=>absurd hj (by omega)⟩,(Below.refl _ _).grown ax (aF _) (λk h=>by cases h)⟩;have bq:=Zd bd;clear bd bb ax
 go_loopw [11] (λi wr=>∃ k:Nat,k<=m/\i = E J k/\FillV w.heap.size 9 m (txV T) w wr k) (λi _=>m - (intOf i).toNat)
 case atStart=>exact⟨0,aI _,rfl,Za bq⟩
 case round=>
  obtain⟨k,hk,rfl,ad⟩:=hrel;have HF:=Zd ad;have ab:ZD w wr:=ad.bel;have cf:=Zd ab;by_cases ae:k<m
  ·have az:k<T.length:=(by rw[Za HZ];exact ae);have ay:=TxAt.kept _ _ _ _ _ ab (HC k az);have hx:=HK T[k] (bE _);have HQ:Hid (T.getD k (0,[],[])=T[k]):=(by show _=_;simp[az]);obtain⟨t,ht⟩:=ZF (T[k]);rw[ht] at ay hx HQ;obtain⟨t1,I,O⟩:=t;obtain⟨g0,⟨ai,ni,ci,g1,hI,sI⟩,ao,no,co,g2,hO,_⟩:=ay;simp only at g0 g1 g2 hI hO;obtain⟨Y,hY,aa,ar⟩:=ka00 wr [E J t1,F ai ni ci,F ao no co] 59;obtain⟨y0,y1,y2,yl⟩:=kc3 ar;have PO:=Zd (Ty t1 ai ao ni ci no co I O Y (HE.later (Zf ab aa)) (hI.later aa) (hO.later aa) sI hx);obtain⟨x,ah⟩:=ZG (Zy (t1,I,O));rw[<-ah] at PO;obtain⟨HX,bh⟩:=kh2 ah aa;clear ad ab ht hx ar aa hI hO sI ah;go_wp2_with fail;rw[<-hY];clear hY;go_wp2_with fail;refine PO.mono ?_;rintro e w3 ⟨rfl,au⟩;have ac:=(HF.keep bh).keep au;obtain⟨v,cm⟩:=ac.old ae;have cg:=ac.free k;have cj:=ac.lt;have bk:=Zd ac;clear au ac y0 y1 y2 yl g0 g1 g2;go_wp2;go_roundw
   case rel=>
    refine⟨k+1,by omega,by go_num,bk.step ae ?_⟩;show Value.string x=txV T k;unfold txV;rw[Za HX,Za HQ]
   case measure=>simp[intOf];omega
  ·clear ad ab;have e:k=m:=(by omega);subst e;clear hk ae;go_wp2;go_ret;exact⟨rfl,Za HF⟩
