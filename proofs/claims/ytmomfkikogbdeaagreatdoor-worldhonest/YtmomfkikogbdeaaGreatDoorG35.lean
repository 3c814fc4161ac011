import Derived.Test.YtmomfkikogbdeaaGreatDoorH
import Derived.Test.YtmomfkikogbdeaaGreatDoorG34
open Go.Proofs.Tryz
open Decidable renaming not_not->aK
open Go renaming maxLen->cW,lt_of_block->aA
open Go.Ending renaming returned->dA
open Go.IntKind renaming i64->J
open Go.Lib renaming run_eql_slice_nil->aY
open Go.Obj renaming cells->cZ
open Go.Proofs.Tryz renaming prog->aB
open Go.Value renaming int->E,slice->F,tuple->dB,pointer->dC,bool->dD
open List renaming getElem_mem->aQ,drop_eq_getElem_cons->aI,length_eq_zero_iff->aP,length_set->cD
open Nat renaming zero_le->aL,le_refl->aF
set_option maxHeartbeats 6400000
set_option maxRecDepth 10000
namespace Go.Proofs.YtmomfkikogbdeaaGreatDoor
open Go.RowKit
def ofK(K:List (Int×Int))(c:Zj):Bool:=decide (ck c=K)
theorem Znm(L:List Zj)(f:Zj->Bool)(h:∀ z∈L,0<=cv z):0<=Zp (L.filter f)/\Zp (L.filter f)<=Zp L:=by
 induction L with
 | nil=>exact⟨Int.le_refl _,Int.le_refl _⟩
 | cons x r ih=>
  obtain⟨i1,i2⟩:=ih λz Q=>h z (List.mem_cons_of_mem _ Q);have hx:=h x (List.mem_cons_self ..);rw[Xc];cases q:f x with
  | true=>rw[List.filter_cons_of_pos q,Xc];omega
  | false=>rw[List.filter_cons_of_neg (by rw[q];decide)];omega
theorem Zfe(L:List Zj)(f:Zj->Bool)(k:Nat)(h:k<L.length):Zp ((L.take (k+1)).filter f)=if f L[k] then Zp ((L.take k).filter f)+cv L[k] else Zp ((L.take k).filter f):=by
 rw[List.take_succ_eq_append_getElem h,List.filter_append,Xz];cases q:f L[k] with
 | true=>rw[List.filter_cons_of_pos q];simp[Zp]
 | false=>rw[List.filter_cons_of_neg (by rw[q];decide)];simp[Zp]
theorem Zra(x:Zj)(a)(n c:Nat)(ka kn kc K)(b:Nat)(o:Bool)(w:World)(hn:n<=cW)(Q:OpsAt w a n (ck x))(hK:OpsAt w ka kn K)(hb:w.cell? ⟨b,0,none⟩=some (F ka kn kc))(ho:ofK K x=o) :
  ZH 212 #[cnV x a n c,dC (some ⟨b,0,none⟩)] w (dD o):=by
 unfold cnV;obtain⟨X,hX,z,ab⟩:=ka00 w [E J x.1,E J x.2.1,E J (cv x),F a n c,E J (ch x),dD (cr x)] 124;have C:=Zd (L5 a ka n kn c kc (ck x) K o X hn (Q.later z) (hK.later z) ho);have m3:=Zb ab 3 _ rfl;have l2:=World.block_lt_of_cell? _ _ hb;have ag:=Zd z;clear Q hK ab z ho hn m3;go_enter func212,ntmps212;go_wp2_with fail;rw[<-hX];clear hX;go_wp2_with fail;refine C.mono ?_;rintro e w2 ⟨rfl,ac⟩;have af:=Zd (Zf ag ac);clear ac;go_wp2;go_ret;exact⟨rfl,Za af⟩
theorem Zjb(a n c)(L:List Zj)(ka kn kc K)(cq:Nat)(x s:Int)(w:World)(h:CoinsAt w a n L)(hK:OpsAt w ka kn K)(hb:w.cell? ⟨cq,0,none⟩=some (F ka kn kc))(hx:Z4 L=x)(hs:(if x=0 then Zp (L.filter (ofK K)) else 0)=s) :
  ZH 80 #[F a n c,.func (.func 212) #[] #[dC (some ⟨cq,0,none⟩)]] w (dB #[E J s,E J x]):=by
 have C1:=Zd (Vi a n c L x w h hx);by_cases e1:x=0
 ·subst e1;rw[if_pos rfl] at hs;have hR:=(Z6 L).1 hx;have hn:n<=720:=by rw[<-h.1];exact hR.len
  have bs:Hid (∀ k,0<=Zp ((L.take k).filter (ofK K))/\Zp ((L.take k).filter (ofK K))<=Zp (L.take k)):=λk=>Znm (L.take k) (ofK K) λcp hz=>by have:=Yu (hR.one cp (List.mem_of_mem_take hz));omega
  have bt:=Zd (λk=>Sb L k (λcp hz=>by have:=Yu (hR.one cp hz);omega));have HV:Hid (∀ cp∈L,1<=cv cp/\cv cp<=1000000000):=λcp hz=>by have:=Yu (hR.one cp hz);omega
  obtain⟨HL,HZ,HS,HK,bk⟩:=kh5 h h.1 hs hK hb;clear hR h hx hs hK hb;go_enter func80,ntmps80;go_wp2_with fail;refine C1.mono ?_;rintro e w2 ⟨rfl,ac⟩;have am:=Zd ac;clear ac C1;go_wp2
  go_loopw [7,17] (λsv i wr=>∃ (k:Nat) (d:Int),k<=n/\sv = E J d/\i = E J k/\Hid (d=Zp ((L.take k).filter (ofK K)))/\Hid (ZD w wr)) (λ_ i _=>n - (intOf i).toNat)
  case atStart=>exact⟨0,0,aL _,rfl,rfl,rfl,am⟩
  case round=>
   obtain⟨k,d,hk,rfl,rfl,A,HB⟩:=hrel;by_cases bz:k<n
   ·have be:k<L.length:=(by rw[Za HZ];exact bz);obtain⟨b,off,rfl,cg,bx⟩:=HL.2 (by omega);have au:=CoinAt.kept _ _ _ _ _ HB (bx k be);have b1:=bs k;have b2:=bt k;have b3:=HV L[k] (aQ _);have z:=Zfe L (ofK K) k be;obtain⟨y,hy⟩:=ZF (L[k]);rw[hy] at au z b3;obtain⟨la,ln,lc,g0,g1,g2,g3,g4,g5,hO,sO⟩:=au.val;obtain⟨v,hv⟩:=ZF (cv y);obtain⟨o,ho⟩:=ZF (ofK K y);rw[ho] at z;rw[hv] at b3 z;rw[<-Za A] at b1 z;obtain⟨X,hX,ar,bd⟩:=ka00 wr [E J y.1,E J y.2.1,E J v,F la ln lc,E J (ch y),dD (cr y)] 124;have m2:=Zb bd 2 _ rfl;have ag:=Zd (Zf HB ar);have T1:=Zra y la ln lc ka kn kc K cq o X sO.len (hO.later ar) (HK.later ag) (Ze ag bk) ho;unfold cnV at T1;rw[hv] at T1 g2;have ax:=Zd T1;obtain⟨sk,bf⟩:=ZF (Zp (L.take k));rw[bf] at b1 b2;clear au hy HB T1 hv bd ar hO sO ho bf;cases o with
    | true=>
     have cn:IntKind.i64.wrap (d+v)=d+v:=(by rw[IntKind.wrap_i64];omega);have A2:Hid (d+v=Zp ((L.take (k+1)).filter (ofK K))):=(by show _=_;rw[z];rfl);clear z A;go_wp2_with fail;rw[<-hX];clear hX;refine ax.mono ?_;rintro e w3 ⟨rfl,aa⟩;have n2:=Ze aa m2;have cl:=World.block_lt_of_cell? _ _ n2;have an:=Zd (Zf ag aa);clear aa m2;go_wp2;go_roundw
     case rel=>exact⟨k+1,d+v,by omega,rfl,by go_num,A2,an⟩
     case measure=>simp[intOf];omega
    | false=>
     have A2:Hid (d=Zp ((L.take (k+1)).filter (ofK K))):=(by show _=_;rw[z];rfl);clear z A;go_wp2_with fail;rw[<-hX];clear hX;refine ax.mono ?_;rintro e w3 ⟨rfl,aa⟩;have an:=Zd (Zf ag aa);clear aa m2;go_wp2;go_roundw
     case rel=>exact⟨k+1,d,by omega,rfl,by go_num,A2,an⟩
     case measure=>simp[intOf];omega
   ·have e:k=n:=(by omega);subst e
    have R:Hid (d=s):=by
     show _=_;rw[Za A,List.take_of_length_le (by rw[Za HZ];exact aF _)];exact Za HS
    clear A;go_wp2;go_ret2;exact⟨by rw[<-Za R];rfl,Za HB⟩
 ·rw[if_neg e1] at hs;subst hs;have g:(x != 0)=true:=by simp[e1]
  clear h hx e1 hK hb;go_enter func80,ntmps80;go_wp2_with fail;refine C1.mono ?_;rintro e w2 ⟨rfl,ac⟩;have am:=Zd ac;clear ac C1;go_wp2;go_ret2;exact⟨rfl,Za am⟩
theorem of_is(a n c)(L:List Zj)(ka kn kc K)(x s:Int)(w:World)(h:CoinsAt w a n L)(hK:OpsAt w ka kn K)(hx:Z4 L=x)(hs:(if x=0 then Zp (L.filter (ofK K)) else 0)=s) :
  ZH 166 #[F a n c,F ka kn kc] w (dB #[E J s,E J x]):=by
 obtain⟨X,Q,z,aa⟩:=ka00 w [F ka kn kc] 48;obtain⟨C,ae⟩:=kh2 (Zjb a n c L ka kn kc K w.heap.size x s X (h.later z) (hK.later z) (Zb aa 0 _ rfl) hx hs) z;clear h hx hs hK aa z;go_enter func166,ntmps166;go_wp2_with fail;rw[<-Q];clear Q;go_wp2_with fail;refine C.mono ?_;rintro e w2 ⟨rfl,ab⟩;have ad:=Zd (Zf ae ab);clear ab;go_wp2;go_ret2;exact⟨rfl,Za ad⟩
theorem Yg{K N T P}{tip:Int}(h:opE K N T P tip=0):Bk.bkChk K=0/\Tr.bstD N T=(tip,0)/\(Z0 K N T noB).1=0/\poE K N T P tip (Z0 K N T noB).2=0:=by
 unfold opE at h;split at h
 ·rename_i q;exact absurd h q
 rename_i h1;split at h
 ·rename_i q;exact absurd h q
 rename_i h2;split at h
 ·cases h
 rename_i h3;split at h
 ·rename_i q;exact absurd h q
 rename_i h4;refine⟨aK.1 h1,?_,aK.1 h4,h⟩;exact Prod.ext (aK.1 h3) (aK.1 h2)
section
variable (ka:Option Addr)(kn kc:Nat)(K:List ByteArray)(na ba pa:Option Addr)(nn nc bn bc pn pc:Nat)(N:List Int)(T:List Zl)(P:List TxD)(tip x:Int)(w:World)
theorem Nx(hE:Env w)(hK:Bk.TextsAt w ka kn K)(hN:Tr.IntsAt w na nn N)(hT:Tr.BlksAt w ba bn T)(hP:TxsAt w pa pn P)(sN:SlOk na nn nc)(sT:SlOk ba bn bc)(sP:SlOk pa pn pc)(hp:pn<=2513169434916)(hq:∀ t∈P,Tr.TxSmall t)(hx:opE K N T P tip = x):ZH 39 #[.agg #[F ka kn kc],.agg #[F na nn nc,F ba bn bc,F pa pn pc,E J tip]] w (E J x):=by
 obtain⟨X,Q⟩:=ZG (Yw w [cZ #[F ka kn kc] 24,cZ #[F na nn nc,F ba bn bc,F pa pn pc,E J tip] 67]);have ad:X=(w.alloc (cZ #[F ka kn kc] 24)).alloc (cZ #[F na nn nc,F ba bn bc,F pa pn pc,E J tip] 67):=Q;have z:ZD w X:=by rw[Q];exact Zs _ _
 have x0:=kl0 Q _ _ rfl;have x1:=kl Q 1 _ _ rfl;obtain⟨C1,af⟩:=kh2 (Ld ka kn kc K na ba pa nn nc bn bc pn pc N T P tip x X (hE.later z) (hK.later z) (hN.later z) (hT.later z) (hP.later z) sN sT sP hp hq hx) z;have t0:=Zb x0 0 _ rfl;obtain⟨t1,t2,t3,t4,-⟩:=kc4 x1;have tl:=aA x0;have ap:=aA x1;clear hE hK hN hT hP sN sT sP hp hq hx z x0 x1 Q;go_enter func39,ntmps39;go_wp2_with fail;rw[<-ad];clear ad;(try go_wp2_with fail);refine C1.mono ?_;rintro e w1 ⟨ae,hr⟩;have ac:=Zd (Zf af ae);clear ae C1 t0 t1 t2 t3 t4 tl ap
 rcases hr with ⟨h0,rfl⟩|⟨h0,d,bm,m,rfl,_,_,_,_⟩
 ·go_wp2;go_ret;exact⟨rfl,Za ac⟩
 ·subst h0;go_wp2;go_ret;exact⟨rfl,Za ac⟩
theorem Rr(hE:Env w)(hK:Bk.TextsAt w ka kn K)(hN:Tr.IntsAt w na nn N)(hT:Tr.BlksAt w ba bn T)(hP:TxsAt w pa pn P)(sN:SlOk na nn nc)(sT:SlOk ba bn bc)(sP:SlOk pa pn pc)(hp:pn<=2513169434916)(hq:∀ t∈P,Tr.TxSmall t)(hx:opE K N T P tip = x)(C)(hC:(if x=0 then (Z0 K N T noB).2 tip else [])=C):Calls aB 40 #[.agg #[F ka kn kc],.agg #[F na nn nc,F ba bn bc,F pa pn pc,.int .i64 tip]] w λe w'=>∃ a n c,e = dA (.tuple #[F a n c,.int .i64 x])/\CoinsAt w' a n C/\SlOk a n c/\ZD w w':=by
 obtain⟨X,hX⟩:=ZG (Yw w [cZ #[F ka kn kc] 24,cZ #[F na nn nc,F ba bn bc,F pa pn pc,.int .i64 tip] 67]);have au:X=(w.alloc (cZ #[F ka kn kc] 24)).alloc (cZ #[F na nn nc,F ba bn bc,F pa pn pc,.int .i64 tip] 67):=hX;have z:ZD w X:=by rw[hX];exact Zs _ _
 have x0:=kl0 hX _ _ rfl;have x1:=kl hX 1 _ _ rfl;have C1:=Zd (Ld ka kn kc K na ba pa nn nc bn bc pn pc N T P tip x X (hE.later z) (hK.later z) (hN.later z) (hT.later z) (hP.later z) sN sT sP hp hq hx);have ae:Hid (x=0->(Lit.int .i64 tip).wf=true):=λe=>(Rw (Yg (hx.trans e)).2.1).1;obtain⟨az,HC⟩:=kh2 z hC;have t0:=Zb x0 0 _ rfl;obtain⟨t1,t2,t3,t4,-⟩:=kc4 x1;have tl:=aA x0;have bk:=aA x1;clear hE hK hN hT hP sN sT sP hp hq hx z x0 x1 hX hC;go_enter func40,ntmps40;go_wp2_with fail;rw[<-au];clear au;(try go_wp2_with fail);refine C1.mono ?_;rintro e w1 ⟨av,hr⟩;have ak:=Zd (Zf az av);clear av C1 t0 t1 t2 t3 t4 tl bk
 rcases hr with ⟨h0,rfl⟩|⟨h0,d,bm,m,rfl,hD,_,_,_⟩
 ·have gy:(x != 0)=true:=by simp[h0]
  have Q:=Za HC;rw[if_neg h0] at Q;have ad:Hid (∃ a n c,(Ending.returned (.tuple #[F none 0 0,.int .i64 x])) = dA (.tuple #[F a n c,.int .i64 x])/\CoinsAt w1 a n C/\SlOk a n c/\ZD w w1):=⟨none,0,0,rfl,Q ▸ RowsAt.nil _ _,Zq,Za ak⟩;clear Q HC ae;go_wp2;go_ret2;exact Za ad
 ·subst h0;obtain⟨k1,bu,bt,n1,bx,bv,b1,bq,bo,p1,cb,ca,f,hq⟩:=hD;obtain⟨cd,cn,cc,hf,ag,sc⟩:=hq.c tip;have Q:=Za HC;rw[if_pos rfl] at Q;rw[Q] at ag;have D2:=Zd (Qs hq (ae rfl));rw[hf] at D2;obtain⟨al,am⟩:=kh2 ag sc;clear hq ag sc hf Q HC ae;go_wp2_with fail;refine D2.mono ?_;rintro e w2 ⟨rfl,af⟩;have ad:Hid (∃ a n c,(Ending.returned (.tuple #[F cd cn cc,.int .i64 0])) = dA (.tuple #[F a n c,.int .i64 0])/\CoinsAt w2 a n C/\SlOk a n c/\ZD w w2):=⟨cd,cn,cc,rfl,al.later af,Za am,Zf ak af⟩;clear af al am D2;go_wp2;go_ret2;exact Za ad
theorem B8(hE:Env w)(hK:Bk.TextsAt w ka kn K)(hN:Tr.IntsAt w na nn N)(hT:Tr.BlksAt w ba bn T)(hP:TxsAt w pa pn P)(sN:SlOk na nn nc)(sT:SlOk ba bn bc)(sP:SlOk pa pn pc)(hp:pn<=2513169434916)(hq:∀ t∈P,Tr.TxSmall t)(hx:opE K N T P tip = x)(la ln lc l)(hl:OpsAt w la ln l)(C:List Zj)(hC:(if x=0 then (Z0 K N T noB).2 tip else [])=C)(y s:Int)(z:(if x=0 then Z4 C else x)=y)(hs:(if y=0 then Zp (C.filter (ofK l)) else 0)=s):ZH 101 #[.agg #[F ka kn kc],.agg #[F na nn nc,F ba bn bc,F pa pn pc,E J tip],F la ln lc] w (dB #[E J s,E J y]):=by
 obtain⟨X,hX⟩:=ZG (Yw w [cZ #[F ka kn kc] 24,cZ #[F na nn nc,F ba bn bc,F pa pn pc,E J tip] 67]);have ap:X=(w.alloc (cZ #[F ka kn kc] 24)).alloc (cZ #[F na nn nc,F ba bn bc,F pa pn pc,E J tip] 67):=hX;have Q:ZD w X:=by rw[hX];exact Zs _ _
 have x0:=kl0 hX _ _ rfl;have x1:=kl hX 1 _ _ rfl;obtain⟨C1,HL,ax,HY,HS⟩:=kh5 (Rr ka kn kc K na ba pa nn nc bn bc pn pc N T P tip x X (hE.later Q) (hK.later Q) (hN.later Q) (hT.later Q) (hP.later Q) sN sT sP hp hq hx C hC) (hl.later Q) Q z hs;have t0:=Zb x0 0 _ rfl;obtain⟨t1,t2,t3,t4,-⟩:=kc4 x1;have tl:=aA x0;have bk:=aA x1;clear hE hK hN hT hP sN sT sP hp hq hx Q x0 x1 hX hl hC z hs;go_enter func101,ntmps101;go_wp2_with fail;rw[<-ap];clear ap;(try go_wp2_with fail);refine C1.mono ?_;rintro e w1 ⟨ca,cn,cc,rfl,hc,_,ag⟩;obtain⟨am,ae,af⟩:=kh3 (Zf ax ag) hc (HL.later ag);clear ag C1 t0 t1 t2 t3 t4 tl bk hc;by_cases h0:x=0
 ·have z:=Za HY;rw[if_pos h0] at z;have D2:=Zd (of_is ca cn cc C la ln lc l y s w1 ae af z HS);subst h0;clear z HY HS ae af;go_wp2_with fail;refine D2.mono ?_;rintro e w2 ⟨rfl,aq⟩;have aw:=Zd (Zf am aq);clear aq D2;go_wp2;go_ret2;exact⟨rfl,Za aw⟩
 ·have gy:(x != 0)=true:=by simp[h0]
  have z:=Za HY;rw[if_neg h0] at z;have hs:=Za HS;rw[if_neg (by rw[<-z];exact h0)] at hs;subst z hs;clear HY HS ae af;go_wp2;go_ret2;exact⟨rfl,Za am⟩
end
abbrev Jt:=Int×Int×Int×Int×Zl×TxD
def MsgAt(w:World)(b o:Nat)(x:Jt):Prop:=
 w.cell? ⟨b,o,none⟩=some (E J x.1)/\w.cell? ⟨b,o+1,none⟩=some (E J x.2.1)/\w.cell? ⟨b,o+2,none⟩=some (E J x.2.2.1)/\w.cell? ⟨b,o+3,none⟩=some (E J x.2.2.2.1) /\
  Tr.BlkAt w b (o+4) x.2.2.2.2.1/\TxAt w b (o+9) x.2.2.2.2.2
theorem MsgAt.kept:Hf MsgAt:=λ_ _ _ _ _ z h=>⟨Ze z h.1,Ze z h.2.1,Ze z h.2.2.1,Ze z h.2.2.2.1,Tr.BlkAt.kept _ _ _ _ _ z h.2.2.2.2.1,TxAt.kept _ _ _ _ _ z h.2.2.2.2.2⟩
def MsgsAt(w:World)(a:Option Addr)(len:Nat)(l:List Jt):Prop:=RowsAt MsgAt 12 w a len l
theorem MsgsAt.later{w w':World}{a len l}(h:MsgsAt w a len l)(z:ZD w w'):MsgsAt w' a len l:=RowsAt.later MsgAt.kept h z
def Xu(i n:Int):Bool:=decide (0<=i) && decide (i<n)
def nmE(n:Int):Int:=if 1<=n/\n<=120 then 0 else 3
def Ry(m:Jt)(n:Int):Int:=
 if Xu m.2.1 n=false\/Xu m.2.2.1 n=false\/m.2.1=m.2.2.1 then 3 else
 if m.1=1 then Yk m.2.2.2.2.1 else if m.1=2 then nmE m.2.2.2.1 else if m.1=3 then Zu m.2.2.2.2.2 else 3
theorem Uy(i n:Int)(o:Bool)(w)(z:Xu i n=o):Calls aB 175 #[E J i,E J n] w λe w'=>e = dA (dD o)/\w=w':=by
 unfold Xu at z;by_cases h1:0<=i
 ·by_cases h2:i<n
  ·have e:o=true:=(by rw[<-z];simp[h1,h2]);subst e;clear z;go_enter func175,ntmps175;go_wp2;go_ret;exact⟨rfl,rfl⟩
  ·have e:o=false:=(by rw[<-z];simp[h2]);have h4:decide (i<n)=false:=(by simp;omega);subst e;clear z;go_enter func175,ntmps175;go_wp2;go_ret;exact⟨rfl,rfl⟩
 ·have e:o=false:=by rw[<-z];simp[h1]
  have h4:decide (0<=i)=false:=by simp;omega
  subst e;clear z;go_enter func175,ntmps175;go_wp2;go_ret;exact⟨rfl,rfl⟩
theorem Ty(n:Int)(o:Bool)(w:World)(Q:(decide (1<=n) && decide (n<=4))=o):ZH 115 #[E J n] w (dD o):=by
 have C:=Zd (Yj n 1 4 o w Q);go_enter func115,ntmps115;go_wp2_with fail;refine C.mono ?_;rintro e w1 ⟨rfl,z⟩;have HB:=Zd z;clear z C Q;go_wp2;go_ret;exact⟨rfl,Za HB⟩
theorem Pd(n x:Int)(w:World)(hx:nmE n=x):ZH 176 #[E J n] w (E J x):=by
 obtain⟨o,z⟩:=ZF ((decide (1<=n) && decide (n<=120)));have C:=Zd (Yj n 1 120 o w z)
 have e:x=if o=true then 0 else 3:=by
  rw[<-hx,<-z];unfold nmE;simp only[Bool.and_eq_true,decide_eq_true_eq]
 clear hx z;go_enter func176,ntmps176;go_wp2_with fail;refine C.mono ?_;rintro e' w1 ⟨rfl,hb⟩;have Q:=Zd hb;clear hb C;cases o
 ·obtain rfl:x=3:=e;go_wp2;go_ret;exact⟨rfl,Za Q⟩
 ·obtain rfl:x=0:=e;go_wp2;go_ret;exact⟨rfl,Za Q⟩
theorem Zig(z fr tq nm bp bs bk bn:Int)(ba bm bc L)(th:Int)(ai ao ni ci no co I O)(n x:Int)(w:World)(hL:TxsAt w ba bm L)(hI:InsAt w ai ni I)(hO:OutsAt w ao no O)(sI:SlOk ai ni ci)(hx:Ry (z,fr,tq,nm,(bp,bs,bk,bn,L),(th,I,O)) n=x) :
  ZH 116 #[.agg #[E J z,E J fr,E J tq,E J nm,E J bp,E J bs,E J bk,E J bn,F ba bm bc,E J th,F ai ni ci,F ao no co],E J n] w (E J x):=by
 obtain⟨X,hX,ag,bh⟩:=ka00 w [E J z,E J fr,E J tq,E J nm,E J bp,E J bs,E J bk,E J bn,F ba bm bc,E J th,F ai ni ci,F ao no co] 106;obtain⟨o1,h1⟩:∃ o,Xu fr n=o:=⟨_,rfl⟩;obtain⟨o2,h2⟩:∃ o,Xu tq n=o:=⟨_,rfl⟩;obtain⟨xb,an⟩:∃ x,Yk (bp,bs,bk,bn,L)=x:=⟨_,rfl⟩;obtain⟨xt,aq⟩:∃ x,Zu (th,I,O)=x:=⟨_,rfl⟩;obtain⟨xn,ap⟩:∃ x,nmE nm=x:=⟨_,rfl⟩;obtain⟨E1,E2,CB,CT⟩:=kh4 (Uy fr n o1 X h1) (Uy tq n o2 X h2) (Vc bp bs bk bn ba bm bc L xb X (hL.later ag) an) (Vw th ai ao ni ci no co I O X (hI.later ag) (hO.later ag) sI);rw[aq] at CT;obtain⟨CN,ab⟩:=kh2 (Pd nm xn X ap) ag
 have hx:(if o1=false\/o2=false\/fr=tq then 3 else if z=1 then xb else if z=2 then xn else if z=3 then xt else 3)=x:=by
  rw[<-hx,<-h1,<-h2,<-an,<-ap,<-aq];rfl
 have HX:=Zd hx;obtain⟨m0,m1,m2,m3,m4,m5,m6,m7,m8,m9,m10,m11,ml⟩:=kc12 bh;clear hL hI hO sI hx h1 h2 an aq ap ag bh;go_enter func116,ntmps116;go_wp2_with fail;rw[<-hX];clear hX;(try go_wp2_with fail);refine E1.mono ?_;rintro e w1 ⟨rfl,rfl⟩;cases o1
 ·obtain rfl:(3:Int)=x:=by have q:=Za HX;rw[if_pos (.inl rfl)] at q;exact q
  go_wp2;go_ret;exact⟨rfl,Za ab⟩
 go_wp2_with fail;refine E2.mono ?_;rintro e w1 ⟨rfl,rfl⟩;cases o2
 ·obtain rfl:(3:Int)=x:=by have q:=Za HX;rw[if_pos (.inr (.inl rfl))] at q;exact q
  go_wp2;go_ret;exact⟨rfl,Za ab⟩
 by_cases h3:fr=tq
 ·subst h3;obtain rfl:(3:Int)=x:=by have q:=Za HX;rw[if_pos (.inr (.inr rfl))] at q;exact q
  go_wp2;go_ret;exact⟨rfl,Za ab⟩
 have g3:(fr == tq)=false:=by simp[h3]
 have aj:Hid ((if z=1 then xb else if z=2 then xn else if z=3 then xt else 3)=x):=by have q:=Za HX;rw[if_neg (by simp[h3])] at q;exact q
 clear HX E1 E2;by_cases k1:z=1
 ·subst k1;obtain rfl:xb=x:=by have q:=Za aj;rw[if_pos rfl] at q;exact q
  go_wp2_with fail;refine CB.mono ?_;rintro e w2 ⟨rfl,Q⟩;have ac:=Zd (Zf ab Q);clear Q CB m0 m1 m2 m3 m4 m5 m6 m7 m8 m9 m10 m11 ml;go_wp2;go_ret;exact⟨rfl,Za ac⟩
 have g4:(z == 1)=false:=by simp[k1]
 by_cases k2:z=2
 ·subst k2;obtain rfl:xn=x:=by have q:=Za aj;rw[if_neg k1,if_pos rfl] at q;exact q
  go_wp2_with fail;refine CN.mono ?_;rintro e w2 ⟨rfl,Q⟩;have ac:=Zd (Zf ab Q);clear Q CN m0 m1 m2 m3 m4 m5 m6 m7 m8 m9 m10 m11 ml;go_wp2;go_ret;exact⟨rfl,Za ac⟩
 have g5:(z == 2)=false:=by simp[k2]
 by_cases k3:z=3
 ·subst k3;obtain rfl:xt=x:=by have q:=Za aj;rw[if_neg k1,if_neg k2,if_pos rfl] at q;exact q
  go_wp2_with fail;refine CT.mono ?_;rintro e w2 ⟨rfl,Q⟩;have ac:=Zd (Zf ab Q);clear Q CT m0 m1 m2 m3 m4 m5 m6 m7 m8 m9 m10 m11 ml;go_wp2;go_ret;exact⟨rfl,Za ac⟩
 have g6:(z == 3)=false:=by simp[k3]
 obtain rfl:(3:Int)=x:=by have q:=Za aj;rw[if_neg k1,if_neg k2,if_neg k3] at q;exact q
 go_wp2;go_ret;exact⟨rfl,Za ab⟩
abbrev U9:=List Int×List Zl×List TxD×Int
def NodAt(w:World)(b o:Nat)(x:U9):Prop:=
 ∃ na nn nc ba bn bc pa pn pc,w.cell? ⟨b,o,none⟩=some (F na nn nc)/\w.cell? ⟨b,o+1,none⟩=some (F ba bn bc)/\w.cell? ⟨b,o+2,none⟩=some (F pa pn pc)/\w.cell? ⟨b,o+3,none⟩=some (E J x.2.2.2) /\
  Tr.IntsAt w na nn x.1/\Tr.BlksAt w ba bn x.2.1/\TxsAt w pa pn x.2.2.1/\SlOk na nn nc/\SlOk ba bn bc/\SlOk pa pn pc
theorem NodAt.kept:Hf NodAt:=λ_ _ _ _ _ z h=>by
 obtain⟨na,nn,nc,ba,bn,bc,pa,pn,pc,h0,h1,h2,h3,hN,hT,hP,s⟩:=h;exact⟨na,nn,nc,ba,bn,bc,pa,pn,pc,Ze z h0,Ze z h1,Ze z h2,Ze z h3,hN.later z,hT.later z,hP.later z,s⟩
def NodsAt(w:World)(a:Option Addr)(len:Nat)(l:List U9):Prop:=RowsAt NodAt 4 w a len l
theorem NodsAt.later{w w':World}{a len l}(h:NodsAt w a len l)(z:ZD w w'):NodsAt w' a len l:=RowsAt.later NodAt.kept h z
def opN(K:List ByteArray)(x:U9):Int:=opE K x.1 x.2.1 x.2.2.1 x.2.2.2
def Ve(K:List ByteArray):List U9->Int
 | []=>0
 | x :: L=>if opN K x≠0 then opN K x else Ve K L
def Qr(n:Int):List Jt->Int
 | []=>0
 | m :: L=>if Ry m n≠0 then Ry m n else Qr n L
def Xp(K:List ByteArray)(L:List U9)(M:List Jt):Int:=
 if ¬(1<=L.length/\L.length<=4) then 3 else if Bk.bkChk K≠0 then Bk.bkChk K else if 20<M.length then 2 else
 if Ve K L≠0 then Ve K L else Qr L.length M
theorem Zkj{K}{L:List U9}{j:Nat}(z:j<L.length):Ve K (L.drop j)=if opN K L[j]≠0 then opN K L[j] else Ve K (L.drop (j+1)):=by
 rw[aI z];rfl
theorem Zkt{n:Int}{L:List Jt}{j:Nat}(z:j<L.length):Qr n (L.drop j)=if Ry L[j] n≠0 then Ry L[j] n else Qr n (L.drop (j+1)):=by
 rw[aI z];rfl
namespace Tr
open Go.RowKit
def nodR:Rec U9 where
 sz:=4
 C w cs x:=∃ a n c b m d p q r,cs=[F a n c,F b m d,F p q r,E J x.2.2.2]/\IntsAt w a n x.1/\BlksAt w b m x.2.1/\TxsAt w p q x.2.2.1/\SlOk a n c/\SlOk b m d/\SlOk p q r
 R:=NodAt
 wide _ _ _:=by rintro ⟨a,n,c,b,m,d,p,q,r,rfl,_⟩;rfl
 one _ _ _:=by rintro ⟨a,n,c,b,m,d,p,q,r,rfl,_⟩ v hv;simp at hv;rcases hv with rfl|rfl|rfl|rfl <;> rfl
 kept _ _ _ _ hb:=by rintro ⟨a,n,c,b,m,d,p,q,r,rfl,h1,h2,h3,h4⟩;exact⟨a,n,c,b,m,d,p,q,r,rfl,h1.later hb,h2.later hb,h3.later hb,h4⟩
 rc _ _ _ _:=by
  rintro ⟨a,n,c,b,m,d,p,q,r,h0,h1,h2,h3,Q⟩;refine⟨_,λj u z=>?_,a,n,c,b,m,d,p,q,r,rfl,Q⟩
  match j,z with
  | 0,z=>cases z;exact h0
  | 1,z=>cases z;exact h1
  | 2,z=>cases z;exact h2
  | 3,z=>cases z;exact h3
  | j+4,z=>simp at z
 cr _ _ _ _ _ h:=by rintro ⟨a,n,c,b,m,d,p,q,r,rfl,Q⟩;exact⟨a,n,c,b,m,d,p,q,r,h 0 _ rfl,h 1 _ rfl,h 2 _ rfl,h 3 _ rfl,Q⟩
def msgR:Rec Jt where
 sz:=12
 C w cs x:=∃ a n c Q n1 c1 a2 n2 c2,cs=[E J x.1,E J x.2.1,E J x.2.2.1,E J x.2.2.2.1,E J x.2.2.2.2.1.1,E J x.2.2.2.2.1.2.1,E J x.2.2.2.2.1.2.2.1,E J x.2.2.2.2.1.2.2.2.1,F a n c,E J x.2.2.2.2.2.1,F Q n1 c1,F a2 n2 c2]/\TxsAt w a n x.2.2.2.2.1.2.2.2.2/\SlOk a n c/\InsAt w Q n1 x.2.2.2.2.2.2.1/\SlOk Q n1 c1/\OutsAt w a2 n2 x.2.2.2.2.2.2.2/\SlOk a2 n2 c2
 R:=MsgAt
 wide _ _ _:=by rintro ⟨a,n,c,Q,n1,c1,a2,n2,c2,rfl,_⟩;rfl
 one _ _ _:=by rintro ⟨a,n,c,Q,n1,c1,a2,n2,c2,rfl,_⟩ v hv;simp at hv;rcases hv with rfl|rfl|rfl|rfl|rfl|rfl|rfl|rfl|rfl|rfl|rfl|rfl <;> rfl
 kept _ _ _ _ hb:=by rintro ⟨a,n,c,Q,n1,c1,a2,n2,c2,rfl,h1,h2,h3,h4,h5,h6⟩;exact⟨a,n,c,Q,n1,c1,a2,n2,c2,rfl,h1.later hb,h2,h3.later hb,h4,h5.later hb,h6⟩
 rc _ _ _ _:=by
  rintro ⟨h0,h1,h2,h3,⟨h4,h5,h6,h7,a,n,c,h8,k1,k2⟩,h9,⟨Q,n1,c1,h10,k3,k4⟩,a2,n2,c2,h11,k5,k6⟩;refine⟨_,λj u z=>?_,a,n,c,Q,n1,c1,a2,n2,c2,rfl,k1,k2,k3,k4,k5,k6⟩
  match j,z with
  | 0,z=>cases z;exact h0
  | 1,z=>cases z;exact h1
  | 2,z=>cases z;exact h2
  | 3,z=>cases z;exact h3
  | 4,z=>cases z;exact h4
  | 5,z=>cases z;exact h5
  | 6,z=>cases z;exact h6
  | 7,z=>cases z;exact h7
  | 8,z=>cases z;exact h8
  | 9,z=>cases z;exact h9
  | 10,z=>cases z;exact h10
  | 11,z=>cases z;exact h11
  | j+12,z=>simp at z
 cr _ _ _ _ _ h:=by
  rintro ⟨a,n,c,Q,n1,c1,a2,n2,c2,rfl,k1,k2,k3,k4,k5,k6⟩;exact⟨h 0 _ rfl,h 1 _ rfl,h 2 _ rfl,h 3 _ rfl,⟨h 4 _ rfl,h 5 _ rfl,h 6 _ rfl,h 7 _ rfl,a,n,c,h 8 _ rfl,k1,k2⟩,h 9 _ rfl,⟨Q,n1,c1,h 10 _ rfl,k3,k4⟩,a2,n2,c2,h 11 _ rfl,k5,k6⟩
theorem Tryz.infoNodeC:(Tryz.prog.info? 67).map (λi=>(i.zero,i.size,i.bytes))=some (some (.agg #[F none 0 0,F none 0 0,F none 0 0,E J 0]),4,80):=by kernel_rfl
theorem M0(w):Calls aB 225 #[F none 0 0] w λe w'=>e = dA (F none 0 0)/\w=w':=by
 have z:=λw=>aY (P:=aB) w 87 67 none 0 0 0 0 underlying87;go_enter func225,ntmps225;go_wp2;go_ret;exact⟨rfl,rfl⟩
theorem Re(Q:Addr)(n c:Nat)(z:List Value)(w:World)(hn:n<=1759218604441)(hz:z.length=n*4)(h1:∀ u∈z,u.oneCell'=true)(hc:∀ j u,z[j]? = some u->w.cell? (Q.add j)=some u) :
  Calls aB 225 #[F (some Q) n c] w λe w'=>∃ v,e = dA v/\w'.ownsRow w.heap.size 67 4 v n z/\ZD w w':=by
 obtain⟨i0,hi,ap,aq,ar⟩:=info_parts Tryz.infoNodeC;have hb:=Zh w (cZ #[] 67);have HC:Hid (∀ j u,z[j]? = some u->(w.alloc (cZ #[] 67)).cell? (Q.add j)=some u):=λj u hj=>Ze hb (hc j u hj);obtain⟨HB,HZ,H1,HO⟩:=kh4 hb hz h1 (Wn w 67 4);have he:=λw=>aY (P:=aB) w 87 67 (some Q) n c 0 0 underlying87;clear hc hb hz h1;go_enter func225,ntmps225
 go_wp2_with (at_builtin;refine wpList_append_own _ rfl _ _ 87 rfl w.heap.size 67 i0 (.agg #[F none 0 0,F none 0 0,F none 0 0,E J 0]) 4 80 underlying87 hi ap aq ar rfl (by decide) _ _ _ rfl HO Q n c z rfl HZ HC H1 (by unfold cW;omega) (by omega) HB.size ?_;intro v2 w3 af ae _)
 have HW:Hid (w3.ownsRow w.heap.size 67 4 v2 n z):=by show World.ownsRow _ _ _ _ _ _ _;simpa using af
 have aj:=Zd (HB.grown ae HB.size (Wb HO));clear af ae;go_wp2;go_ret;exact⟨v2,rfl,Za HW,Za aj⟩
theorem cloneNode_any(a)(n c:Nat)(L)(w0 w:World)(hn:n<=1759218604441)(h:RowsAt nodR.R 4 w0 a n L)(hb:ZD w0 w)(hs:SlOk a n c) :
  Calls aB 225 #[F a n c] w λe w'=>∃ v,∃ K:List (List Value),e = dA v/\AllC nodR w0 K L/\w'.ownsRow w.heap.size 67 4 v n K.flatten/\ZD w w':=by
 obtain⟨Q,hc⟩:=h;cases a with
 | none=>
  obtain⟨rfl,rfl⟩:=hs.2.2 rfl;have e:L=[]:=aP.1 Q;subst e;exact (M0 w).mono λe w' ⟨x,y⟩=>⟨_,[],x,⟨rfl,λi h=>absurd h (by simp)⟩,y ▸ World.ownsRow_nil _ _ _ _,y ▸ Below.refl _ _⟩
 | some ad=>
  by_cases h0:n=0
  ·subst h0;have e:L=[]:=aP.1 Q;subst e;exact (Re ad 0 c [] w hn rfl (λu hu=>by cases hu) (λj u z=>by simp at z)).mono λe w' ⟨v,x,y,ak⟩=>⟨v,[],x,⟨rfl,λi h=>absurd h (by simp)⟩,y,ak⟩
  ·obtain⟨b,off,e,_,af⟩:=hc (by omega);obtain⟨rfl⟩:=e;obtain⟨K,h1,h3⟩:=V6 nodR af;have hk:K.flatten.length=n*4:=(by rw[Wd h1,Q];rfl);exact (Re ⟨b,off,none⟩ n c K.flatten w hn hk (flat_one h1) (λj u z=>by rw[Addr.add_lit];exact Ze hb (h3 j u z))).mono λe w' ⟨v,x,y,ak⟩=>⟨v,K,x,h1,y,ak⟩
theorem Tryz.infoMsgC:(Tryz.prog.info? 106).map (λi=>(i.zero,i.size,i.bytes))=some (some (.agg #[E J 0,E J 0,E J 0,E J 0,E J 0,E J 0,E J 0,E J 0,F none 0 0,E J 0,F none 0 0,F none 0 0]),12,144):=by kernel_rfl
theorem Fv(w):Calls aB 226 #[F none 0 0] w λe w'=>e = dA (F none 0 0)/\w=w':=by
 have z:=λw=>aY (P:=aB) w 88 106 none 0 0 0 0 underlying88;go_enter func226,ntmps226;go_wp2;go_ret;exact⟨rfl,rfl⟩
theorem Tg(Q:Addr)(n c:Nat)(z:List Value)(w:World)(hn:n<=977343669134)(hz:z.length=n*12)(h1:∀ u∈z,u.oneCell'=true)(hc:∀ j u,z[j]? = some u->w.cell? (Q.add j)=some u) :
  Calls aB 226 #[F (some Q) n c] w λe w'=>∃ v,e = dA v/\w'.ownsRow w.heap.size 106 12 v n z/\ZD w w':=by
 obtain⟨i0,hi,ap,aq,ar⟩:=info_parts Tryz.infoMsgC;have hb:=Zh w (cZ #[] 106);have HC:Hid (∀ j u,z[j]? = some u->(w.alloc (cZ #[] 106)).cell? (Q.add j)=some u):=λj u hj=>Ze hb (hc j u hj);obtain⟨HB,HZ,H1,HO⟩:=kh4 hb hz h1 (Wn w 106 12);have he:=λw=>aY (P:=aB) w 88 106 (some Q) n c 0 0 underlying88;clear hc hb hz h1;go_enter func226,ntmps226
 go_wp2_with (at_builtin;refine wpList_append_own _ rfl _ _ 88 rfl w.heap.size 106 i0 (.agg #[E J 0,E J 0,E J 0,E J 0,E J 0,E J 0,E J 0,E J 0,F none 0 0,E J 0,F none 0 0,F none 0 0]) 12 144 underlying88 hi ap aq ar rfl (by decide) _ _ _ rfl HO Q n c z rfl HZ HC H1 (by unfold cW;omega) (by omega) HB.size ?_;intro v2 w3 af ae _)
 have HW:Hid (w3.ownsRow w.heap.size 106 12 v2 n z):=by show World.ownsRow _ _ _ _ _ _ _;simpa using af
 have aj:=Zd (HB.grown ae HB.size (Wb HO));clear af ae;go_wp2;go_ret;exact⟨v2,rfl,Za HW,Za aj⟩
theorem cloneMsg_any(a)(n c:Nat)(L)(w0 w:World)(hn:n<=977343669134)(h:RowsAt msgR.R 12 w0 a n L)(hb:ZD w0 w)(hs:SlOk a n c) :
  Calls aB 226 #[F a n c] w λe w'=>∃ v,∃ K:List (List Value),e = dA v/\AllC msgR w0 K L/\w'.ownsRow w.heap.size 106 12 v n K.flatten/\ZD w w':=by
 obtain⟨Q,hc⟩:=h;cases a with
 | none=>
  obtain⟨rfl,rfl⟩:=hs.2.2 rfl;have e:L=[]:=aP.1 Q;subst e;exact (Fv w).mono λe w' ⟨x,y⟩=>⟨_,[],x,⟨rfl,λi h=>absurd h (by simp)⟩,y ▸ World.ownsRow_nil _ _ _ _,y ▸ Below.refl _ _⟩
 | some ad=>
  by_cases h0:n=0
  ·subst h0;have e:L=[]:=aP.1 Q;subst e;exact (Tg ad 0 c [] w hn rfl (λu hu=>by cases hu) (λj u z=>by simp at z)).mono λe w' ⟨v,x,y,ak⟩=>⟨v,[],x,⟨rfl,λi h=>absurd h (by simp)⟩,y,ak⟩
  ·obtain⟨b,off,e,_,af⟩:=hc (by omega);obtain⟨rfl⟩:=e;obtain⟨K,h1,h3⟩:=V6 msgR af;have hk:K.flatten.length=n*12:=(by rw[Wd h1,Q];rfl);exact (Tg ⟨b,off,none⟩ n c K.flatten w hn hk (flat_one h1) (λj u z=>by rw[Addr.add_lit];exact Ze hb (h3 j u z))).mono λe w' ⟨v,x,y,ak⟩=>⟨v,K,x,h1,y,ak⟩
def Sd:List Value->Nat->List Value->List Value
 | z,_,[]=>z
 | z,o,c :: cs=>Sd (z.set o c) (o+1) cs
def setsW:World->Nat->Nat->List Value->World
 | w,_,_,[]=>w
 | w,g,o,c :: cs=>setsW (w.setCell ⟨g,o,none⟩ c) g (o+1) cs
theorem setsW_gr{S:Nat->Prop}{w:World}{g:Nat}:∀ (cs:List Value) (z:World) (o:Nat),Gr w z S->(S g\/w.heap.size<=g)->Gr w (setsW z g o cs) S
 | [],_,_,h,_=>h
 | c :: cs,_,o,h,hg=>setsW_gr cs _ (o+1) (h.one g o hg c) hg
theorem setsW_own{B:Nat}{e:TypeId}{sz n g cap:Nat}:∀ (cs:List Value) (w:World) (o:Nat) (z:List Value),w.ownsRow B e sz (F (some ⟨g,0,none⟩) n cap) n z->(setsW w g o cs).ownsRow B e sz (F (some ⟨g,0,none⟩) n cap) n (Sd z o cs)
 | [],_,_,_,h=>h
 | c :: cs,_,o,_,h=>setsW_own cs _ (o+1) _ (h.stored o c).1
theorem setsL_rec{sz:Nat}:∀ (cs:List Value) (K:List (List Value)) (_:Wid sz K) (k:Nat) (h:k<K.length) (j:Nat),j+cs.length<=sz->Sd K.flatten (k*sz+j) cs=(K.set k (Sd K[k] j cs)).flatten
 | [],K,_,k,h,j,_=>by simp[Sd]
 | c :: cs,K,hw,k,h,j,hj=>by
  simp only[List.length_cons] at hj;have z:(K[k].set j c).length=sz:=by rw[cD];exact hw _ (aQ h)
  have:=setsL_rec cs (K.set k (K[k].set j c)) (Uf hw k z) k (by rw[cD];exact h) (j+1) (by omega);simp only[Sd];rw[Xh hw k h j (by omega) c,Nat.add_assoc,this,List.getElem_set_self,List.set_set]
theorem Nm:∀ (cs A z:List Value),z.length=cs.length->Sd (A++z) A.length cs=A++cs
 | [],A,z,h=>by simp at h;simp[Sd,h]
 | c :: cs,A,[],h=>by simp at h
 | c :: cs,A,f :: z,h=>by
  have:=Nm cs (A++[c]) z (by simpa using h);simp only[Sd];rw[List.set_append_right _ _ (aF _),Nat.sub_self,List.set_cons_zero];simpa using this
section
variable {α : Type} {Z : Rec α} {e : TypeId} {B G : Nat} {w0 wr w5 : World} {n g cap k : Nat} {K : List (List Value)} {L : List α}
theorem own_put{cs:List Value}(h:wr.ownsRow B e Z.sz (F (some ⟨g,0,none⟩) n cap) n K.flatten)(Q:Wid Z.sz K)(z:k<K.length)(hc:cs.length=Z.sz):(setsW wr g (k*Z.sz) cs).ownsRow B e Z.sz (F (some ⟨g,0,none⟩) n cap) n (K.set k cs).flatten:=by
 have h1:=setsW_own cs wr (k*Z.sz) _ h;have h2:=setsL_rec cs K Q k z 0 (by omega);rw[Nat.add_zero] at h2;have h3:=Nm cs [] K[k] (by rw[hc];exact Q _ (aQ z));simp only[List.nil_append,List.length_nil] at h3;rw[h2,h3] at h1;exact h1
theorem Cl.put{cs}{w0s:Nat}(h:Cl Z e B G w0 wr (F (some ⟨g,0,none⟩) n cap) n K L k)(Q:k<L.length)(hb:ZD wr w5)(z:Fresh w0s w5 (λw2=>Z.C w2 cs L[k]))(hG:G<=w0s) :
  Cl Z e B G w0 (setsW w5 g (k*Z.sz) cs) (F (some ⟨g,0,none⟩) n cap) n (K.set k cs) L (k+1):=by
 have h5:=h.keep hb;exact h5.step Q (z.less hG) (setsW_gr cs w5 _ (Gr.refl _ _) (.inl rfl)) (own_put h5.own h5.wid (by rw[h5.len];exact Q) (Z.wide _ _ _ z.now))
end
theorem len4{c:List Value}(h:c.length=4):∃ x y z r,c=[x,y,z,r]:=by
 match c,h with
 | [x,y,z,r],_=>exact⟨x,y,z,r,rfl⟩
theorem drew_heap{w:World}{b:Nat}{o:Option Obj}(h:w.heap[b]? = o):w.drew.heap[b]? = o:=h
theorem Dv:∀ (L:List ByteArray),∀ u∈L.map Value.string,u.oneCell'=true:=by
 intro L u z;obtain⟨s,_,rfl⟩:=List.mem_map.1 z;rfl
theorem Tryz.infoStrC:(Tryz.prog.info? 9).map (λi=>(i.zero,i.size,i.bytes))=some (some (.string ByteArray.empty),1,16):=by kernel_rfl
theorem Fr(w):Calls aB 224 #[F none 0 0] w λe w'=>e = dA (F none 0 0)/\w=w':=by
 have z:=λw=>aY (P:=aB) w 22 9 none 0 0 0 0 underlying22;go_enter func224,ntmps224;go_wp2;go_ret;exact⟨rfl,rfl⟩
theorem My(Q:Addr)(n c:Nat)(z:List Value)(w:World)(hn:n<=4096)(hz:z.length=n*1)(h1:∀ u∈z,u.oneCell'=true)(hc:∀ j u,z[j]? = some u->w.cell? (Q.add j)=some u) :
  Calls aB 224 #[F (some Q) n c] w λe w'=>∃ v,e = dA v/\w'.ownsRow w.heap.size 9 1 v n z/\ZD w w':=by
 obtain⟨i0,hi,ap,aq,ar⟩:=info_parts Tryz.infoStrC;have hb:=Zh w (cZ #[] 9);have HC:Hid (∀ j u,z[j]? = some u->(w.alloc (cZ #[] 9)).cell? (Q.add j)=some u):=λj u hj=>Ze hb (hc j u hj);obtain⟨HB,HZ,H1,HO⟩:=kh4 hb hz h1 (Wn w 9 1);have he:=λw=>aY (P:=aB) w 22 9 (some Q) n c 0 0 underlying22;clear hc hb hz h1;go_enter func224,ntmps224
 go_wp2_with (at_builtin;refine wpList_append_own _ rfl _ _ 22 rfl w.heap.size 9 i0 (.string ByteArray.empty) 1 16 underlying22 hi ap aq ar rfl (by decide) _ _ _ rfl HO Q n c z rfl HZ HC H1 (by unfold cW;omega) (by omega) HB.size ?_;intro v2 w3 af ae _)
 have HW:Hid (w3.ownsRow w.heap.size 9 1 v2 n z):=by show World.ownsRow _ _ _ _ _ _ _;simpa using af
 have aj:=Zd (HB.grown ae HB.size (Wb HO));clear af ae;go_wp2;go_ret;exact⟨v2,rfl,Za HW,Za aj⟩
theorem cloneStr_any(a)(n c:Nat)(L:List ByteArray)(w:World)(hn:n<=4096)(h:Bk.TextsAt w a n L)(hs:SlOk a n c) :
  Calls aB 224 #[F a n c] w λe w'=>∃ v,e = dA v/\w'.ownsRow w.heap.size 9 1 v n (L.map Value.string)/\ZD w w':=by
 obtain⟨hl,hc⟩:=h;cases a with
 | none=>
  obtain⟨rfl,rfl⟩:=hs.2.2 rfl;have e:L=[]:=aP.1 hl;subst e;exact (Fr w).mono λe w' ⟨x,y⟩=>⟨_,x,y ▸ World.ownsRow_nil _ _ _ _,y ▸ Below.refl _ _⟩
 | some ad=>
  refine (My ad n c (L.map Value.string) w hn (by simp[hl]) (Dv _) (λj u z=>?_));have Q:j<L.length:=by have:=(List.getElem?_eq_some_iff.1 z).1;simpa using this
  obtain⟨b,off,e,ac⟩:=hc (by omega);cases e;rw[Addr.add_lit,ac j Q];simpa[Q] using z
theorem strs_of_own{w:World}{base:Nat}{v}{n:Nat}{K:List ByteArray}(h:w.ownsRow base 9 1 v n (K.map Value.string)):∃ a cap,v = F a n cap/\SlOk a n cap/\Bk.TextsAt w a n K:=by
 have z:K.length=n:=by simpa using h.1
 rcases h.2 with ⟨rfl,rfl⟩|⟨g,cap,Q,rfl,hg,hh,h1,h2,h3,h4⟩
 ·exact⟨none,0,rfl,⟨aF _,aL _,λ_=>⟨rfl,rfl⟩⟩,z,λh=>absurd h (by omega)⟩
 ·refine⟨_,cap,rfl,⟨h1,h2,λe=>by cases e⟩,z,λ_=>⟨g,0,rfl,λi hi=>?_⟩⟩;rw[Nat.zero_add,World.ownsRow.cellAt h i (by omega)];simp[hi]
end Go.Proofs.YtmomfkikogbdeaaGreatDoor.Tr
namespace Go.Proofs.YtmomfkikogbdeaaGreatDoor.Bk
open Go.RowKit Go.Maps
theorem check_is(a n c L)(w:World)(h:TextsAt w a n L)(x:Int)(hx:bkChk L=x) :
  ZH 59 #[.agg #[F a n c]] w (E J x):=by
 have z:=Zh w (cZ #[F a n c] 24);obtain⟨O,HB⟩:=kh2 (D9 a n c L _ (h.later z) x hx) z;clear h hx z;go_enter func59,ntmps59;go_wp2_with fail;refine O.mono ?_;rintro e w2 ⟨v,rfl,-,Q⟩;have ab:=Zd (Zf HB Q);clear Q;go_wp2;go_ret;exact⟨rfl,Za ab⟩
