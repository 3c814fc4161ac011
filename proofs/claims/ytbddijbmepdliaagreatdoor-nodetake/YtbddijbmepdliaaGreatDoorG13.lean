import Derived.Test.YtbddijbmepdliaaGreatDoorH
import Derived.Test.YtbddijbmepdliaaGreatDoorG12
open Option renaming none->aD,some->dG
open Go.Proofs.Tryz
open Go renaming info_parts->bX,lt_of_block->aA,heap_alloc_new->aG,wp_region_held_drew->bC,maxLen->aT,wpAnyH_done->bZ,bodyPost_ret->aL
open Go.Ending renaming returned->dB
open Go.IntKind renaming wrap_i64->aP,i64->J
open Go.Obj renaming cells->dA
open Go.Proofs.Tryz renaming prog->aB
open Go.Value renaming slice->bW,int->aU,int->E,slice->F,tuple->dC,pointer->dE,bool->dF
open Go.World renaming cell?->bF,block_lt_of_cell?->aC,cell?_of_block->bU,news_of_block->bI,ownsRow->cP,size_alloc->cS
open List renaming length_append->bL,getElem?_eq_some_iff->cD,take_succ_eq_append_getElem->aH,getElem_mem->aQ,take_of_length_le->aM,length_eq_zero_iff->aJ
open Nat renaming lt_of_lt_of_le->aF,zero_le->aI,le_refl->aE,le_trans->aO,zero_add->bO
open Prod.mk renaming inj->cA
set_option maxHeartbeats 12800000
set_option maxRecDepth 10000
namespace Go.Proofs.YtbddijbmepdliaaGreatDoor
open Go.RowKit
theorem sw_at{h:Int}{T:List TxD}{s:List ByteArray×List Zi}{k:Nat}(hk:k<T.length):Y0 h (T.drop k) s=if (doD h s T[k]).1=0 then (T[k] :: (Y0 h (T.drop (k+1)) (doD h s T[k]).2).1,(Y0 h (T.drop (k+1)) (doD h s T[k]).2).2) else Y0 h (T.drop (k+1)) s:=by
 rw[List.drop_eq_getElem_cons hk,Y0]
theorem Zot{t}(h:Zp t=0):txT t=Zr t:=by unfold txT;rw[if_pos h]
theorem Znb{h:Int}{K C}{t:TxD}(hK:Bk.Right K)(hc:Zp t=0)(hi:t.2.1.length≠0){K2}{n x:Int}(hn:Bk.nm K (Zr t)=(K2,n,x)):(x≠0->(doD h (K,C) t).1≠0)/\(x=0->∀ y M S,apD C t n h=(y,M,S)->(y≠0->(doD h (K,C) t).1≠0)/\(y=0->doD h (K,C) t=(0,K2,M))):=by
 have e:Bk.nameR K (txT t)=(K2,n,x):=by unfold Bk.nameR;rw[if_pos ((Bk.right_iff K).2 hK),Zot hc];exact hn
 constructor
 ·intro hx;unfold doD;rw[if_neg (λq=>q hc),if_neg hi];simp only[e];rw[if_pos hx];exact hx
 ·intro hx y M S ha;unfold doD;rw[if_neg (λq=>q hc),if_neg hi];simp only[e,ha];rw[if_neg (λq=>q hx)];constructor
  ·intro hy;rw[if_pos hy];exact hy
  ·intro hy;rw[if_neg (λq=>q hy)]
theorem Znc{h:Int}{s:List ByteArray×List Zi}{t:TxD}(hc:Zp t≠0\/t.2.1.length=0):(doD h s t).1≠0:=by
 unfold doD;by_cases q:Zp t≠0
 ·rw[if_pos q];exact q
 ·rw[if_neg q,if_pos (hc.resolve_left q)];exact (show (4:Int)≠0 by decide)
theorem Zav{C}(h:Zy C):0<=Zm C/\Zm C<=720000000000:=by
 have:=Je C C.length (λz hz=>by have:=Yt (h.one z hz);omega);rw[List.take_length] at this;have:=h.len;omega
def Nu(j:Nat)(u:Value):Prop:=(j=0->∃ n,u = E J n)/\(j≠0->∃ a n c,u = F a n c)
section
section
variable {w w' : World} {v : Value} {S : Nat -> Prop}
theorem Kg{b o:Nat}{n:Int}(h:Shp Nu 3 50 w v)(hb:v.ownBlock=dG b)(hc:w.cell? ⟨b,o,aD⟩=dG (E J n)):o % 3=0:=by
 obtain⟨ab,h1,h2⟩:=h b hb;have hc:ab[o]? = dG (E J n):=by simpa[bF,h1] using hc
 have:=h2 o _ hc
 rcases Nat.eq_zero_or_pos (o % 3) with q|q
 ·exact q
 ·obtain⟨a,k,c,e⟩:=this.2 (by omega);cases e
theorem Zpe{b o:Nat}{s:ByteArray}(h:Shp Nu 3 50 w v)(hb:v.ownBlock=dG b)(hc:w.cell? ⟨b,o,aD⟩=dG (.string s)):False:=by
 obtain⟨ab,h1,h2⟩:=h b hb;have hc:ab[o]? = dG (.string s):=by simpa[bF,h1] using hc
 have:=h2 o _ hc
 rcases Nat.eq_zero_or_pos (o % 3) with q|q
 ·obtain⟨k,e⟩:=this.1 q;cases e
 ·obtain⟨a,k,c,e⟩:=this.2 (by omega);cases e
theorem Zpt{a n L}(h:OpsAt w a n L)(hs:Shp Nu 3 50 w v)(hg:Gr w w' (λq=>v.ownBlock=dG q)):OpsAt w' a n L:=by
 refine⟨h.1,λh0=>?_⟩;obtain⟨b,off,rfl,hc⟩:=h.2 h0;refine⟨b,off,rfl,λi hi=>?_⟩;obtain⟨c0,c1⟩:=hc i hi;have hb:=hg.block b (aC _ _ c0) (λe=>by have:=Kg hs e c0;have:=Kg hs e c1;omega);exact⟨(bU (a:=⟨b,off+i*2,aD⟩) hb).trans c0,(bU (a:=⟨b,off+i*2+1,aD⟩) hb).trans c1⟩
theorem Zin{a n L}(h:CoinsAt w a n L)(hs:Shp Nu 3 50 w v)(hg:Gr w w' (λq=>v.ownBlock=dG q)):CoinsAt w' a n L:=by
 refine⟨h.1,λh0=>?_⟩;obtain⟨b,off,rfl,hl,hc⟩:=h.2 h0;refine⟨b,off,rfl,aF hl hg.size,λi hi=>?_⟩;obtain⟨c0,c1,c2,⟨la,ln,lc,c3,h5,h6⟩,c4,c5⟩:=hc i hi;have hb:=hg.block b hl (λe=>by have:=Kg hs e c0;have:=Kg hs e c1;omega);have k:=λ(o:Nat)=>bU (a:=⟨b,o,aD⟩) hb;exact⟨(k _).trans c0,(k _).trans c1,(k _).trans c2,⟨la,ln,lc,(k _).trans c3,Zpt h5 hs hg,h6⟩,(k _).trans c4,(k _).trans c5⟩
theorem Zfy{a n L}(h:Bk.TextsAt w a n L)(hs:Shp Nu 3 50 w v)(hg:Gr w w' (λq=>v.ownBlock=dG q)):Bk.TextsAt w' a n L:=by
 refine⟨h.1,λh0=>?_⟩;obtain⟨b,off,rfl,hc⟩:=h.2 h0;refine⟨b,off,rfl,λi hi=>?_⟩;have c0:=hc i hi;have hb:=hg.block b (aC _ _ c0) (λe=>Zpe hs e c0);exact (bU (a:=⟨b,off+i,aD⟩) hb).trans c0
end
def Zti(w w':World)(K:List ByteArray)(S:List TxD)(C:List Zi)(ae:Int)(e:Ending):Prop:=
 ∃ ka kn kc sa sn sc oa on oc,e = dB (dC #[F ka kn kc,F sa sn sc,F oa on oc,E J ae])/\Bk.TextsAt w' ka kn K/\Bk.SlOk ka kn kc/\TxsAt w' sa sn S/\SlOk sa sn sc/\CoinsAt w' oa on C/\SlOk oa on oc/\ZD w w'
def Zoh(w0 w w':World)(K:List ByteArray)(S:List TxD)(C:List Zi)(af:Int)(e:Ending):Prop:=
 ∃ ka kn kc sa sn sc oa on oc Kl,e = dB (dC #[F ka kn kc,F sa sn sc,F oa on oc,E J af])/\Bk.TextsAt w' ka kn K/\Bk.SlOk ka kn kc/\TxsAt w' sa sn S/\SlOk sa sn sc/\CoinsAt w' oa on C/\SlOk oa on oc/\ZD w w'/\w'.ownsRow w.heap.size 50 3 (F sa sn sc) sn Kl.flatten/\∀ U,ZD w0 U->Tr.AllC Tr.txR U Kl S
theorem Ll(w0:World)(ka kn kc K nu ln lc C0 a m c T)(ht:Int)(K1 S1 C1 w)(hE:EnvF w)(hK:Bk.TextsAt w ka kn K)(sK:Bk.SlOk ka kn kc)(hR:Bk.Right K)(hC:CoinsAt w nu ln C0)(sC:SlOk nu ln lc)(fd:Zy C0)(jy:ZD w0 w)(hT:TxsAt w0 a m T)(hm:m<=8)(hx:Y0 ht T (K,C0)=(S1,K1,C1)) :
  Calls aB 28 #[F ka kn kc,F nu ln lc,F a m c,E J ht] w λe w'=>Zoh w0 w w' K1 S1 C1 (Zm C0 - Zm C1) e:=by
 have zT:T.length=m:=hT.1;obtain⟨i1,nx,ke,kf,kg⟩:=bX Tryz.infoTx9;have HE:Hid (∀ V,ZD w V->EnvF V):=λV hv=>hE.later hv;obtain⟨HT,cf,ZT⟩:=kh3 hT jy zT
 have ii:Hid (([]:List TxD)++(Y0 ht (T.drop 0) (K,C0)).1=S1/\(Y0 ht (T.drop 0) (K,C0)).2=(K1,C1)):=by
  show _/\_;rw[List.drop_zero,hx];exact⟨rfl,rfl⟩
 have gz:=Zb (⟨hK,sK,hR⟩:Bk.TextsAt w ka kn K/\Bk.SlOk ka kn kc/\Bk.Right K);have gs:=Zb (⟨hC,sC,fd⟩:CoinsAt w nu ln C0/\SlOk nu ln lc/\Zy C0);have ia:Hid (w.ownsRow w.heap.size 50 3 (F aD 0 0) ([]:List TxD).length ([]:List (List Value)).flatten):=⟨rfl,.inl ⟨rfl,rfl⟩⟩;have gm:Hid (∀ V,ZD w0 V->Tr.AllC Tr.txR V [] []):=λ_ _=>⟨rfl,λi h1 _=>absurd h1 (by simp)⟩;have ic:Hid (Shp Nu 3 50 w (F aD 0 0)):=λg hg=>by simp[Value.ownBlock] at hg
 have gw:Hid ((0:Int)=Zm C0 - Zm C0):=by show _=_;omega
 have gn:Hid (ZD w w):=Below.refl _ _;have gu:=Zb (Zav fd);go_enter func28,ntmps28;go_wp2
 go_loopw [8,9,10,11,23] (λnw sv cv fv nv V=>∃ (k:Nat) (ba:Option Addr) (bn bc:Nat) (K':List ByteArray) (oa:Option Addr) (ag oc:Nat) (C:List Zi) (S:List TxD) (Kl:List (List Value)) (ae:Int) (vv:Value),k<=m/\vv=sv/\nw = F ba bn bc/\cv = F oa ag oc/\fv = E J ae/\nv = E J (k:Int)/\Hid (Bk.TextsAt V ba bn K'/\Bk.SlOk ba bn bc/\Bk.Right K')/\Hid (CoinsAt V oa ag C/\SlOk oa ag oc/\Zy C)/\Hid (V.ownsRow w.heap.size 50 3 vv S.length Kl.flatten)/\Hid (∀ U,ZD w0 U->Tr.AllC Tr.txR U Kl S)/\Hid (Shp Nu 3 50 V vv)/\Hid (ae=Zm C0 - Zm C)/\Hid (S.length<=k)/\Hid (S++(Y0 ht (T.drop k) (K',C)).1=S1/\(Y0 ht (T.drop k) (K',C)).2=(K1,C1))/\Hid (ZD w V)) (λ_ _ _ _ nv _=>m - (intOf nv).toNat)
 case atStart=>exact⟨0,ka,kn,kc,K,nu,ln,lc,C0,[],[],0,_,aI _,rfl,rfl,rfl,rfl,rfl,gz,gs,ia,gm,ic,gw,aI _,ii,gn⟩
 case round=>
  obtain⟨k,ba,bn,bc,K',oa,ag,oc,C,S,Kl,ae,vv,hk,rfl,rfl,rfl,rfl,rfl,HK,HC,HO,HA,HP,HF,da,HQ,HB⟩:=hrel;by_cases js:k<m
  ·have lr:(k:Int)<(m:Int):=(by omega);have dw:k<T.length:=(by rw[Za ZT];exact js);have lx:IntKind.i64.wrap ((k:Int)+1)=((k:Int)+1):=(by rw[aP];omega);obtain⟨th,I,O,fs⟩:∃ th I O,T[k]=(th,I,O):=⟨_,_,_,rfl⟩;obtain⟨tb,ns,rfl,_,fq⟩:=HT.2 (by omega);have tc:=TxAt.kept _ _ _ _ _ (Zf cf HB) (fq k dw);have ef:=fq k dw;rw[fs] at tc ef;obtain⟨c0,⟨ai,ni,ci,c1,bu,ki⟩,ao,no,co,c2,cn,km⟩:=tc;simp only at c0 c1 c2 bu cn;have aq:=Za HQ;rw[sw_at dw,fs] at aq;have aq:=Zb aq;have AC:Hid (∀ U,ZD wr U->Tr.txR.C U [E J th,F ai ni ci,F ao no co] (th,I,O)):=λU hu=>⟨ai,ni,ci,ao,no,co,rfl,bu.later hu,ki,cn.later hu,km⟩;have bi:=Zb (And.intro bu cn);have ju:I.length=ni:=bu.1;obtain⟨z,hz⟩:=ZF (Zp (th,I,O));obtain⟨X,hX⟩:=ZG (wr.alloc (dA #[E J th,F ai ni ci,F ao no co] 50));have dv:ZD wr X:=(by rw[hX];exact Zh _ _);have X1:Hid (X.heap[wr.heap.size]? = dG (dA [E J th,F ai ni ci,F ao no co].toArray 50 (0,0))):=(by show _=_;rw[hX];exact Zu _ _ _ _ _);have CK:=Zb (Jk th ai ao ni ci no co I O X (bu.later dv) (cn.later dv));rw[hz] at CK;have cl:=aC _ _ c0
   have il:Hid ((doD ht (K',C) (th,I,O)).1≠0->S++(Y0 ht (T.drop (k+1)) (K',C)).1=S1/\(Y0 ht (T.drop (k+1)) (K',C)).2=(K1,C1)):=λq=>by
    have e:=Za aq;rw[if_neg q] at e;exact e
   have cg:Hid (∀ V,ZD wr V->(doD ht (K',C) (th,I,O)).1≠0->∃ (k1:Nat) (di:Option Addr) (dj fb:Nat) (K2:List ByteArray) (ec:Option Addr) (ed fu:Nat) (C2:List Zi) (S2:List TxD) (es:List (List Value)) (F2:Int) (v2:Value),k1<=m/\v2=vv/\bW ba bn bc = F di dj fb/\bW oa ag oc = F ec ed fu/\aU .i64 ae = E J F2/\aU .i64 ((k:Int)+1) = E J (k1:Int)/\Hid (Bk.TextsAt V di dj K2/\Bk.SlOk di dj fb/\Bk.Right K2)/\Hid (CoinsAt V ec ed C2/\SlOk ec ed fu/\Zy C2)/\Hid (V.ownsRow w.heap.size 50 3 v2 S2.length es.flatten)/\Hid (∀ U,ZD w0 U->Tr.AllC Tr.txR U es S2)/\Hid (Shp Nu 3 50 V v2)/\Hid (F2=Zm C0 - Zm C2)/\Hid (S2.length<=k1)/\Hid (S2++(Y0 ht (T.drop k1) (K2,C2)).1=S1/\(Y0 ht (T.drop k1) (K2,C2)).2=(K1,C1))/\Hid (ZD w V)):=λV hv q=>
    ⟨k+1,ba,bn,bc,K',oa,ag,oc,C,S,Kl,ae,vv,by omega,rfl,rfl,rfl,rfl,by push_cast;rfl,(⟨HK.1.later hv,HK.2.1,HK.2.2⟩:Bk.TextsAt V ba bn K'/\Bk.SlOk ba bn bc/\Bk.Right K'),(⟨HC.1.later hv,HC.2.1,HC.2.2⟩:CoinsAt V oa ag C/\SlOk oa ag oc/\Zy C),(Gr.of (S:=λ_=>False) hv).own HO (λ_ _ q=>q),HA,(λg hg=>by obtain⟨be,q1,q2⟩:=HP g hg;exact⟨be,(hv.block g (aA q1)).trans q1,q2⟩),HF,Nat.le_succ_of_le da,il q,Zf HB hv⟩
   have gb:Hid (∀ U,ZD w0 U->Tr.txR.C U [E J th,F ai ni ci,F ao no co] (th,I,O)):=λU hu=>(by
    obtain⟨d0,⟨kv,nf,kz,d1,dI,lj⟩,kx,nj,ld,d2,dO,lm⟩:=TxAt.kept _ _ _ _ _ hu ef;obtain⟨f0,⟨kw,nh,la,f1,fI,jf⟩,ky,nk,lf,f2,fO,jg⟩:=ef;have e1:=Option.some.inj (c1.symm.trans (Ze (Zf cf HB) f1));have e2:=Option.some.inj (c2.symm.trans (Ze (Zf cf HB) f2));injection e1 with iu iv iw;injection e2 with iy iz ja;subst iu iv iw iy iz ja;exact⟨_,_,_,_,_,_,rfl,fI.later hu,jf,fO.later hu,jg⟩)
   go_wp2_with fail;rw[<-hX];obtain⟨fx,fy,fz,xl⟩:=kc3 X1;have gq:=Zb dv;(try go_wp2_with fail);refine CK.mono ?_;rintro e w2 ⟨rfl,ff⟩;have bh:=Zb (Zf gq ff);have X2:Hid (w2.heap[wr.heap.size]? = dG (dA [E J th,F ai ni ci,F ao no co].toArray 50 (0,0))):=ZE ff X1;obtain⟨fx,fy,fz,xl⟩:=kc3 X2;by_cases dz:z=0
   ·subst dz;by_cases jt:ni=0
    ·subst jt;go_wp2_with fail;go_roundw
     case rel=>exact cg _ bh (Znc (.inr (by exact ju)))
     case measure=>simp[intOf];omega
    ·have lv:((ni:Int) == 0)=false:=(by simp;omega);have lw:¬((ni:Int)=0):=(by omega);obtain⟨K2,n2,x2,dx⟩:∃ K2 n2 x2,Bk.nm K' (Zr (th,I,O))=(K2,n2,x2):=⟨_,_,_,rfl⟩;have DN:=Znb (h:=ht) (C:=C) HK.2.2 hz (by show I.length≠0;omega) dx;have CT:=Zb (Qz th ai ao ni ci no co I O w2 (HE w2 (Zf HB bh)) (bi.1.later bh) (bi.2.later bh) hz);have CN:=Zb (λV (hv:ZD wr V)=>Bk.named_is ba bn bc K' K2 (Zr (th,I,O)) n2 x2 V HK.2.2.1 (HK.1.later hv) HK.2.1 dx);obtain⟨ku,ek,HZ⟩:=kh3 dx DN hz;go_wp2_with fail;refine CT.mono ?_;rintro e w3 ⟨rfl,fg⟩;have ej:=Zb (Zf bh fg);have X3:Hid (w3.heap[wr.heap.size]? = dG (dA [E J th,F ai ni ci,F ao no co].toArray 50 (0,0))):=ZE fg X2;have C4:=Zb (CN w3 ej);go_wp2_with fail;refine C4.mono ?_;rintro e w4 ⟨⟨b4,bs,dh,rfl,jp,kq,-⟩,fh⟩;have br:=Zb (Zf ej fh);have X4:Hid (w4.heap[wr.heap.size]? = dG (dA [E J th,F ai ni ci,F ao no co].toArray 50 (0,0))):=ZE fh X3;have ep:=Zb (And.intro jp kq);obtain⟨fx,fy,fz,xl⟩:=kc3 X4;by_cases dy:x2=0
     ·subst dy;obtain⟨y,M,s,dt⟩:∃ y M s,apD C (th,I,O) n2 ht=(y,M,s):=⟨_,_,_,rfl⟩;have DA:=ek.2 rfl y M s dt;obtain⟨CA,cx,cw⟩:=kh3 (Hu oa ag oc C th ai ao ni ci no co I O n2 ht y M s w4 (HC.1.later br) HC.2.1 (bi.1.later br) (bi.2.later br) HC.2.2 HZ dt) DA dt;go_wp2_with fail;refine CA.mono ?_;rintro e w5 ⟨am,mn,mc,sa,nt,cs,rfl,jm,kk,jo,ko,cq⟩;obtain⟨Y,hY⟩:=ZG (w5.alloc (dA #[F sa nt cs] 123));have bv:ZD w5 Y:=(by rw[hY];exact Zh _ _);have Y1:Hid (Y.heap[w5.heap.size]? = dG (dA [F sa nt cs].toArray 123 (0,0))):=(by show _=_;rw[hY];exact aG _ _);have ap:=Zb (Zf br (Zf cq bv));have XY:Hid (Y.heap[wr.heap.size]? = dG (dA [E J th,F ai ni ci,F ao no co].toArray 50 (0,0))):=ZE (Zf cq bv) X4;have eq:=Zb (⟨ep.1.later (Zf cq bv),ep.2⟩:Bk.TextsAt Y b4 bs K2/\Bk.SlOk b4 bs dh);obtain⟨el,eo⟩:=kh2 (And.intro (jm.later bv) kk) (And.intro (jo.later bv) ko);have er:Hid (w5.heap.size<Y.heap.size/\wr.heap.size<w5.heap.size):=⟨aA Y1,aF (aA X4) cq.size⟩
      go_upto_region 9 with fail
      rw[<-hY];clear hY;by_cases hy:y=0
      ·subst hy;have dl:=Bj cw;have fl:no<=6:=(by rw[<-(Za bi).2.1];exact (Xc HZ).2.1);have fo:nt<=6:=(by rw[<-(Za eo).1.1];exact dl.1);have fa:=(Qj cw).1;have dp:=(Rm cw).2.1;obtain⟨f,hf⟩:=ZF (Zm s - Yk O);have dn:ae+f=Zm C0 - Zm M:=(by have:=Za HF;simp only at fa;omega);have jq:=Za gu;have jr:=Zav dp;have hw:IntKind.i64.wrap (ae+f)=ae+f:=(by rw[dn,aP];omega);have FE:=Zb (λU (hb:ZD Y U)=>Af sa nt cs s th ai ao ni ci no co O f U fo fl (eo.1.later hb) (bi.2.later (Zf ap hb)) dl.2 (Jn HZ) hf)
       have gl:Hid (S++[(th,I,O)]++(Y0 ht (T.drop (k+1)) (K2,M)).1=S1/\(Y0 ht (T.drop (k+1)) (K2,M)).2=(K1,C1)):=by
        have e:=Za aq;rw[(cx.2 rfl),if_pos rfl] at e;show _/\_;rw[List.append_assoc,List.singleton_append];exact e
       have ie:Hid (Bk.Right K2):=(Zam HK.2.2 (cx.2 rfl)).1;obtain⟨ig,gx⟩:=kh2 dp dn;have bx:∀ q,vv.ownBlock=dG q->q<wr.heap.size:=λq e=>(HO.lt q e).2;have KS:Hid (∀ U,Gr Y U (λq=>vv.ownBlock=dG q)->U.cell? ⟨wr.heap.size,0,aD⟩=dG (E J th)/\U.cell? ⟨wr.heap.size,1,aD⟩=dG (F ai ni ci)/\U.cell? ⟨wr.heap.size,2,aD⟩=dG (F ao no co)/\U.cell? ⟨w5.heap.size,0,aD⟩=dG (F sa nt cs)/\w5.heap.size<U.heap.size):=λU hg=>⟨hg.cell (Zd XY 0 _ rfl) (λe=>by have:=bx _ e;simp at this),hg.cell (Zd XY 1 _ rfl) (λe=>by have:=bx _ e;simp at this),hg.cell (Zd XY 2 _ rfl) (λe=>by have:=bx _ e;simp at this),hg.cell (Zd Y1 0 _ rfl) (λe=>by have:=bx _ e;have:=er.2;simp at *;omega),aF er.1 hg.size⟩;clear dl fl fo fa dp dn jq jr hf bx
       go_upto_region 10 with fail
       refine bC (S:=λU=>U.cell? ⟨wr.heap.size,0,aD⟩=dG (E J th)/\U.cell? ⟨wr.heap.size,1,aD⟩=dG (F ai ni ci)/\U.cell? ⟨wr.heap.size,2,aD⟩=dG (F ao no co)/\U.cell? ⟨w5.heap.size,0,aD⟩=dG (F sa nt cs)/\w5.heap.size<U.heap.size) (by kernel_rfl) (KS _ (Gr.of (Zj _))) (λaa=>?_);refine tkL 0 rfl aa ?_;refine tkL 1 rfl aa ?_;refine tkL 2 rfl aa ?_;refine tkL 3 rfl aa ?_;refine tkL 4 rfl aa ?_;refine tkL 5 rfl aa ?_;refine tkL 8 rfl aa ?_;refine tkL 9 rfl aa ?_;refine wpAnyH_ready (rs:=[6,10]) (by kernel_rfl) (by simp) ?_;refine rdC rfl (λKQ hK=>?_) (rdC rfl (λKQ hK=>?_) AllReadyH.nil);refine Zq (by kernel_rfl) 60 #[.agg #[E J th,F ai ni ci,F ao no co],F sa nt cs] (by kernel_rfl) (FE _ (Zj _)) ?_;rintro e v6 ⟨rfl,ct⟩;refine⟨_,rfl,?_⟩;have fi:=Zf (Zj Y) ct;refine hK.out _ _ (KS _ (Gr.of fi)) (λaa=>?_);refine tkL 7 (v:=E J (ae+f)) rfl aa ?_;refine rdY 10 rfl (λKQ hK=>?_);go_simp;obtain⟨VZ,dq⟩:=ZG (v6.alloc (dA #[E J th,F ai ni ci,F ao no co] 50));rw[<-dq];obtain⟨cm,bw⟩:∃ g,g=v6.heap.size:=⟨_,rfl⟩;rw[<-bw];have h10:VZ.heap[cm]? = dG (dA [E J th,F ai ni ci,F ao no co].toArray 50 (0,0)):=(by rw[dq,bw];exact Zu _ _ _ _ _);have az:ZD Y VZ:=(by rw[dq];exact Zf fi (Zh _ _));refine hK.out _ _ (KS _ (Gr.of az)) (λaa=>?_);rotate_left;go_simp;obtain⟨WA,dr⟩:=ZG (Y.drew.alloc (dA #[E J th,F ai ni ci,F ao no co] 50))
       (rw[show (Y.alloc (dA #[E J th,F ai ni ci,F ao no co] 50)).drew=WA from dr.symm])
       obtain⟨cm,bw⟩:∃ g,g=Y.heap.size:=⟨_,rfl⟩;rw[<-bw];have jj:WA.heap[cm]? = dG (dA [E J th,F ai ni ci,F ao no co].toArray 50 (0,0)):=(by rw[dr,bw];exact Zu Y.drew _ _ _ _);have du:ZD Y WA:=(by rw[dr];exact Zf (Zj Y) (Zh _ _));refine hK.out _ _ (KS _ (Gr.of du)) (λaa=>?_);refine rdS 6 rfl (FE _ du) ?_;rintro e VZ ⟨rfl,ct⟩;have az:=Zf du ct;have h10:=ZE ct jj;refine⟨_,rfl,(KS _ (Gr.of az)),λaa=>?_⟩;refine tkL 7 (v:=E J (ae+f)) rfl aa ?_;rotate_left
       all_goals
        have et:=(Gr.of (S:=λ_=>False) (Zf ap az)).own HO (λ_ _ q=>q);have eu:Shp Nu 3 50 VZ vv:=λg hg=>by obtain⟨be,q1,q2⟩:=HP g hg;exact⟨be,((Zf ap az).block g (aA q1)).trans q1,q2⟩
        have jw:=Za da;refine rdY 11 rfl (λKQ hK=>?_);refine Sp (sh:=Nu) (by rfl) _ _ _ (by rfl) w.heap.size 50 i1 _ 3 56 underlying29 nx ke kf kg rfl (by decide) vv S.length Kl.flatten (by rfl) et ⟨cm,0,aD⟩ 1 1 [E J th,F ai ni ci,F ao no co] (by rfl) (by rfl) (bI (cs:=#[E J th,F ai ni ci,F ao no co]) (t:=50) (fr:=(0,0)) h10) (by simp[Value.oneCell']) (by decide) (by unfold aT;omega) (by omega) (Zf HB (Zf ap az)).size eu (λj u h=>by match j,h with|0,h=>(cases h;exact⟨λ_=>⟨_,rfl⟩,λq=>absurd rfl q⟩)|1,h=>(cases h;exact⟨λq=>absurd q (by decide),λ_=>⟨_,_,_,rfl⟩⟩)|2,h=>(cases h;exact⟨λq=>absurd q (by decide),λ_=>⟨_,_,_,rfl⟩⟩)|j+3,h=>simp at h) (λj u h=>by match j,h with|0,h=>(cases h;exact⟨λ_=>⟨_,rfl⟩,λq=>absurd rfl q⟩)|1,h=>(cases h;exact⟨λq=>absurd q (by decide),λ_=>⟨_,_,_,rfl⟩⟩)|2,h=>(cases h;exact⟨λq=>absurd q (by decide),λ_=>⟨_,_,_,rfl⟩⟩)|j+3,h=>simp[Value.cells] at h) ?_;intro ji ir w7 fm fk jv fp;have g7:Gr Y w7 (λq=>vv.ownBlock=dG q):=(Gr.of az).grown fk (λk e=>.inl e);refine hK.out _ _ (KS _ g7) (λaa=>?_);refine tkL 12 rfl aa ?_;refine tkL 13 rfl aa ?_;refine tkL 14 rfl aa ?_;refine tkL 15 rfl aa ?_;refine bZ (by kernel_rfl) ?_ _;clear aa;obtain⟨ib,id,cz⟩:=kh3 fm fp g7;clear fm fp g7 fk jv et eu jw h10 az
        have ik:=Zb (⟨Zfy eq.1 (λg hg=>by obtain⟨be,q1,q2⟩:=HP g hg;exact⟨be,(ap.block g (aA q1)).trans q1,q2⟩) cz,eq.2,Za ie⟩:Bk.TextsAt w7 b4 bs K2/\Bk.SlOk b4 bs dh/\Bk.Right K2);have ij:=Zb (⟨Zin el.1 (λg hg=>by obtain⟨be,q1,q2⟩:=HP g hg;exact⟨be,(ap.block g (aA q1)).trans q1,q2⟩) cz,el.2,Za ig⟩:CoinsAt w7 am mn M/\SlOk am mn mc/\Zy M)
        have im:Hid (w7.ownsRow w.heap.size 50 3 (F (dG ⟨ji,0,aD⟩) (S.length+1) ir) (S++[(th,I,O)]).length (Kl++([[E J th,F ai ni ci,F ao no co]]:List (List Value))).flatten):=by
         show cP _ _ _ _ _ _ _;rw[bL,List.length_singleton,List.flatten_append,List.flatten_singleton];exact Za ib
        have gc:Hid (∀ U,ZD w0 U->Tr.AllC Tr.txR U (Kl++[[E J th,F ai ni ci,F ao no co]]) (S++[(th,I,O)])):=λU hu=>Tr.AllC.snoc (HA U hu) (gb U hu);have gp:Hid (ZD w w7):=cz.below (Zf HB ap) (Zf HB ap).size (λq e=>(HO.lt q e).1);have io:Hid ((S++[(th,I,O)]).length<=k+1):=(by show _<=_;rw[bL,List.length_singleton];exact Nat.succ_le_succ da);go_wp2_with fail;go_roundw
        case rel=>exact⟨k+1,b4,bs,dh,K2,am,mn,mc,M,S++[(th,I,O)],Kl++[[E J th,F ai ni ci,F ao no co]],ae+f,_,by omega,rfl,rfl,rfl,rfl,by push_cast;rfl,ik,ij,im,gc,id,gx,io,gl,gp⟩
        case measure=>simp[intOf];omega
      ·have lz:(y != 0)=true:=(by simp[hy]);go_wp2_with fail;go_roundw
       case rel=>exact cg _ ap ((cx.1 hy))
       case measure=>simp[intOf];omega
     ·have ly:(x2 != 0)=true:=(by simp[dy]);go_wp2_with fail;go_roundw
      case rel=>exact cg _ br ((ek.1 dy))
      case measure=>simp[intOf];omega
   ·have nb:(z != 0)=true:=(by simp[dz]);go_wp2_with fail;go_roundw
    case rel=>exact cg _ bh (Znc (.inl (by rw[hz];exact dz)))
    case measure=>simp[intOf];omega
  ·obtain rfl:k=m:=(by omega);have ls:¬((k:Int)<(k:Int)):=(by omega);have aq:=Za HQ;rw[List.drop_of_length_le (by rw[Za ZT];exact aE _),Y0] at aq;simp only[List.append_nil,Prod.mk.injEq] at aq;obtain⟨rfl,rfl,rfl⟩:=aq;obtain⟨sa,sc,rfl,jx,kr⟩:=Tr.rows_of_own Tr.txR HO (HA wr (Zf cf HB)) rfl;have gy:Hid (Zoh w0 w wr K' S C (Zm C0 - Zm C) (dB (dC #[F ba bn bc,F sa S.length sc,F oa ag oc,E J ae]))):=⟨ba,bn,bc,sa,S.length,sc,oa,ag,oc,Kl,by rw[Za HF],HK.1,HK.2.1,jx,kr,HC.1,HC.2.1,Za HB,Za HO,Za HA⟩;go_wp2;refine aL (v:=dC #[F ba bn bc,F sa S.length sc,F oa ag oc,E J ae]) ?_ rfl gy;simp[results,Tryz.f28,go_sem]
theorem Zgr(ka kn kc K la ln lc C0 a m c T)(ht:Int)(K1 S1 C1 w)(hE:EnvF w)(hK:Bk.TextsAt w ka kn K)(sK:Bk.SlOk ka kn kc)(hR:Bk.Right K)(hC:CoinsAt w la ln C0)(sC:SlOk la ln lc)(ak:Zy C0)(hT:TxsAt w a m T)(hm:m<=8)(hx:Y0 ht T (K,C0)=(S1,K1,C1)) :
  Calls aB 28 #[F ka kn kc,F la ln lc,F a m c,E J ht] w λe w'=>Zti w w' K1 S1 C1 (Zm C0 - Zm C1) e:=
 (Ll w ka kn kc K la ln lc C0 a m c T ht K1 S1 C1 w hE hK sK hR hC sC ak (Below.refl _ _) hT hm hx).mono λ_ _ ⟨x1,x2,x3,x4,x5,x6,x7,x8,x9,_,h1,h2,h3,h4,h5,h6,h7,h8,_⟩=>⟨x1,x2,x3,x4,x5,x6,x7,x8,x9,h1,h2,h3,h4,h5,h6,h7,h8⟩
end
theorem mvd{V W:World}{b:Nat}{o:Obj}(hb:ZD V W)(h:Hid (V.heap[b]? = dG o)):Hid (W.heap[b]? = dG o):=ZE hb h
theorem onb{U V W:World}(h:Hid (ZD U V))(hb:ZD V W):Hid (ZD U W):=Zf h hb
section
section
variable {V : World} {b : Nat} {t : TypeId} {v0 v1 v2 v3 v4 : Value}
theorem cl1(h:Hid (V.heap[b]? = dG (dA [v0].toArray t (0,0)))):V.cell? ⟨b,0,aD⟩=dG v0/\b<V.heap.size:=⟨Zd h 0 _ rfl,aA h⟩
theorem cl2(h:Hid (V.heap[b]? = dG (dA [v0,v1].toArray t (0,0)))):V.cell? ⟨b,0,aD⟩=dG v0/\V.cell? ⟨b,1,aD⟩=dG v1/\b<V.heap.size:=⟨Zd h 0 _ rfl,Zd h 1 _ rfl,aA h⟩
theorem cl3(h:Hid (V.heap[b]? = dG (dA [v0,v1,v2].toArray t (0,0)))):V.cell? ⟨b,0,aD⟩=dG v0/\V.cell? ⟨b,1,aD⟩=dG v1/\V.cell? ⟨b,2,aD⟩=dG v2/\b<V.heap.size:=⟨Zd h 0 _ rfl,Zd h 1 _ rfl,Zd h 2 _ rfl,aA h⟩
theorem cl4(h:Hid (V.heap[b]? = dG (dA [v0,v1,v2,v3].toArray t (0,0)))):V.cell? ⟨b,0,aD⟩=dG v0/\V.cell? ⟨b,1,aD⟩=dG v1/\V.cell? ⟨b,2,aD⟩=dG v2/\V.cell? ⟨b,3,aD⟩=dG v3/\b<V.heap.size:=⟨Zd h 0 _ rfl,Zd h 1 _ rfl,Zd h 2 _ rfl,Zd h 3 _ rfl,aA h⟩
theorem cl5(h:Hid (V.heap[b]? = dG (dA [v0,v1,v2,v3,v4].toArray t (0,0)))):V.cell? ⟨b,0,aD⟩=dG v0/\V.cell? ⟨b,1,aD⟩=dG v1/\V.cell? ⟨b,2,aD⟩=dG v2/\V.cell? ⟨b,3,aD⟩=dG v3/\V.cell? ⟨b,4,aD⟩=dG v4/\b<V.heap.size:=⟨Zd h 0 _ rfl,Zd h 1 _ rfl,Zd h 2 _ rfl,Zd h 3 _ rfl,Zd h 4 _ rfl,aA h⟩
end
end
open Tr (fnd Y7 chkTr TrOk)
theorem Pp(a)(n c:Nat)(K)(s:ByteArray)(o:Bool)(w:World)(hn:n<=aT)(h:Bk.TextsAt w a n K)(ho:(!decide (Bk.place s K=0))=o) :
  ZH 22 #[F a n c,.string s] w (dF o):=by
 obtain⟨x,hx⟩:∃ x:Int,(Bk.place s K:Int) - 1=x:=⟨_,rfl⟩;have C1:=Zb (Bk.indexS_is a n c K s x w hn h hx)
 have R:Hid (decide (0<=x)=o):=by
  show _=_;rw[<-ho];by_cases q:Bk.place s K=0
  ·rw[decide_eq_true q,decide_eq_false (by omega)];rfl
  ·rw[decide_eq_false q,decide_eq_true (by omega)];rfl
 go_enter func22,ntmps22;go_wp2_with fail;refine C1.mono ?_;rintro e w1 ⟨rfl,hb⟩;have HB:=Zb hb;go_wp2;go_ret;exact⟨by rw[<-Za R];rfl,Za HB⟩
theorem Bt{N T}(hc:chkTr N T=0)(s:Int):Wi N T s=(fnd s N T).2.1:=by
 unfold Wi Tr.blockE;rw[if_neg (λq=>q hc)];by_cases q:s∈N
 ·rw[if_pos (decide_eq_true q)]
 ·rw[if_neg (by simpa using q),Tr.fnd_out (TrOk.of hc).len q]
theorem Lp(a b)(n c d:Nat)(N T)(s z:Int)(w:World)(hc:chkTr N T=0)(hn:n<=aT)(hN:Tr.IntsAt w a n N)(hT:Tr.BlksAt w b n T)(hs:s=0\/s∈N)(hz:Wi N T s=z) :
  ZH 26 #[.agg #[F a n c,F b n d],E J s] w (E J z):=by
 obtain⟨X,hX,hb,af⟩:=ka00 w [F a n c,F b n d] 28;have C1:=Zb (Tr.rpath_is a b n c d N T s _ _ X (TrOk.of hc) hn (hN.later hb) (hT.later hb) hs rfl rfl)
 have R:Hid (((Y7 N T s).length:Int)=z):=by
  show _=_;rw[<-hz,Bt hc,Tr.pth_length];have:=(Wh hc).2.2.2.2.2 s;rw[Bt hc] at this;omega
 obtain⟨am,an,xl⟩:=cl2 (Zb af);have HB:=Zb hb;go_enter func26,ntmps26;go_wp2_with fail;rw[<-hX];refine C1.mono ?_;rintro e w1 ⟨v,rfl,ho,hb⟩;obtain⟨a1,c1,rfl,_,_⟩:=Tr.ints_of_own ho;have HB:=onb HB hb;go_wp2;go_ret;exact⟨by rw[<-Za R];rfl,Za HB⟩
def opA(K:List ByteArray)(N:List Int)(T:List Zk)(P:List TxD)(tip:Int)(r:Int×(Int->List Zi)):Int:=if r.1≠0 then r.1 else poE K N T P tip r.2
theorem op_eq{K N T P}{tip:Int}:opE K N T P tip=if Bk.bkChk K≠0 then Bk.bkChk K else if chkTr N T≠0 then chkTr N T else if Tr.bstGo N T 0 0 N≠tip then 4 else opA K N T P tip (Yq K N T noB):=by
 unfold opE opA;by_cases q:chkTr N T=0
 ·have e:Tr.bstD N T=(Tr.bstGo N T 0 0 N,0):=by unfold Tr.bstD;rw[if_neg (λr=>r q)]
  rw[e,if_neg (c:=(0:Int)≠0) (by simp),if_neg (c:=chkTr N T≠0) (by simp[q])]
 ·have e:(Tr.bstD N T).2=chkTr N T:=by unfold Tr.bstD;rw[if_pos q]
  rw[e,if_pos (c:=chkTr N T≠0) q,if_pos (c:=chkTr N T≠0) q]
theorem kb_no{K:List ByteArray}{j:Nat}{b:Zk}(hj:j<K.length)(h:K[j]≠Se b):kbD K ((j:Int)+1) b=false:=by
 unfold kbD
 have:¬((Bk.place (Se b) K:Int)=(j:Int)+1):=λq=>h (by
  have:=Bk.place_get (n:=j) (s:=Se b) (L:=K) (by omega);rw[List.getElem?_eq_getElem hj] at this;exact Option.some.inj this)
 rw[decide_eq_false this];simp
theorem Zsw{K:List ByteArray}{s:Int}{b:Zk}(h:(K.length:Int)<s):kbD K s b=false:=by
 unfold kbD;have:=Bk.place_le (Se b) K;rw[decide_eq_false (p:=(Bk.place (Se b) K:Int)=s) (by omega)];simp
theorem Zcn{K:List ByteArray}(hK:Bk.Right K){j:Nat}(hj:j<K.length):Bk.place K[j] K=j+1:=by
 obtain⟨h1,h2⟩:=Bk.place_at hj;obtain⟨n,hn⟩:∃ n,Bk.place K[j] K=n+1:=⟨Bk.place K[j] K - 1,by omega⟩;have:=Bk.place_get hn;rw[cD] at this;obtain⟨q,e⟩:=this;have:=(List.getElem_inj hK.2.1).1 e;omega
theorem Zsv{K:List ByteArray}(hK:Bk.Right K){j:Nat}{b:Zk}(hb:Yu b=0)(hj:j<K.length)(h:K[j]=Se b):kbD K ((j:Int)+1) b=b.2.2.2.2.all (knT K):=by
 unfold kbD;have:=Zcn hK hj;rw[h] at this;rw[this,decide_eq_true hb,decide_eq_true (by simp)];simp
theorem Zdd{K t}(h:Zp t=0):knT K t = !decide (Bk.place (Zr t) K=0):=by
 unfold knT;rw[decide_eq_true h,Sl h];rfl
theorem Zbn{α : Type}{f : α->Bool}{L:List α}{j:Nat}(hj:j<L.length)(h:(L.take j).all f=true):(L.take (j+1)).all f=f L[j]:=by
 rw[aH hj,List.all_append,h];simp
theorem Zod{α : Type}{f : α->Bool}{L:List α}{j:Nat}(hj:j<L.length)(h:f L[j]=false):L.all f=false:=by
 rw[List.all_eq_false];exact⟨_,aQ hj,by rw[h];decide⟩
theorem Zbu(h:Int):∀ (l:List TxD) (s:List ByteArray×List Zi),(Y0 h l s).1.length<=l.length
 | [],_=>aE _
 | t :: l,s=>by
  rw[Y0];split
  ·exact Nat.succ_le_succ (Zbu h l _)
  ·exact Nat.le_succ_of_le (Zbu h l s)
theorem Nx(ka na ba pa kn kc nn nc bn bc pn pc K N T P)(tip x:Int)(w:World)(hE:EnvF w)(hK:Bk.TextsAt w ka kn K)(sK:Bk.SlOk ka kn kc)(hN:Tr.IntsAt w na nn N)(hT:Tr.BlksAt w ba bn T)(hP:TxsAt w pa pn P)(sN:SlOk na nn nc)(sT:SlOk ba bn bc)(sP:SlOk pa pn pc)(hx:opE K N T P tip=x) :
  ZH 6 #[.agg #[F ka kn kc],.agg #[F na nn nc,F ba bn bc,F pa pn pc,E J tip]] w (E J x):=by
 obtain⟨X,hX⟩:=ZG ((w.alloc (dA #[F ka kn kc] 24)).alloc (dA #[F na nn nc,F ba bn bc,F pa pn pc,E J tip] 31));have hb:ZD w X:=by rw[hX];exact Zf (Zh _ _) (Zh _ _)
 have br:Hid (X.heap[w.heap.size]? = dG (dA [F ka kn kc].toArray 24 (0,0))):=by rw[hX];exact ((Zh _ _).block _ (by simp)).trans (aG _ _)
 have cc:Hid (X.heap[w.heap.size+1]? = dG (dA [F na nn nc,F ba bn bc,F pa pn pc,E J tip].toArray 31 (0,0))):=by
  rw[hX];have:=aG (w.alloc (dA #[F ka kn kc] 24)) (dA #[F na nn nc,F ba bn bc,F pa pn pc,E J tip] 31);rwa [cS] at this
 rw[op_eq] at hx;obtain⟨y1,dr⟩:∃ y,Bk.bkChk K=y:=⟨_,rfl⟩;obtain⟨y2,ds⟩:∃ y,chkTr N T=y:=⟨_,rfl⟩;obtain⟨z,hz⟩:=ZF (Tr.bstGo N T 0 0 N);rw[dr,ds,hz] at hx;obtain⟨HB,C1⟩:=kh2 hb (Bk.rcheck_is ka kn kc K X (hK.later hb) y1 dr);have C2:=Zb (λV (hv:ZD w V)=>Tr.rchkTree_any na ba nn nc bn bc N T y2 V (hN.later hv) (hT.later hv) sN sT ds);obtain⟨HX,gv,bs,HZ,HE,HK,fa,HN⟩:=kh8 hx dr ds hz hE hK sK hN;obtain⟨HT,HP,gs,eb⟩:=kh4 hT hP sN sT;have iy:pn<=aT:=sP.len;unfold aT at iy;obtain⟨bo,kl⟩:=cl1 br;obtain⟨bd,be,bf,bg,nl⟩:=cl4 cc;clear hE hK sK hN hT hP sN sT sP hx hb dr ds hz;go_enter func6,ntmps6
 go_upto_region 1 with fail
 rw[<-hX];clear hX;go_wp2_with fail;refine C1.mono ?_;rintro e w1 ⟨rfl,hb⟩;have HB:=onb HB hb;have br:=mvd hb br;have cc:=mvd hb cc;by_cases q1:y1=0
 case neg=>
  have g:(y1 != 0)=true:=by simp[q1]
  have R:Hid (x=y1):=HX.symm.trans (if_pos q1);go_wp2;go_ret;exact⟨by rw[Za R];rfl,Za HB⟩
 subst q1;obtain⟨HX,HR,C⟩:=kh3 ((if_neg (by decide)).symm.trans HX) ((Bk.right_iff K).1 gv) (C2 w1 HB);obtain⟨bd,be,bf,bg,nl⟩:=cl4 cc;go_wp2_with fail;refine C.mono ?_;rintro e w2 ⟨rfl,hb⟩;have HB:=onb HB hb;have br:=mvd hb br;have cc:=mvd hb cc;by_cases q2:y2=0
 case neg=>
  have g:(y2 != 0)=true:=by simp[q2]
  have R:Hid (x=y2):=HX.symm.trans (if_pos q2);go_wp2;go_ret;exact⟨by rw[Za R];rfl,Za HB⟩
 subst q2;have HX:=Zb ((if_neg (by decide)).symm.trans HX);have ej:=TrOk.of bs;have TF:=Wh bs;obtain rfl:nn=bn:=HN.1.symm.trans (ej.len.trans HT.1);have ei:nn<=24:=by rw[<-(Za HN).1];exact TF.2.1
 have je:=V9 (z:=z) (by unfold Tr.bstD;rw[if_neg (λq=>q bs),Za HZ]);have C:=Zb (λV (hv:ZD w2 V)=>Tr.rbest_is na ba nn nc bc N T z V ej ei (HN.later (Zf HB hv)) (HT.later (Zf HB hv)) gs HZ)
 have XS:Hid (∀ U,ZD w2 U->U.cell? ⟨w.heap.size,0,aD⟩=dG (F ka kn kc)/\U.cell? ⟨w.heap.size+1,0,aD⟩=dG (F na nn nc)/\U.cell? ⟨w.heap.size+1,1,aD⟩=dG (F ba nn bc)/\U.cell? ⟨w.heap.size+1,2,aD⟩=dG (F pa pn pc)/\U.cell? ⟨w.heap.size+1,3,aD⟩=dG (E J tip)/\w.heap.size+1<U.heap.size):=λU hu=>by
  obtain⟨a1,a2⟩:=cl1 (mvd hu br);obtain⟨b1,b2,b3,b4,b5⟩:=cl4 (mvd hu cc);exact⟨a1,b1,b2,b3,b4,b5⟩
 obtain⟨ea,ec⟩:=kh2 ej je.2
 go_upto_region 7 with fail
 refine bC (S:=λU=>ZD w2 U/\U.cell? ⟨w.heap.size,0,aD⟩=dG (F ka kn kc)/\U.cell? ⟨w.heap.size+1,0,aD⟩=dG (F na nn nc)/\U.cell? ⟨w.heap.size+1,1,aD⟩=dG (F ba nn bc)/\U.cell? ⟨w.heap.size+1,2,aD⟩=dG (F pa pn pc)/\U.cell? ⟨w.heap.size+1,3,aD⟩=dG (E J tip)/\w.heap.size+1<U.heap.size) (by kernel_rfl) ⟨Zj _,XS _ (Zj _)⟩ (λab=>?_);refine tkL 0 rfl ab ?_;refine tkL 1 rfl ab ?_;refine tkL 3 rfl ab ?_;refine tkL 4 rfl ab ?_;refine rdS 2 rfl (C _ ab.1) ?_;rintro e w3 ⟨rfl,hb⟩;have hb:=Zf ab.1 hb;refine⟨_,rfl,⟨hb,XS _ hb⟩,λab=>?_⟩;have HB:=onb HB hb;have XS:Hid (∀ U,ZD w3 U->U.cell? ⟨w.heap.size,0,aD⟩=dG (F ka kn kc)/\U.cell? ⟨w.heap.size+1,0,aD⟩=dG (F na nn nc)/\U.cell? ⟨w.heap.size+1,1,aD⟩=dG (F ba nn bc)/\U.cell? ⟨w.heap.size+1,2,aD⟩=dG (F pa pn pc)/\U.cell? ⟨w.heap.size+1,3,aD⟩=dG (E J tip)/\w.heap.size+1<U.heap.size):=λU hu=>XS U (Zf hb hu);by_cases q3:z=tip
 case neg=>
  have g:(z != tip)=true:=by simp[q3]
  have R:Hid (x=4):=HX.symm.trans (if_pos q3);refine tkL 5 (v:=dF true) rfl ab ?_;refine bZ (by kernel_rfl) ?_ _;go_wp2;go_ret;exact⟨by rw[Za R];rfl,Za HB⟩
 subst q3;have HX:=Zb ((if_neg (by simp)).symm.trans HX);refine tkL 5 (v:=dF false) rfl ab ?_;refine bZ (by kernel_rfl) ?_ _;have br:Hid (opA K N T P z (Yq K (N.drop 0) (T.drop 0) noB)=x):=Za HX;have gi:Hid (BehD K N T noB (N.take 0)):=⟨rfl,λ_ h=>by cases h⟩;obtain⟨bo,bd,be,bf,bg,nl⟩:=XS w3 (Below.refl _ _);have C3:=Zb (λV (hv:ZD w V) (s:Int) (x:Int) (C:List Zi) (hs:s=0\/s∈N) (hx:Ur K N T (Y7 N T s) []=(x,C))=>P8 ka kn kc K na ba nn nc bc N T s x C V (HE.later hv) (HK.later hv) fa HR (HN.later hv) (HT.later hv) (aO ei (by decide)) ea hs hx);have fl:kn<=120:=by rw[<-(Za HK).1];exact HR.1
 have gc:=HB;go_wp2_with fail
 go_loopw [44] (λjw U=>∃ (k:Nat) (β : Int->List Zi),k<=nn/\jw = E J (k:Int)/\Hid (opA K N T P z (Yq K (N.drop k) (T.drop k) β)=x)/\Hid (BehD K N T β (N.take k))/\Hid (ZD w3 U)) (λjw _=>nn - (intOf jw).toNat)
 case atStart=>exact⟨0,noB,aI _,rfl,br,gi,Below.refl _ _⟩
 case round=>
  obtain⟨k,β,hk,rfl,HQ,HI,HG⟩:=hrel;obtain⟨V0,il⟩:=ZG (wr);subst il;have HB:=onb gc HG;obtain⟨bo,bd,be,bf,bg,nl⟩:=XS V0 HG;by_cases fo:k<nn
  case pos=>
   have jp:(k:Int)<(nn:Int):=(by omega);have ct:k<N.length:=(by rw[(Za HN).1];exact fo);have dg:k<T.length:=(by rw[(Za HT).1];exact fo);have hq:=Za HQ;rw[Zno ct dg] at hq;have cu:=Nq bs ct dg HI;have en:=Zb (Zbl bs ct dg HI);have ix:=ea.nm _ (aQ ct);have fp:=aQ ct;have fk:=ea.chk _ (aQ dg);obtain⟨nb,no,rfl,_,iw⟩:=(HN.later HB).2 (by omega);have f1:=iw k ct;obtain⟨tb,an,rfl,_,jc⟩:=(HT.later HB).2 (by omega);have fj:=jc k dg;obtain⟨s,hs⟩:=ZF (N[k]);obtain⟨⟨bp,bh,bk,jx,L⟩,io⟩:=ZF (T[k]);rw[hs] at f1 ix cu fp en hq;rw[io] at fj fk cu en hq;obtain⟨g0,g1,g2,g3,ta,tn,tc,g4,ht,jt⟩:=fj;simp only at g0 g1 g2 g3 ht;have jr:IntKind.i64.wrap ((k:Int)+1)=((k:Int)+1):=(by rw[aP];omega);obtain⟨HQ,gp,gm,cy,cb⟩:=kh5 hq cu fp fk ht
   go_upto_region 12 with fail
   by_cases iq:(kn:Int)<s
   case pos=>
    have R:Hid (x=5):=by
     show _=_;rw[<-Za HQ,Zsw (by rw[(Za HK).1];exact iq)];simp[opA]
    go_quiet (fail)
    go_wp2;go_ret;exact⟨by rw[Za R];rfl,by first|exact Za HB|exact Zf HB (Z9 _ _)⟩
   obtain⟨j,rfl⟩:∃ j:Nat,s=(j:Int)+1:=⟨(s - 1).toNat,by omega⟩;have ir:j<kn:=(by omega);have jm:(j:Int)<(kn:Int):=(by omega);have eg:j<K.length:=(by rw[(Za HK).1];exact ir);obtain⟨kb,ko,rfl,it⟩:=(HK.later HB).2 (by omega);have f2:=it j eg;have jn:IntKind.i64.wrap (j:Int)=(j:Int):=(by rw[aP];omega);have C:=Zb (λV (hv:ZD V0 V)=>Gv bp bh bk jx ta tn tc L V (HE.later (Zf HB hv)) (cb.later hv) cy)
   have KS:Hid (∀ U,ZD V0 U->U.cell? ⟨w.heap.size,0,aD⟩=dG (F (dG ⟨kb,ko,aD⟩) kn kc)/\U.cell? ⟨w.heap.size+1,0,aD⟩=dG (F (dG ⟨nb,no,aD⟩) nn nc)/\U.cell? ⟨w.heap.size+1,1,aD⟩=dG (F (dG ⟨tb,an,aD⟩) nn bc)/\U.cell? ⟨w.heap.size+1,2,aD⟩=dG (F pa pn pc)/\U.cell? ⟨w.heap.size+1,3,aD⟩=dG (E J z)/\w.heap.size+1<U.heap.size/\U.cell? ⟨kb,ko+j,aD⟩=dG (.string K[j])/\U.cell? ⟨tb,an+k*5,aD⟩=dG (E J bp)/\U.cell? ⟨tb,an+k*5+1,aD⟩=dG (E J bh)/\U.cell? ⟨tb,an+k*5+2,aD⟩=dG (E J bk)/\U.cell? ⟨tb,an+k*5+3,aD⟩=dG (E J jx)/\U.cell? ⟨tb,an+k*5+4,aD⟩=dG (F ta tn tc)):=λU hu=>by
    obtain⟨a1,a2,a3,a4,a5,a6⟩:=XS U (Zf HG hu);exact⟨a1,a2,a3,a4,a5,a6,Ze hu f2,Ze hu g0,Ze hu g1,Ze hu g2,Ze hu g3,Ze hu g4⟩
   refine bC (S:=λU=>ZD V0 U/\U.cell? ⟨w.heap.size,0,aD⟩=dG (F (dG ⟨kb,ko,aD⟩) kn kc)/\U.cell? ⟨w.heap.size+1,0,aD⟩=dG (F (dG ⟨nb,no,aD⟩) nn nc)/\U.cell? ⟨w.heap.size+1,1,aD⟩=dG (F (dG ⟨tb,an,aD⟩) nn bc)/\U.cell? ⟨w.heap.size+1,2,aD⟩=dG (F pa pn pc)/\U.cell? ⟨w.heap.size+1,3,aD⟩=dG (E J z)/\w.heap.size+1<U.heap.size/\U.cell? ⟨kb,ko+j,aD⟩=dG (.string K[j])/\U.cell? ⟨tb,an+k*5,aD⟩=dG (E J bp)/\U.cell? ⟨tb,an+k*5+1,aD⟩=dG (E J bh)/\U.cell? ⟨tb,an+k*5+2,aD⟩=dG (E J bk)/\U.cell? ⟨tb,an+k*5+3,aD⟩=dG (E J jx)/\U.cell? ⟨tb,an+k*5+4,aD⟩=dG (F ta tn tc)) (by kernel_rfl) ⟨Zj _,KS _ (Zj _)⟩ (λab=>?_);refine tkL 0 rfl ab ?_;refine tkL 1 rfl ab ?_;refine tkL 2 rfl ab ?_;refine tkL 3 rfl ab ?_;refine tkL 4 (v:=dF false) rfl ab ?_;refine tkL 5 rfl ab ?_;refine tkL 6 rfl ab ?_;refine tkL 7 rfl ab ?_;refine tkL 8 rfl ab ?_;refine tkL 9 (v:=E J (j:Int)) rfl ab ?_;refine tkL 10 rfl ab ?_;refine tkL 11 rfl ab ?_;refine tkL 12 rfl ab ?_;refine tkL 13 rfl ab ?_;refine tkL 14 rfl ab ?_;refine tkL 15 rfl ab ?_;refine tkL 16 rfl ab ?_;refine tkL 17 rfl ab ?_;refine rdS 18 rfl (C _ ab.1) ?_;rintro e w4 ⟨rfl,hb⟩;have hb:=Zf ab.1 hb;refine⟨_,rfl,⟨hb,KS _ hb⟩,λab=>?_⟩;have ey:Hid (Xl (bp,bh,bk,jx,L)=Se (bp,bh,bk,jx,L)):=(R0 cy).symm;by_cases hq:K[j]=Xl (bp,bh,bk,jx,L)
   case neg=>
    have R:Hid (x=5):=by
     show _=_;rw[<-Za HQ,kb_no eg (by rw[<-Za ey];exact hq)];simp[opA]
    have g:=Bk.str_ne hq;refine tkL 19 (v:=dF true) rfl ab ?_;refine tkL 20 (v:=dF true) rfl ab ?_;refine bZ (by kernel_rfl) ?_ _;go_wp2;go_ret;exact⟨by rw[Za R];rfl,Zf HB hb⟩
   have g:(K[j].toList == (Xl (bp,bh,bk,jx,L)).toList)=true:=(by rw[hq];simp);refine tkL 19 (v:=dF false) rfl ab ?_;refine tkL 20 (v:=dF false) rfl ab ?_;refine bZ (by kernel_rfl) ?_ _;have HQ:=Zb ((congrArg _ (by rw[Zsv HR cy eg (by rw[<-Za ey];exact hq)])).symm.trans HQ);have HG:=onb HG hb;have HB:=onb HB hb;have cb:Hid (TxsAt w4 ta tn L):=cb.later hb;obtain⟨bo,bd,be,bf,bg,nl,-,-,-,-,-,g4⟩:=KS w4 hb;have iu:L.length<=4:=(Q9 cy).2.1;have jq:tn<=4:=(by rw[<-(Za cb).1];exact iu);have ez:=HG;have dz:Hid ((L.take 0).all (knT K)=true):=rfl;have gj:=Zb (Fe cy);go_wp2_with fail
   go_loopw [78] (λjw U=>∃ (q:Nat),q<=tn/\jw = E J (q:Int)/\Hid ((L.take q).all (knT K)=true)/\Hid (ZD w4 U)) (λjw _=>tn - (intOf jw).toNat)
   case atStart=>exact⟨0,aI _,rfl,dz,Below.refl _ _⟩
   case round=>
    obtain⟨q,hq,rfl,HL,HJ⟩:=hrel;obtain⟨V1,ef⟩:=ZG (wr);subst ef;by_cases ek:q<tn
    case pos=>
     have bv:q<L.length:=(by rw[(Za cb).1];exact ek);have iz:(q:Int)<(tn:Int):=(by omega);obtain⟨lb,lo,rfl,_,eh⟩:=(cb.later HJ).2 (by omega);have dl:=eh q bv;have df:=gj _ (aQ bv);have ar:=Zbn bv HL;have bu:=Zb (λh=>Zod (f:=knT K) bv h);obtain⟨⟨th,I,O⟩,ep⟩:=ZF (L[q]);rw[ep] at dl df ar bu;rw[Zdd df] at ar bu;obtain⟨c0,⟨ai,ni,ci,c1,cp,jg⟩,ao,aq,co,c2,cq,jh⟩:=dl;simp only at c0 c1 c2 cp cq;obtain⟨o,ho⟩:=ZF ((!decide (Bk.place (Zr (th,I,O)) K=0)));rw[ho] at ar bu;obtain⟨X2,cf⟩:=ZG (V1.alloc (dA #[E J th,F ai ni ci,F ao aq co] 50));have al:ZD V1 X2:=(by rw[cf];exact Zh _ _);have h2:Hid (X2.heap[V1.heap.size]? = dG (dA [E J th,F ai ni ci,F ao aq co].toArray 50 (0,0))):=(by show _=_;rw[cf];exact aG _ _);have ap:=onb HB (Zf HJ al);have C4:=Zb (λV (hv:ZD X2 V)=>Qz th ai ao ni ci aq co I O V (HE.later (Zf ap hv)) (cp.later (Zf al hv)) (cq.later (Zf al hv)) df);have C5:=Zb (λV (hv:ZD X2 V)=>Pp (dG ⟨kb,ko,aD⟩) kn kc K (Zr (th,I,O)) o V (aO fl (by decide)) (HK.later (Zf ap hv)) ho)
     have KS:Hid (∀ U,ZD X2 U->U.cell? ⟨w.heap.size,0,aD⟩=dG (F (dG ⟨kb,ko,aD⟩) kn kc)/\U.cell? ⟨V1.heap.size,0,aD⟩=dG (E J th)/\U.cell? ⟨V1.heap.size,1,aD⟩=dG (F ai ni ci)/\U.cell? ⟨V1.heap.size,2,aD⟩=dG (F ao aq co)):=λU hu=>by
      obtain⟨a1,a2,a3,_⟩:=cl3 (mvd hu h2);exact⟨(XS U (Zf ez (Zf HJ (Zf al hu)))).1,a1,a2,a3⟩
     have jd:IntKind.i64.wrap ((q:Int)+1)=((q:Int)+1):=(by rw[aP];omega);obtain⟨cx,ca⟩:=kh2 ar (Zf HJ al);have cl:=aC _ _ c0
     go_upto_region 17 with fail
     rw[<-cf];refine bC (S:=λU=>ZD X2 U/\U.cell? ⟨w.heap.size,0,aD⟩=dG (F (dG ⟨kb,ko,aD⟩) kn kc)/\U.cell? ⟨V1.heap.size,0,aD⟩=dG (E J th)/\U.cell? ⟨V1.heap.size,1,aD⟩=dG (F ai ni ci)/\U.cell? ⟨V1.heap.size,2,aD⟩=dG (F ao aq co)) (by kernel_rfl) ⟨Zj _,KS _ (Zj _)⟩ (λab=>?_);refine tkL 0 rfl ab ?_;refine tkL 1 rfl ab ?_;refine tkL 2 rfl ab ?_;refine rdS 3 rfl (C4 _ ab.1) ?_;rintro e w5 ⟨rfl,hb⟩;have hb:=Zf ab.1 hb;refine⟨_,rfl,⟨hb,KS _ hb⟩,λab=>?_⟩;refine rdS 4 rfl (C5 _ hb) ?_;rintro e w6 ⟨rfl,de⟩;have hb:=Zf hb de;refine⟨_,rfl,⟨hb,KS _ hb⟩,λab=>?_⟩;refine tkL 5 rfl ab ?_;refine bZ (by kernel_rfl) ?_ _;have ap:=onb ap hb;have ca:=onb ca hb;cases o with
     | false=>
      have R:Hid (x=5):=by
       have h:=Za HQ;rw[if_pos (bu rfl)] at h;show _=_;rw[<-h];simp[opA]
      go_wp2;go_ret;exact⟨by rw[Za R];rfl,Za ap⟩
     | true=>
      go_wp2;go_roundw
      case rel=>exact⟨q+1,by omega,by go_num,cx,ca⟩
      case measure=>simp[intOf];omega
    case neg=>
     obtain rfl:q=tn:=(by omega);have hl:=Za HL;rw[aM (by rw[(Za cb).1];exact aE _)] at hl;have h:=Za HQ;rw[if_neg (by rw[hl];decide)] at h;obtain⟨⟨y3,D3⟩,fq⟩:=ZF (nxD K (β bp) (bp,bh,bk,jx,L));have cu:=Za gp;rw[fq] at cu;have fh:=Zf ez HJ;have HB:=onb HB HJ;have C:=Zb (C3 V1 HB _ y3 D3 (.inr gm) cu);have gx:Hid (∀ U,ZD V1 U->U.cell? ⟨w.heap.size,0,aD⟩=dG (F (dG ⟨kb,ko,aD⟩) kn kc)/\U.cell? ⟨w.heap.size+1,0,aD⟩=dG (F (dG ⟨nb,no,aD⟩) nn nc)/\U.cell? ⟨w.heap.size+1,1,aD⟩=dG (F (dG ⟨tb,an,aD⟩) nn bc)/\U.cell? ⟨w.heap.size+1,2,aD⟩=dG (F pa pn pc)/\U.cell? ⟨w.heap.size+1,3,aD⟩=dG (E J z)/\w.heap.size+1<U.heap.size):=λU hu=>XS U (Zf fh hu);obtain⟨bo,bd,be,bf,bg,nl⟩:=gx V1 (Below.refl _ _);obtain⟨HQ,gn,dn⟩:=kh3 h fq fh;go_wp2_with fail;refine C.mono ?_;rintro e w5 ⟨oa,dj,oc,rfl,_,_,hb⟩;have HB:=onb HB hb;have dn:=onb dn hb;have h:=Za HQ;have h3:=Za gn;unfold nxD at h3;by_cases q3:(Xf K (β bp) (bp,bh,bk,jx,L)).1=0
     case neg=>
      rw[if_pos q3] at h3 h;obtain⟨rfl,_⟩:=cA h3;obtain⟨y,hy⟩:=ZF ((Xf K (β bp) (bp,bh,bk,jx,L)).1);rw[hy] at h q3 ⊢;have g:(y != 0)=true:=by simp[q3]
      have R:Hid (x=y):=by
       show _=_;rw[<-h];unfold opA;rw[if_pos q3]
      go_wp2;go_ret;exact⟨by rw[Za R];rfl,Za HB⟩
     case pos=>
      rw[if_neg (λr=>r q3)] at h3 h;obtain⟨rfl,_⟩:=cA h3;obtain⟨HQ,eb⟩:=kh2 h (en q3);go_wp2;go_roundw
      case rel=>first|exact⟨k+1,_,by omega,by go_num,HQ,eb,dn⟩|((repeat apply Exists.intro);refine⟨?_,rfl⟩;exact⟨k+1,_,by omega,by go_num,HQ,eb,dn⟩)
      case measure=>simp[intOf];omega
  case neg=>
   obtain rfl:k=nn:=(by omega);have h:=Za HQ;rw[Zee (by rw[(Za HN).1];exact aE _)] at h
   have im:BehD K N T β N:=by
    have:=Za HI;rwa [aM (by rw[(Za HN).1];exact aE _)] at this
   unfold opA at h;rw[if_neg (by simp)] at h;unfold poE at h;simp only[(Za HP).1] at h;by_cases dq:pn=0
   case pos=>
    have R:Hid (x=0):=(by rw[if_pos dq] at h;exact h.symm);subst dq;go_wp2;go_ret;exact⟨by rw[Za R];rfl,Za HB⟩
   rw[if_neg dq] at h;obtain⟨HQ,gd⟩:=kh2 h im;have g:((pn:Int) == 0)=false:=(by simp[dq]);have jy:¬((pn:Int)=0):=(by omega);have dz:Hid ((P.take 0).all (knT K)=true):=rfl;have gh:=HG;have gf:=HB;go_wp2_with fail
   go_loopw [109] (λjw U=>∃ (q:Nat),q<=pn/\jw = E J (q:Int)/\Hid ((P.take q).all (knT K)=true)/\Hid (ZD V0 U)) (λjw _=>pn - (intOf jw).toNat)
   case atStart=>exact⟨0,aI _,rfl,dz,Below.refl _ _⟩
   case round=>
    obtain⟨q,hq,rfl,HL,HJ⟩:=hrel;obtain⟨V1,ef⟩:=ZG (wr);subst ef;have HB:=onb gf HJ;have HG:=onb gh HJ;by_cases ek:q<pn
    case pos=>
     have bv:q<P.length:=(by rw[(Za HP).1];exact ek);have iz:(q:Int)<(pn:Int):=(by omega);obtain⟨lb,lo,rfl,_,eh⟩:=(HP.later HB).2 (by omega);have dl:=eh q bv;have ar:=Zbn bv HL;have bu:=Zb (λh=>Zod (f:=knT K) bv h);obtain⟨⟨th,I,O⟩,ep⟩:=ZF (P[q]);rw[ep] at dl ar bu;obtain⟨c0,⟨ai,ni,ci,c1,cp,jg⟩,ao,aq,co,c2,cq,jh⟩:=dl;simp only at c0 c1 c2 cp cq;obtain⟨y,hy⟩:=ZF (Zp (th,I,O));obtain⟨X2,cf⟩:=ZG (V1.alloc (dA #[E J th,F ai ni ci,F ao aq co] 50));have al:ZD V1 X2:=(by rw[cf];exact Zh _ _);have h2:Hid (X2.heap[V1.heap.size]? = dG (dA [E J th,F ai ni ci,F ao aq co].toArray 50 (0,0))):=(by show _=_;rw[cf];exact aG _ _);have ap:=onb HB al;have ca:=Zb (Zf HJ al);have gg:=onb HG al;have C6:=Zb (λV (hv:ZD X2 V)=>Jk th ai ao ni ci aq co I O V (cp.later (Zf al hv)) (cq.later (Zf al hv)));rw[hy] at C6;have C4:=Zb (λV (hv:ZD X2 V) df=>Qz th ai ao ni ci aq co I O V (HE.later (Zf ap hv)) (cp.later (Zf al hv)) (cq.later (Zf al hv)) df);have C5:=Zb (λV (hv:ZD X2 V) o ho=>Pp ka kn kc K (Zr (th,I,O)) o V (aO fl (by decide)) (HK.later (Zf ap hv)) ho)
     have KS:Hid (∀ U,ZD X2 U->U.cell? ⟨w.heap.size,0,aD⟩=dG (F ka kn kc)/\U.cell? ⟨V1.heap.size,0,aD⟩=dG (E J th)/\U.cell? ⟨V1.heap.size,1,aD⟩=dG (F ai ni ci)/\U.cell? ⟨V1.heap.size,2,aD⟩=dG (F ao aq co)):=λU hu=>by
      obtain⟨a1,a2,a3,_⟩:=cl3 (mvd hu h2);exact⟨(XS U (Zf gg hu)).1,a1,a2,a3⟩
     have jd:IntKind.i64.wrap ((q:Int)+1)=((q:Int)+1):=(by rw[aP];omega);obtain⟨cx,HY⟩:=kh2 ar hy;have cl:=aC _ _ c0
     go_upto_region 29 with fail
     rw[<-cf];refine bC (S:=λU=>ZD X2 U/\U.cell? ⟨w.heap.size,0,aD⟩=dG (F ka kn kc)/\U.cell? ⟨V1.heap.size,0,aD⟩=dG (E J th)/\U.cell? ⟨V1.heap.size,1,aD⟩=dG (F ai ni ci)/\U.cell? ⟨V1.heap.size,2,aD⟩=dG (F ao aq co)) (by kernel_rfl) ⟨Zj _,KS _ (Zj _)⟩ (λab=>?_);refine tkL 0 rfl ab ?_;refine rdS 1 rfl (C6 _ ab.1) ?_;rintro e w5 ⟨rfl,hb⟩;have hb:=Zf ab.1 hb;refine⟨_,rfl,⟨hb,KS _ hb⟩,λab=>?_⟩;by_cases cj:y=0
     case neg=>
      have g:(y != 0)=true:=by simp[cj]
      have R:Hid (x=5):=by
       have h:=Za HQ;rw[if_pos (bu (by unfold knT;rw[Za HY,decide_eq_false cj];rfl))] at h;exact h.symm
      refine tkL 2 (v:=dF true) rfl ab ?_;refine tkL 3 rfl ab ?_;refine tkU 4 rfl ab ?_;refine tkU 5 rfl ab ?_;refine tkU 6 rfl ab ?_;refine tkU 7 rfl ab ?_;refine tkU 8 rfl ab ?_;refine tkU 9 rfl ab ?_;refine tkL 10 (v:=dF true) rfl ab ?_;refine bZ (by kernel_rfl) ?_ _;go_wp2;go_ret;exact⟨by rw[Za R];rfl,Zf ap hb⟩
     subst cj;have ar:=Za cx;rw[Zdd HY] at ar;have fs:=Zb (λh=>bu ((Zdd HY).trans h));obtain⟨o,ho⟩:=ZF ((!decide (Bk.place (Zr (th,I,O)) K=0)));rw[ho] at ar fs;obtain⟨cx,HO⟩:=kh2 ar ho;refine tkL 2 (v:=dF false) rfl ab ?_;refine tkL 3 rfl ab ?_;refine tkL 4 rfl ab ?_;refine tkL 5 rfl ab ?_;refine tkL 6 rfl ab ?_;refine rdS 7 rfl (C4 _ ab.1 HY) ?_;rintro e w6 ⟨rfl,de⟩;have hb:=Zf hb de;refine⟨_,rfl,⟨hb,KS _ hb⟩,λab=>?_⟩;refine rdS 8 rfl (C5 _ hb o HO) ?_;rintro e w7 ⟨rfl,de⟩;have hb:=Zf hb de;refine⟨_,rfl,⟨hb,KS _ hb⟩,λab=>?_⟩;refine tkL 9 rfl ab ?_;refine tkL 10 (v:=dF (!o)) rfl ab ?_;refine bZ (by kernel_rfl) ?_ _;have ap:=onb ap hb;have ca:=onb ca hb;cases o with
     | false=>
      have R:Hid (x=5):=by
       have h:=Za HQ;rw[if_pos (fs rfl)] at h;exact h.symm
      go_wp2;go_ret;exact⟨by rw[Za R];rfl,Za ap⟩
     | true=>
      go_wp2;go_roundw
      case rel=>exact⟨q+1,by omega,by go_num,cx,ca⟩
      case measure=>simp[intOf];omega
    case neg=>
     obtain rfl:q=pn:=(by omega);have hl:=Za HL;rw[aM (by rw[(Za HP).1];exact aE _)] at hl;have h:=Za HQ;rw[if_neg (by rw[hl];decide)] at h;obtain⟨tz,fu⟩:∃ t,Wi N T z=t:=⟨_,rfl⟩;obtain⟨y,hy⟩:=ZF (swE K (β z) P (tz+1));obtain⟨⟨S1,K1,D1⟩,eo⟩:=ZF (Y0 (tz+1) P (K,β z));have ip:=(Wh bs).2.2.2.2.2 z;rw[fu] at h ip;rw[hy,eo] at h;have fm:=Zbu (tz+1) P (K,β z);rw[eo,(Za HP).1] at fm;have js:IntKind.i64.wrap (tz+1)=tz+1:=(by rw[aP];omega);have C:=Zb (C3 V1 HB z 0 (β z) ec (gd.at bs ec));have C7:=Zb (λV (hv:ZD w V)=>Lp na ba k nc bc N T z tz V bs (aO ei (by decide)) (HN.later hv) (HT.later hv) ec fu);obtain⟨HQ,HY,gu,gl⟩:=kh4 h hy eo fm;obtain⟨bo,bd,be,bf,bg,nl⟩:=XS V1 HG;go_wp2_with fail;refine C.mono ?_;rintro e w5 ⟨oa,dj,oc,rfl,hC,sC,hb⟩;have HB:=onb HB hb;have HG:=onb HG hb;obtain⟨HC,C⟩:=kh2 hC (C7 w5 HB);obtain⟨bo,bd,be,bf,bg,nl⟩:=XS w5 HG;go_wp2_with fail;refine C.mono ?_;rintro e w6 ⟨rfl,hb⟩;have HB:=onb HB hb;have HG:=onb HG hb;have HC:Hid (CoinsAt w6 oa dj (β z)):=HC.later hb;have C:=Zb (Lq ka kn kc K oa dj oc (β z) pa q pc P (tz+1) y w6 (HK.later HB) HC HP.1 HY);obtain⟨bo,bd,be,bf,bg,nl⟩:=XS w6 HG;go_wp2_with fail;refine C.mono ?_;rintro e w7 ⟨rfl,hb⟩;have HB:=onb HB hb;have HG:=onb HG hb;have HC:Hid (CoinsAt w7 oa dj (β z)):=HC.later hb;by_cases cj:y=0
     case neg=>
      have g:(y != 0)=true:=(by simp[cj]);have R:Hid (x=y):=(by have h:=Za HQ;rw[if_pos cj] at h;exact h.symm);go_wp2;go_ret;exact⟨by rw[Za R];rfl,Za HB⟩
     subst cj;have SZ:=K8 HY;have C:=Zb (Zgr ka kn kc K oa dj oc (β z) pa q pc P (tz+1) K1 S1 D1 w7 (HE.later HB) (HK.later HB) fa HR HC sC (Tw SZ.1).2.1 (HP.later HB) (by rw[<-(Za HP).1];exact SZ.2) gu);obtain⟨bo,bd,be,bf,bg,nl⟩:=XS w7 HG;go_wp2_with fail;refine C.mono ?_;rintro e w8 ⟨_,_,_,sa,sn,sc,_,_,_,rfl,_,_,hS,_,_,_,hb⟩;have HB:=onb HB hb;have HG:=onb HG hb;have ja:S1.length=sn:=hS.1;obtain⟨bo,bd,be,bf,bg,nl⟩:=XS w8 HG;have h:=Za HQ;have iv:=Za gl;simp only[ja] at h iv;by_cases jb:sn=q
     case neg=>
      have g1:((sn:Int) != (q:Int))=true:=(by simp;omega);have g2:¬((sn:Int)=(q:Int)):=(by omega);have R:Hid (x=7):=(by rw[if_neg (by decide),if_pos (by omega)] at h;exact h.symm);go_wp2;go_ret;exact⟨by rw[Za R];rfl,Za HB⟩
     have R:Hid (x=0):=(by rw[if_neg (by decide),if_neg (by omega)] at h;exact h.symm);subst jb;go_wp2;go_ret;exact⟨by rw[Za R];rfl,Za HB⟩
namespace Tr
open Go.RowKit
def Zrn:Array Oper:=#[⟨dG 19,.fieldAddr 28 (.tmp 3) 0,0, "second.go:349",#[],aD⟩,⟨dG 20,.load 25 (.tmp 19),25, "second.go:349",#[⟨0,.data⟩],aD⟩,⟨dG 21,.call { callee:=Callee.value (.func 12),args:=#[.tmp 20],argTypes:=#[25] },25, "second.go:349",#[⟨1,.data⟩],aD⟩,⟨dG 22,.move (.tmp 1),3, "second.go:349",#[],aD⟩,⟨dG 23,.buildSlice 25 1 #[(0,.tmp 22)],25, "second.go:349",#[⟨3,.data⟩],aD⟩,⟨dG 24,.call { callee:=Callee.builtin Builtin.append,args:=#[.tmp 21,.tmp 23],argTypes:=#[25,25] },25, "second.go:349",#[⟨2,.data⟩,⟨4,.data⟩,⟨2,.chain⟩],aD⟩,⟨dG 25,.fieldAddr 28 (.tmp 3) 1,0, "second.go:349",#[],aD⟩,⟨dG 26,.load 26 (.tmp 25),26, "second.go:349",#[⟨6,.data⟩],aD⟩,⟨dG 27,.call { callee:=Callee.value (.func 76),args:=#[.tmp 26],argTypes:=#[26] },26, "second.go:349",#[⟨7,.data⟩,⟨5,.chain⟩],aD⟩,⟨dG 28,.load 33 (.tmp 5),33, "second.go:349",#[],aD⟩,⟨dG 29,.buildSlice 26 1 #[(0,.tmp 28)],26, "second.go:349",#[⟨9,.data⟩],aD⟩,⟨dG 30,.call { callee:=Callee.builtin Builtin.append,args:=#[.tmp 27,.tmp 29],argTypes:=#[26,26] },26, "second.go:349",#[⟨8,.data⟩,⟨10,.data⟩,⟨8,.chain⟩],aD⟩,⟨dG 31,.build 28 #[(0,.tmp 24),(1,.tmp 30)],28, "second.go:349",#[⟨5,.data⟩,⟨11,.data⟩],aD⟩,⟨dG 8,.alloc 28,0, "second.go:349",#[],aD⟩,⟨aD,.store 28 (.tmp 8) (.tmp 31),0, "second.go:349",#[⟨13,.data⟩,⟨12,.data⟩,⟨11,.chain⟩,⟨0,.phase⟩,⟨1,.phase⟩,⟨2,.phase⟩,⟨3,.phase⟩,⟨4,.phase⟩,⟨5,.phase⟩,⟨6,.phase⟩,⟨7,.phase⟩,⟨8,.phase⟩,⟨9,.phase⟩,⟨10,.phase⟩,⟨11,.phase⟩,⟨12,.phase⟩,⟨13,.phase⟩],aD⟩]
def SAd(X:World)(bt bb:Nat)(a:Option Addr)(n c:Nat)(b:Option Addr)(d:Nat)(p h k o:Int)(ta:Option Addr)(tn tc:Nat)(W:World):Prop:=
 ZD X W/\W.cell? ⟨bt,0,aD⟩=dG (F a n c)/\W.cell? ⟨bt,1,aD⟩=dG (F b n d)/\W.cell? ⟨bb,0,aD⟩=dG (E J p)/\W.cell? ⟨bb,1,aD⟩=dG (E J h)/\W.cell? ⟨bb,2,aD⟩=dG (E J k)/\W.cell? ⟨bb,3,aD⟩=dG (E J o)/\W.cell? ⟨bb,4,aD⟩=dG (F ta tn tc)
structure AdH(a b:Option Addr)(n c d:Nat)(N:List Int)(T:List Zk)(p h k o:Int)(ta:Option Addr)(tn tc:Nat)(bt bb:Nat)(w0 X:World):Prop where
 sN:SlOk a n c
 sT:SlOk b n d
 hn:n<=24
 hN:IntsAt X a n N
 hT:BlksAt w0 b n T
 hw:ZD w0 X
 KS:∀ W,ZD X W->SAd X bt bb a n c b d p h k o ta tn tc W
theorem Uk{W:World}{base n q:Nat}{e t:TypeId}{sz:Nat}{v:Value}{xs cs}(h:W.ownsRow base e sz v n xs)(hq:v.ownBlock=dG q)(hc:W.heap[q]? = dG (dA cs t (0,0)))(ht:e≠t):False:=by
 obtain⟨_,h0|⟨g,cap,af,hv,hg,hh,r⟩⟩:=h
 ·rw[h0.1] at hq;cases hq
 ·rw[hv] at hq;cases hq;rw[hh] at hc;cases hc;exact ht rfl
theorem R5{ops:Array Oper}{i:Nat}{o:Oper}{r}(h:ops.toList.drop i=o :: r):ops[i]? = dG o:=by
 have:(ops.toList.drop i)[0]? = dG o:=by rw[h];rfl
 rw[List.getElem?_drop] at this;simpa using this
section
section
variable {P : Program} {ops : Array Oper} {Q : Exit -> Act -> World -> Prop} {md : Region.Mode} {S : World -> Prop} {fuel : Nat} {l : Array Bool} {a : Act} {w : World} {r s : List Nat}
theorem Gu(h:AllReadyH P md ops Q S fuel l a w r)(k:AllReadyH P md ops Q S fuel l a w s):AllReadyH P md ops Q S fuel l a w (r++s):=λi q=>(List.mem_append.1 q).elim (h i) (k i)
theorem rdIf{q:Prop}[Decidable q](h:q->AllReadyH P md ops Q S fuel l a w r):AllReadyH P md ops Q S fuel l a w (if q then r else []):=by
 split
 ·exact h ‹_›
 ·exact AllReadyH.nil
theorem rdO(i:Nat){q:Prop}[Decidable q]{o:Oper}{r}(hi:ops.toList.drop i=o :: r)
  (h:q->∀ K':Act->World->Prop,Shut (∀ a w,S w->(S w->wpAnyH P md ops Q S fuel (l.setIfInBounds i true) a w)->K' a w)->if Region.wanted o (yielded ops a.tmps)=true then Oper.wp P o a w K' Q else K' (a.put o.dst undef) w):AllReadyH P md ops Q S fuel l a w (if q then [i] else []):=rdIf λq=>AllReadyH.cons (R5 hi) (h q) AllReadyH.nil
end
def Zrm(e:Nat)(b4 b10 b13:Bool):List Nat:=(if e=0 then [2] else [])++(if b4=false then [4] else [])++(if e=1/\b4=true then [5] else [])++(if e=2 then [8] else [])++(if b10=false then [10] else [])++(if e=3/\b10=true then [11] else [])++(if e=4 then [12] else [])++(if b13=false then [13] else [])++(if e=5/\b13=true then [14] else [])
theorem Zof(e:Nat)(b4 b10 b13:Bool)(h:e<=5)(h4:1<e->b4=true)(h10:3<e->b10=true):Region.ready .any Zrn #[true,true,decide (0<e),true,b4,decide (1<e),true,true,decide (2<e),true,b10,decide (3<e),decide (4<e),b13,false]=Zrm e b4 b10 b13/\Zrm e b4 b10 b13≠[]:=by
 rcases e with _|_|_|_|_|_|e
 rotate_right
 ·omega
 all_goals cases b4
 all_goals first|(exfalso;exact absurd (h4 (by omega)) (by decide))|skip
 all_goals cases b10
 all_goals first|(exfalso;exact absurd (h10 (by omega)) (by decide))|skip
 all_goals cases b13
 all_goals exact⟨by kernel_rfl,by decide⟩
structure AdI(n:Nat)(N:List Int)(T:List Zk)(s p h k o:Int)(ta:Option Addr)(tn tc:Nat)(w0 X:World)(e:Nat)(b4 b10 b13:Bool)(x8 x21 x23 x24 x27 x29 x30 x31:Value)(W:World):Prop where
 o1:e=1->W.ownsRow X.heap.size 3 1 x21 n (N.map (aU .i64))
 h4:b4=true->e<2->∃ g,x23 = F (dG ⟨g,0,aD⟩) 1 1/\W.heap[g]? = dG (dA #[E J s] 3 (0,0))
 o5:1<e->∃ g cap,x24=(F (dG ⟨g,0,aD⟩) (n+1) cap)/\W.ownsRow X.heap.size 3 1 (F (dG ⟨g,0,aD⟩) (n+1) cap) (n+1) (N.map (aU .i64)++[E J s])
 o8:e=3->∃ K,AllC blkR w0 K T/\W.ownsRow X.heap.size 33 5 x27 n K.flatten
 h10:b10=true->e<4->∃ g,x29 = F (dG ⟨g,0,aD⟩) 1 1/\W.heap[g]? = dG (dA #[E J p,E J h,E J k,E J o,F ta tn tc] 33 (0,0))
 o11:3<e->∃ g2 cap2 K,x30=(F (dG ⟨g2,0,aD⟩) (n+1) cap2)/\AllC blkR w0 K T/\W.ownsRow X.heap.size 33 5 (F (dG ⟨g2,0,aD⟩) (n+1) cap2) (n+1) (K.flatten++[E J p,E J h,E J k,E J o,F ta tn tc])
 o12:4<e->x31 = .agg #[x24,x30]
 h13:b13=true->∃ g13,x8 = dE (dG ⟨g13,0,aD⟩)/\W.heap[g13]? = dG (dA #[F aD 0 0,F aD 0 0] 28 (0,0))/\X.heap.size<=g13
theorem AdI.later{n:Nat}{N T}{s p h k o:Int}{ta}{tn tc:Nat}{w0 X}{e:Nat}{b4 b10 b13:Bool}{x8 x21 x23 x24 x27 x29 x30 x31}{W W':World}(I:AdI n N T s p h k o ta tn tc w0 X e b4 b10 b13 x8 x21 x23 x24 x27 x29 x30 x31 W)(hb:ZD W W'):AdI n N T s p h k o ta tn tc w0 X e b4 b10 b13 x8 x21 x23 x24 x27 x29 x30 x31 W' where
 o1 q:=(Gr.of (S:=λ_=>False) hb).own (I.o1 q) (λ_ _ q=>q)
 h4 q r:=let ⟨g,h1,h2⟩:=I.h4 q r;⟨g,h1,ZE hb h2⟩
 o5 q:=let ⟨g,c,h1,h2⟩:=I.o5 q;⟨g,c,h1,(Gr.of (S:=λ_=>False) hb).own h2 (λ_ _ q=>q)⟩
 o8 q:=let ⟨K,h1,h2⟩:=I.o8 q;⟨K,h1,(Gr.of (S:=λ_=>False) hb).own h2 (λ_ _ q=>q)⟩
 h10 q r:=let ⟨g,h1,h2⟩:=I.h10 q r;⟨g,h1,ZE hb h2⟩
 o11 q:=let ⟨g,c,K,h1,h2,h3⟩:=I.o11 q;⟨g,c,K,h1,h2,(Gr.of (S:=λ_=>False) hb).own h3 (λ_ _ q=>q)⟩
 o12:=I.o12
 h13 q:=let ⟨g,h1,h2,h3⟩:=I.h13 q;⟨g,h1,ZE hb h2,h3⟩
theorem Ziy{Q:Exit->Act->World->Prop}(a b)(n c d:Nat)(N:List Int)(T)(s p h k o:Int)(ta)(tn tc:Nat)(bt bb:Nat)(w0 X:World)(H:AdH a b n c d N T p h k o ta tn tc bt bb w0 X) (x0 x2 x4 x6 x7 x9 x10 ay az x13 bd be bf bg bh bi bj bo bq br bs bu bv bx bz ca cb cc cd ce cf cg cj cl cm cn cp cq ct cu cw cx cy cz da db dc dd de df dg dh di dj dl dm dn dp dq dr ds dt du dv dw dx dy dz)
  (hQ:∀ (x21 x23 x27 x29:Value) (g cap:Nat) (K:List (List Value)) (g2 cap2 g13:Nat) (W:World),(SAd X bt bb a n c b d p h k o ta tn tc) W->W.ownsRow X.heap.size 3 1 (F (dG ⟨g,0,aD⟩) (n+1) cap) (n+1) (N.map (aU .i64)++[E J s])->W.ownsRow X.heap.size 33 5 (F (dG ⟨g2,0,aD⟩) (n+1) cap2) (n+1) (K.flatten++[E J p,E J h,E J k,E J o,F ta tn tc])->AllC blkR w0 K T->W.heap[g13]? = dG (dA #[F aD 0 0,F aD 0 0] 28 (0,0))->X.heap.size<=g13->Q .normal ⟨#[x0,E J s,x2,dE (dG ⟨bt,0,aD⟩),x4,dE (dG ⟨bb,0,aD⟩),x6,x7,dE (dG ⟨g13,0,aD⟩),x9,x10,ay,az,x13,bd,be,bf,bg,bh,dE (dG ⟨bt,0,aD⟩),F a n c,x21,E J s,x23,F (dG ⟨g,0,aD⟩) (n+1) cap,dE (dG ⟨bt,1,aD⟩),F b n d,x27,.agg #[E J p,E J h,E J k,E J o,F ta tn tc],x29,F (dG ⟨g2,0,aD⟩) (n+1) cap2,.agg #[F (dG ⟨g,0,aD⟩) (n+1) cap,F (dG ⟨g2,0,aD⟩) (n+1) cap2],bi,bj,bo,bq,br,bs,bu,bv,bx,bz,ca,cb,cc,cd,ce,cf,cg,cj,cl,cm,cn,cp,cq,ct,cu,cw,cx,cy,cz,da,db,dc,dd,de,df,dg,dh,di,dj,dl,dm,dn,dp,dq,dr,ds,dt,du,dv,dw,dx,dy,dz],[]⟩ ((W.setCell ⟨g13,0,aD⟩ (F (dG ⟨g,0,aD⟩) (n+1) cap)).setCell ⟨g13,1,aD⟩ (F (dG ⟨g2,0,aD⟩) (n+1) cap2))) :
  ∀ (f e:Nat) (b4 b10 b13:Bool) (x8 x21 x23 x24 x27 x29 x30 x31:Value) (W:World),f+e+b4.toNat+b10.toNat+b13.toNat=9->e<=5->(1<e->b4=true)->(3<e->b10=true)->(SAd X bt bb a n c b d p h k o ta tn tc) W->AdI n N T s p h k o ta tn tc w0 X e b4 b10 b13 x8 x21 x23 x24 x27 x29 x30 x31 W ->
  wpAnyH aB .any Zrn Q (SAd X bt bb a n c b d p h k o ta tn tc) f #[true,true,decide (0<e),true,b4,decide (1<e),true,true,decide (2<e),true,b10,decide (3<e),decide (4<e),b13,false] ⟨#[x0,E J s,x2,dE (dG ⟨bt,0,aD⟩),x4,dE (dG ⟨bb,0,aD⟩),x6,x7,x8,x9,x10,ay,az,x13,bd,be,bf,bg,bh,dE (dG ⟨bt,0,aD⟩),F a n c,x21,E J s,x23,x24,dE (dG ⟨bt,1,aD⟩),F b n d,x27,.agg #[E J p,E J h,E J k,E J o,F ta tn tc],x29,x30,x31,bi,bj,bo,bq,br,bs,bu,bv,bx,bz,ca,cb,cc,cd,ce,cf,cg,cj,cl,cm,cn,cp,cq,ct,cu,cw,cx,cy,cz,da,db,dc,dd,de,df,dg,dh,di,dj,dl,dm,dn,dp,dq,dr,ds,dt,du,dv,dw,dx,dy,dz],[]⟩ W:=by
 intro f
 induction f with
 | zero=>intro e b4 b10 b13 _ _ _ _ _ _ _ _ W hf he _ _ _ _;have:=b4.toNat_le;have:=b10.toNat_le;have:=b13.toNat_le;omega
 | succ f ih=>
 intro e b4 b10 b13 x8 x21 x23 x24 x27 x29 x30 x31 W hf he e4 ak hS I;obtain⟨i0,hi,ee,ef,eg⟩:=bX Tryz.infoInt;obtain⟨j0,ji,ej,ek,el⟩:=bX Tryz.infoBlkC;obtain⟨r1,r2⟩:=Zof e b4 b10 b13 he e4 ak;refine wpAnyH_ready r1 r2 ?_;clear r1 r2;refine Gu (Gu (Gu (Gu (Gu (Gu (Gu (Gu (rdO 2 rfl λq K0 ad=>?_) (rdO 4 rfl λq K0 ad=>?_)) (rdO 5 rfl λq K0 ad=>?_)) (rdO 8 rfl λq K0 ad=>?_)) (rdO 10 rfl λq K0 ad=>?_)) (rdO 11 rfl λq K0 ad=>?_)) (rdO 12 rfl λq K0 ad=>?_)) (rdO 13 rfl λq K0 ad=>?_)) (rdO 14 rfl λq K0 ad=>?_)
 ·subst q;refine Jf (by rfl) 12 #[F a n c] (by kernel_rfl) (U2 a n c N W (aO H.hn (by decide)) (H.hN.later hS.1) H.sN) ?_;rintro e w' ⟨v1,rfl,ho,hb⟩;refine⟨_,rfl,?_⟩;have ab:=H.KS _ (Zf hS.1 hb);have aa:=I.later hb;refine ad.out _ _ ab (λ_=>?_);exact ih 1 b4 b10 b13 x8 v1 x23 x24 x27 x29 x30 x31 _ (by omega) (by decide) (λq=>absurd q (by decide)) (λq=>absurd q (by decide)) ab ⟨λ_=>Xy ho hS.1.size,λq _=>aa.h4 q (by decide),(λq=>absurd q (by decide)),(λq=>absurd q (by decide)),λq _=>aa.h10 q (by decide),(λq=>absurd q (by decide)),(λq=>absurd q (by decide)),aa.h13⟩
 ·subst q;go_simp;have hb:=Zh W (dA #[E J s] 3);have ab:=H.KS _ (Zf hS.1 hb);have aa:=I.later hb;refine ad.out _ _ ab (λ_=>?_);exact ih e true b10 b13 x8 x21 _ x24 x27 x29 x30 x31 _ (by simp only[Bool.toNat_true,Bool.toNat_false] at hf ⊢;omega) he (λ_=>rfl) ak ab ⟨aa.o1,λ_ _=>⟨_,rfl,aG W _⟩,aa.o5,aa.o8,aa.h10,aa.o11,aa.o12,aa.h13⟩
 ·obtain⟨rfl,rfl⟩:=q;obtain⟨g4,rfl,h4⟩:=I.h4 rfl (by decide);have o1:=I.o1 rfl;refine step_append_lies _ (by rfl) _ _ _ (by rfl) X.heap.size 3 i0 (E J 0) 1 8 underlying25 hi ee ef eg rfl (by decide) x21 n (N.map (aU .i64)) (by rfl) o1 ⟨g4,0,aD⟩ 1 1 [E J s] (by rfl) (by rfl) (bI (cs:=#[E J s]) (t:=3) (fr:=(0,0)) h4) (by simp[Value.oneCell']) (by decide) (by have:=H.hn;unfold aT;omega) (by have:=H.hn;omega) hS.1.size W.heap.size rfl ?_;intro g cap w' ar an _ _;have hG:Gr W w' (λq=>x21.ownBlock=dG q):=(Gr.refl W (λq=>x21.ownBlock=dG q)).grown an (λk hk=>.inl hk);have ab:=H.KS _ (hG.below hS.1 hS.1.size (λq e=>(o1.lt q e).1));refine ad.out _ _ ab (λ_=>?_);exact ih 2 true b10 b13 x8 x21 _ _ x27 x29 x30 x31 _ (by omega) (by decide) (λ_=>rfl) (λq=>absurd q (by decide)) ab ⟨(λq=>absurd q (by decide)),λ_ q=>absurd q (by decide),λ_=>⟨g,cap,rfl,ar⟩,(λq=>absurd q (by decide)),λq _=>let ⟨g,h1,h2⟩:=I.h10 q (by decide);⟨g,h1,hG.heap h2 (λe=>Uk o1 e h2 (by decide))⟩,(λq=>absurd q (by decide)),(λq=>absurd q (by decide)),λq=>let ⟨g,h1,h2,h3⟩:=I.h13 q;⟨g,h1,hG.heap h2 (λe=>Uk o1 e h2 (by decide)),h3⟩⟩
 ·subst q;refine Jf (by rfl) 76 #[F b n d] (by kernel_rfl) (Ps b n d T w0 W (aO H.hn (by decide)) H.hT (Zf H.hw hS.1) H.sT) ?_;rintro e w' ⟨v2,K,rfl,hK,ho,hb⟩;refine⟨_,rfl,?_⟩;have ab:=H.KS _ (Zf hS.1 hb);have aa:=I.later hb;refine ad.out _ _ ab (λ_=>?_);exact ih 3 b4 b10 b13 x8 x21 x23 x24 v2 x29 x30 x31 _ (by omega) (by decide) (λ_=>e4 (by decide)) (λq=>absurd q (by decide)) ab ⟨(λq=>absurd q (by decide)),λ_ q=>absurd q (by decide),λ_=>aa.o5 (by decide),λ_=>⟨K,hK,Xy ho hS.1.size⟩,λq _=>aa.h10 q (by decide),(λq=>absurd q (by decide)),(λq=>absurd q (by decide)),aa.h13⟩
 ·subst q;go_simp;have hb:=Zh W (dA #[E J p,E J h,E J k,E J o,F ta tn tc] 33);have ab:=H.KS _ (Zf hS.1 hb);have aa:=I.later hb;refine ad.out _ _ ab (λ_=>?_);exact ih e b4 true b13 x8 x21 x23 x24 x27 _ x30 x31 _ (by simp only[Bool.toNat_true,Bool.toNat_false] at hf ⊢;omega) he e4 (λ_=>rfl) ab ⟨aa.o1,aa.h4,aa.o5,aa.o8,λ_ _=>⟨_,rfl,aG W _⟩,aa.o11,aa.o12,aa.h13⟩
 ·obtain⟨rfl,rfl⟩:=q;obtain⟨ea,rfl,h10⟩:=I.h10 rfl (by decide);obtain⟨K,hK,o8⟩:=I.o8 rfl;refine step_append_lies _ (by rfl) _ _ _ (by rfl) X.heap.size 33 j0 _ 5 56 underlying26 ji ej ek el rfl (by decide) x27 n K.flatten (by rfl) o8 ⟨ea,0,aD⟩ 1 1 [E J p,E J h,E J k,E J o,F ta tn tc] (by rfl) (by rfl) (bI (cs:=#[E J p,E J h,E J k,E J o,F ta tn tc]) (t:=33) (fr:=(0,0)) h10) (by simp[Value.oneCell']) (by decide) (by have:=H.hn;unfold aT;omega) (by have:=H.hn;omega) hS.1.size W.heap.size rfl ?_;intro g2 cap2 w' ar an _ _;have hG:Gr W w' (λq=>x27.ownBlock=dG q):=(Gr.refl W (λq=>x27.ownBlock=dG q)).grown an (λk hk=>.inl hk);have ab:=H.KS _ (hG.below hS.1 hS.1.size (λq e=>(o8.lt q e).1));refine ad.out _ _ ab (λ_=>?_);exact ih 4 b4 true b13 x8 x21 x23 x24 x27 _ _ x31 _ (by omega) (by decide) (λ_=>e4 (by decide)) (λ_=>rfl) ab ⟨(λq=>absurd q (by decide)),λ_ q=>absurd q (by decide),λ_=>let ⟨g,c,h1,h2⟩:=I.o5 (by decide);⟨g,c,h1,hG.own h2 (λq hq e=>Wa o8 h2 (by decide) q e hq)⟩,(λq=>absurd q (by decide)),λ_ q=>absurd q (by decide),λ_=>⟨g2,cap2,K,rfl,hK,ar⟩,(λq=>absurd q (by decide)),λq=>let ⟨g,h1,h2,h3⟩:=I.h13 q;⟨g,h1,hG.heap h2 (λe=>Uk o8 e h2 (by decide)),h3⟩⟩
 ·subst q;obtain⟨g,cap,rfl,o5⟩:=I.o5 (by decide);obtain⟨g2,cap2,K,rfl,hK,o11⟩:=I.o11 (by decide);go_simp;refine ad.out _ _ hS (λ_=>?_);exact ih 5 b4 b10 b13 x8 x21 x23 _ x27 x29 _ _ _ (by omega) (by decide) (λ_=>e4 (by decide)) (λ_=>ak (by decide)) hS ⟨(λq=>absurd q (by decide)),λ_ q=>absurd q (by decide),λ_=>⟨g,cap,rfl,o5⟩,(λq=>absurd q (by decide)),λ_ q=>absurd q (by decide),λ_=>⟨g2,cap2,K,rfl,hK,o11⟩,λ_=>rfl,I.h13⟩
 ·subst q;go_simp;have hb:=Zh W (dA #[F aD 0 0,F aD 0 0] 28);have ab:=H.KS _ (Zf hS.1 hb);have aa:=I.later hb;refine ad.out _ _ ab (λ_=>?_);exact ih e b4 b10 true _ x21 x23 x24 x27 x29 x30 x31 _ (by simp only[Bool.toNat_true,Bool.toNat_false] at hf ⊢;omega) he e4 ak ab ⟨aa.o1,aa.h4,aa.o5,aa.o8,aa.h10,aa.o11,aa.o12,λ_=>⟨_,rfl,aG W _,hS.1.size⟩⟩
 ·obtain⟨rfl,rfl⟩:=q;obtain rfl:b4=true:=e4 (by decide);obtain rfl:b10=true:=ak (by decide);obtain rfl:f=0:=by simp only[Bool.toNat_true] at hf;omega
  obtain⟨g,cap,rfl,o5⟩:=I.o5 (by decide);obtain⟨g2,cap2,K,rfl,hK,o11⟩:=I.o11 (by decide);obtain rfl:=I.o12 (by decide);obtain⟨g13,rfl,h13,en⟩:=I.h13 rfl;have z0:=Zd (X:=[F aD 0 0,F aD 0 0]) h13 0 _ rfl;have z1:=Zd (X:=[F aD 0 0,F aD 0 0]) h13 1 _ rfl;have f0:=Zg h13 0;have f1:=Zg h13 1;have zl:=aA h13;have hG:=((Gr.refl W (λq=>q=g13)).one g13 0 (.inl rfl) (F (dG ⟨g,0,aD⟩) (n+1) cap)).one g13 1 (.inl rfl) (F (dG ⟨g2,0,aD⟩) (n+1) cap2);have ab:=H.KS _ (hG.below hS.1 hS.1.size (λq e=>by omega));clear ih I e4 ak hi ji;go_simp;refine ad.out _ _ ab (λ_=>?_);refine bZ (by kernel_rfl) ?_ _;exact hQ x21 x23 x27 x29 g cap K g2 cap2 g13 W hS o5 o11 hK h13 en
end
theorem Ng:∀ (M:List Int) (U:List Zk) (N:List Int) (T:List Zk) (x:Int) (b:Zk),M.length=U.length->Yy N T M U=0->Yy N T (M++[x]) (U++[b])=Yj (N++M) (T++U) x b
 | [],[],N,T,x,b,_,_=>by
  rw[List.nil_append,List.nil_append,List.append_nil,List.append_nil,Yy];by_cases q:Yj N T x b=0
  ·rw[if_neg (by simp[q]),q];unfold Yy;rfl
  ·rw[if_pos q]
 | [],_ :: _,_,_,_,_,h,_=>by cases h
 | _ :: _,[],_,_,_,_,h,_=>by cases h
 | y :: M,u :: U,N,T,x,b,h,hc=>by
  rw[Yy] at hc;split at hc
  ·next q=>exact absurd hc q
  ·next q=>
   rw[List.cons_append,List.cons_append,Yy,if_neg q,Ng M U _ _ x b (by simpa using h) hc];simp
theorem Zeb{N:List Int}{T}(x:Int)(b:Zk)(h:chkTr N T=0):chkTr (N++[x]) (T++[b])=if N.length=24 then 2 else Yj N T x b:=by
 obtain⟨hl,h24,_,ab⟩:=Uq h;unfold chkTr;rw[if_neg (by simp[hl])];by_cases q:N.length=24
 ·rw[if_pos q,if_pos (by simp;omega)]
 ·rw[if_neg q,if_neg (by simp;omega),Ng N T [] [] x b hl ab];rfl
theorem Zlz{N T}{s z:Int}{b:Zk}(h0:¬s<1)(h1:¬120<s)(h:Yu b=0)(hz:Yj N T s b=z):z≠2:=by
 unfold Yj at hz;rw[if_neg (by simp;omega),if_neg (by simp[h])] at hz;rw[<-hz];split
 ·decide
 ·split
  ·decide
  ·split <;> decide
theorem hx_of{α : Prop}(h : α) : α:=h
def AddS(w0 w w':World)(N:List Int)(T:List Zk)(n:Nat)(x:Int)(e:Ending):Prop:=
 ∃ a1 c1 a2 c2,e = dB (dC #[.agg #[F a1 n c1,F a2 n c2],E J x])/\(∀ W,ZD w0 W->Gr w' W (λq=>q<w.heap.size)->IntsAt W a1 n N/\BlksAt W a2 n T)/\SlOk a1 n c1/\SlOk a2 n c2/\ZD w w'
theorem Wx{w0 w w':World}{x:Int}(hb:ZD w w'):AddS w0 w w' [] [] 0 x (dB (dC #[.agg #[F aD 0 0,F aD 0 0],E J x])):=
 ⟨aD,0,aD,0,rfl,λ_ _ _=>⟨IntsAt.nil _ _,RowsAt.nil _ _⟩,⟨aE _,aI _,λ_=>⟨rfl,rfl⟩⟩,⟨aE _,aI _,λ_=>⟨rfl,rfl⟩⟩,hb⟩
theorem Sh{w W:World}{B n g cap g2 cap2:Nat}{N:List Int}{T:List Zk}{K:List (List Value)}{s p h k o:Int}{ta tn tc L}(hb:ZD w W)
  (o5:W.ownsRow B 3 1 (F (dG ⟨g,0,aD⟩) (n+1) cap) (n+1) (N.map (aU .i64)++[E J s])) (o11:W.ownsRow B 33 5 (F (dG ⟨g2,0,aD⟩) (n+1) cap2) (n+1) (K.flatten++[E J p,E J h,E J k,E J o,F ta tn tc])) (hK:AllC blkR w K T) (hL:TxsAt w ta tn L) (sL:SlOk ta tn tc) (ag:T.length=n) :
  IntsAt W (dG ⟨g,0,aD⟩) (n+1) (N++[s])/\BlksAt W (dG ⟨g2,0,aD⟩) (n+1) (T++[(p,h,k,o,L)])/\SlOk (dG ⟨g,0,aD⟩) (n+1) cap/\SlOk (dG ⟨g2,0,aD⟩) (n+1) cap2:=by
 have ak:W.ownsRow B 3 1 (F (dG ⟨g,0,aD⟩) (n+1) cap) (n+1) ((N++[s]).map (aU .i64)):=by simpa using o5
 obtain⟨a1,c1,e1,s1,i1⟩:=ints_of_own ak;cases e1;have hA:=(hK.later hb).snoc (x:=(p,h,k,o,L)) (k:=[E J p,E J h,E J k,E J o,F ta tn tc]) ⟨ta,tn,tc,rfl,hL.later hb,sL⟩;have ah:K.flatten++([E J p,E J h,E J k,E J o,F ta tn tc]:List Value)=(K++[([E J p,E J h,E J k,E J o,F ta tn tc]:List Value)]).flatten:=by simp
 rw[ah] at o11;obtain⟨a2,c2,e2,r2,s2⟩:=rows_of_own blkR o11 hA (by simp[ag]);cases e2;exact⟨i1,r2,s1,s2⟩
theorem radded_is(w0:World)(a b n c d N T)(s p h k o:Int)(ta tn tc L)(N':List Int)(T')(n':Nat)(x:Int)(w)(ce:ZD w0 w)(hN:IntsAt w a n N)(ee:BlksAt w0 b n T)(sN:SlOk a n c)(sT:SlOk b n d)(ed:TxsAt w0 ta tn L)(sL:SlOk ta tn tc)(hc:chkTr N T=0)(hx:addE N T s (p,h,k,o,L)=(N',T',x))(fu:N'.length=n') :
  Calls aB 38 #[.agg #[F a n c,F b n d],E J s,.agg #[E J p,E J h,E J k,E J o,F ta tn tc]] w λe w'=>AddS w0 w w' N' T' n' x e:=by
 have hT:=ee.later ce;have hL:=ed.later ce;obtain⟨dm,cg⟩:=kh2 ce ed;obtain⟨X,hX⟩:=ZG (((w.alloc (dA #[F a n c,F b n d] 28)).alloc (dA #[E J p,E J h,E J k,E J o,F ta tn tc] 33)).alloc (dA #[F aD 0 0,F aD 0 0] 28));have cy:ZD w X:=by rw[hX];exact Zf (Zf (Zh _ _) (Zh _ _)) (Zh _ _)
 have fq:X.heap.size=w.heap.size+3:=by rw[hX];simp
 have ef:X.heap[w.heap.size]? = dG (dA [F a n c,F b n d].toArray 28 (0,0)):=by
  rw[hX,Below.heap_alloc _ _ _ (by simp;omega),Below.heap_alloc _ _ _ (by simp)];exact two_heap _ _ _ _
 have eg:X.heap[w.heap.size+1]? = dG (dA [E J p,E J h,E J k,E J o,F ta tn tc].toArray 33 (0,0)):=by
  rw[hX,Below.heap_alloc _ _ _ (by simp)];have:=Zw (w.alloc (dA #[F a n c,F b n d] 28)) (E J p) (E J h) (E J k) (E J o) (F ta tn tc) 33;rw[show (w.alloc (dA #[F a n c,F b n d] 28)).heap.size=w.heap.size+1 by simp] at this;exact this
 have cw:X.heap[w.heap.size+2]? = dG (dA [F aD 0 0,F aD 0 0].toArray 28 (0,0)):=by
  rw[hX];have:=two_heap ((w.alloc (dA #[F a n c,F b n d] 28)).alloc (dA #[E J p,E J h,E J k,E J o,F ta tn tc] 33)) (F aD 0 0) (F aD 0 0) 28;rw[show ((w.alloc (dA #[F a n c,F b n d] 28)).alloc (dA #[E J p,E J h,E J k,E J o,F ta tn tc] 33)).heap.size=w.heap.size+2 by simp] at this;exact this
 obtain⟨HB,fg,ff,dn,dp⟩:=kh5 cy fq ef eg cw;obtain⟨hl,h24,hH,fs⟩:=Uq hc;have fv:n<=24:=by rw[<-hN.1];exact h24
 obtain⟨fi,dr,bw⟩:=kh3 (Zeb s (p,h,k,o,L) hc) hN.1 hT.1;unfold addE at hx;rw[hc,if_neg (by simp),hN.1] at hx;obtain⟨ag,ad,HL,SL,IN,BT,fc,fd⟩:=kh8 hx fu hL sL hN hT fs hH;have dl:=Zb hl
 have AD:Hid (AdH a b n c d N T p h k o ta tn tc w.heap.size (w.heap.size+1) w0 X):=⟨sN,sT,fv,hN.later cy,ee,Zf ce cy,λW hW=>by
  have q0:=ZE hW ef;have q1:=ZE hW eg;exact⟨hW,Zd q0 0 _ rfl,Zd q0 1 _ rfl,Zd q1 0 _ rfl,Zd q1 1 _ rfl,Zd q1 2 _ rfl,Zd q1 3 _ rfl,Zd q1 4 _ rfl⟩⟩
 have KS:=Zb AD.KS;by_cases s1:s<1
 ·have R:Hid (Yj N T s (p,h,k,o,L)=3):=Jq (.inl s1)
  obtain⟨rfl,rfl,rfl⟩:([]:List Int)=N'/\([]:List Zk)=T'/\3=x:=by
   have q:=Za ag;rw[Za R,if_pos (by decide)] at q;exact⟨congrArg (·.1) q,congrArg (·.2.1) q,congrArg (·.2.2) q⟩
  obtain rfl:0=n':=Za ad;obtain⟨z0,z1,f0,f1,zl⟩:=kf2 cw;go_enter func38,ntmps38;go_wp2_with fail;rw[<-hX];go_wp2;refine aL (v:=dC #[.agg #[F aD 0 0,F aD 0 0],E J 3]) ?_ rfl (Wx ?_)
  ·rw[Zo rfl];go_simp
  ·exact Za HB
 by_cases s2:120<s
 ·have R:Hid (Yj N T s (p,h,k,o,L)=3):=Jq (.inr s2)
  obtain⟨rfl,rfl,rfl⟩:([]:List Int)=N'/\([]:List Zk)=T'/\3=x:=by
   have q:=Za ag;rw[Za R,if_pos (by decide)] at q;exact⟨congrArg (·.1) q,congrArg (·.2.1) q,congrArg (·.2.2) q⟩
  obtain rfl:0=n':=Za ad;obtain⟨z0,z1,f0,f1,zl⟩:=kf2 cw;go_enter func38,ntmps38;go_wp2_with fail;rw[<-hX];go_wp2;refine aL (v:=dC #[.agg #[F aD 0 0,F aD 0 0],E J 3]) ?_ rfl (Wx ?_)
  ·rw[Zo rfl];go_simp
  ·exact Za HB
 obtain⟨S1,S2,cp⟩:=kh3 s1 s2 sN.len;go_enter func38,ntmps38;go_wp2_with fail;rw[<-hX];clear hX;refine bC (S:=SAd X w.heap.size (w.heap.size+1) a n c b d p h k o ta tn tc) (by kernel_rfl) (KS _ (Zj _)) (λax=>?_);refine tkL 0 rfl ax ?_;refine tkL 1 rfl ax ?_;refine tkL 3 rfl ax ?_;refine tkL 6 rfl ax ?_;refine tkL 7 rfl ax ?_;refine tkL 9 rfl ax ?_;refine Ziy a b n c d N T s p h k o ta tn tc w.heap.size (w.heap.size+1) w0 X AD _ _ _ _ _ _ _ _ _ _ _ _ _ _ _ _ _ _ _ _ _ _ _ _ _ _ _ _ _ _ _ _ _ _ _ _ _ _ _ _ _ _ _ _ _ _ _ _ _ _ _ _ _ _ _ _ _ _ _ _ _ _ _ _ _ _ _ _ ?_ 9 0 false false false _ _ _ _ _ _ _ _ X.drew rfl (by decide) (λq=>absurd q (by decide)) (λq=>absurd q (by decide)) ax ⟨(λq=>absurd q (by decide)),λq=>absurd q (by decide),(λq=>absurd q (by decide)),(λq=>absurd q (by decide)),λq=>absurd q (by decide),(λq=>absurd q (by decide)),(λq=>absurd q (by decide)),(λq=>absurd q (by decide))⟩;intro v1 g4 v2 gq g cap K g2 cap2 g13 W hS o5 o11 hK h13 en;dsimp only;obtain⟨V,hV⟩:=ZG ((W.setCell ⟨g13,0,aD⟩ (F (dG ⟨g,0,aD⟩) (n+1) cap)).setCell ⟨g13,1,aD⟩ (F (dG ⟨g2,0,aD⟩) (n+1) cap2));have hG:Gr W V (λq=>q=g13):=by rw[hV];exact ((Gr.refl W (λq=>q=g13)).one g13 0 (.inl rfl) _).one g13 1 (.inl rfl) _
 have cc:ZD X V:=hG.below hS.1 hS.1.size (λq e=>by omega);have bx:V.heap[g13]? = dG (dA [(F (dG ⟨g,0,aD⟩) (n+1) cap),(F (dG ⟨g2,0,aD⟩) (n+1) cap2)].toArray 28 (0,0)):=by rw[hV];exact set_cells (X:=[(F (dG ⟨g,0,aD⟩) (n+1) cap),F aD 0 0]) (set_cells (X:=[F aD 0 0,F aD 0 0]) h13 0 (F (dG ⟨g,0,aD⟩) (n+1) cap)) 1 (F (dG ⟨g2,0,aD⟩) (n+1) cap2)
 have ep:=hG.own o5 (λq hq e=>Uk (t:=28) (cs:=#[F aD 0 0,F aD 0 0]) o5 hq (by rw[show q=g13 from e];exact h13) (by decide));have eo:=hG.own o11 (λq hq e=>Uk (t:=28) (cs:=#[F aD 0 0,F aD 0 0]) o11 hq (by rw[show q=g13 from e];exact h13) (by decide));rw[<-hV];obtain⟨cf,gg⟩:=kh2 hK en;have h1:=ZE cc dn;obtain⟨b0,b1,b2,b3,b4,bl⟩:=kc5 h1;obtain⟨y,hy⟩:=ZF (Yu (p,h,k,o,L));obtain⟨CT,HY,fa,BX,O5,fj⟩:=kh6 (rchkBlock_any p h k o ta tn tc L y V (HL.later (Zf HB cc)) hy) hy cc bx ep eo;clear hV hG hS o5 o11 hK h13 en ep eo h1 hy bx cc;go_wp2_with fail;refine CT.mono ?_;rintro e w2 ⟨rfl,cb⟩;obtain⟨bu,cm,cl⟩:=kh3 (Zf fa cb) ((Gr.of (S:=λ_=>False) cb).own O5 (λ_ _ q=>q)) ((Gr.of (S:=λ_=>False) cb).own fj (λ_ _ q=>q));have du:=ZE cb BX;have ew:=Zb du;obtain⟨e0,e1,ik⟩:=kc2 du;by_cases br:y=0
 ·subst br;obtain⟨z,hz⟩:=ZF (chkTr (N++[s]) (T++[(p,h,k,o,L)]));obtain⟨Y,hY,bq,ei⟩:=ka00 w2 [(F (dG ⟨g,0,aD⟩) (n+1) cap),(F (dG ⟨g2,0,aD⟩) (n+1) cap2)] 28;obtain⟨y0,y1,yl⟩:=kc2 ei;have rows:=Sh (Zf dm (Zf HB (Zf bu bq))) ((Gr.of (S:=λ_=>False) bq).own cm (λ_ _ q=>q)) ((Gr.of (S:=λ_=>False) bq).own cl (λ_ _ q=>q)) cf cg SL bw;have CK:=Zb (rchkTree_any (dG ⟨g,0,aD⟩) (dG ⟨g2,0,aD⟩) (n+1) cap (n+1) cap2 (N++[s]) (T++[(p,h,k,o,L)]) z Y rows.1 rows.2.1 rows.2.2.1 rows.2.2.2 hz);have HZ:Hid (z=if n=24 then 2 else Yj N T s (p,h,k,o,L)):=by show _=_;rw[<-hz,Za fi,Za dr]
  have fb:=Zb bq;clear rows hz bq ei;go_wp2_with fail;rw[<-hY];clear hY;go_wp2_with fail;refine CK.mono ?_;rintro e w3 ⟨rfl,ej⟩;have bo:=Zf fb ej;obtain⟨bv,bj,bi⟩:=kh3 (Zf bu bo) ((Gr.of (S:=λ_=>False) bo).own cm (λ_ _ q=>q)) ((Gr.of (S:=λ_=>False) bo).own cl (λ_ _ q=>q));have dv:=ZE bo ew;have aa:=Zb (Zf HB bv);clear ej bo e0 e1 ik y0 y1 yl cm cl;have h2:=ZE bv dp;have H2:=Zb h2;obtain⟨z0,z1,f0,f1,zl⟩:=kf2 h2;clear h2;by_cases n4:n=24
  ·obtain rfl:z=2:=(by rw[Za HZ,if_pos n4]);have N4:=Zb n4;clear n4;have el:=ZE bv ff;have cd:=ZE bv dn;obtain⟨t0,t1,tl⟩:=kc2 el;have v0:=Zd cd 0 _ rfl;have ii:=Zd cd 1 _ rfl;have vl:=aA cd;clear el cd dv bj bi;have al:=IN.later aa;by_cases i3:s∈N
   ·have C6:=Zb (Vp a n c N s true w3 cp al (by simp[i3]));have R:Hid (Yj N T s (p,h,k,o,L)=6):=Mb (by have:=Za S1;omega) (by have:=Za S2;omega) HY i3
    obtain⟨rfl,rfl,rfl⟩:([]:List Int)=N'/\([]:List Zk)=T'/\6=x:=by
     have q:=Za ag;rw[Za R,if_pos (by decide)] at q;exact⟨congrArg (·.1) q,congrArg (·.2.1) q,congrArg (·.2.2) q⟩
    obtain rfl:0=n':=Za ad;clear i3 al;go_wp2_with fail;refine C6.mono ?_;rintro e w4 ⟨rfl,rfl⟩;go_wp2;refine aL (v:=dC #[.agg #[F aD 0 0,F aD 0 0],E J 6]) ?_ rfl (Wx ?_)
    ·rw[Zo rfl];go_simp
    ·first|exact Zv aa (by omega) aa.size _ _|exact Zv (Zf aa (Zj _)) (by omega) (Zf aa (Zj _)).size _ _|exact Zv (Zf aa (Z9 _ _)) (by omega) (Zf aa (Z9 _ _)).size _ _
   have C6:=Zb (Vp a n c N s false w3 cp al (by simp[i3]));obtain⟨kk,aq⟩:=ZF (Q5 p N 0);have C7:=Zb (indexInt_is a n c N p kk w3 cp al aq)
   rcases idxI_fnd p N T 0 dl with ⟨k1,k2,k3⟩|⟨i,hi,k1,k2,k3⟩
   ·obtain rfl:kk = -1:=(by rw[<-aq,k1]);by_cases p0:p=0
    ·subst p0;have NF:=Zb (Ru (T:=T) (b:=(0,h,k,o,L)) (by have:=Za S1;omega) (by have:=Za S2;omega) HY i3 (.inl rfl));simp only at NF;rw[k3] at NF;by_cases e5:h=1
     ·subst e5;have R:Hid (Yj N T s (0,1,k,o,L)=0):=by show _=_;rw[Za NF];simp[Y6]
      obtain⟨rfl,rfl,rfl⟩:([]:List Int)=N'/\([]:List Zk)=T'/\12=x:=by
       have q:=Za ag;rw[Za R,if_neg (by simp),if_pos (Za N4)] at q;exact⟨congrArg (·.1) q,congrArg (·.2.1) q,congrArg (·.2.2) q⟩
      obtain rfl:0=n':=Za ad;clear i3 al aq k1 k2 k3;go_wp2_with fail;refine C6.mono ?_;rintro e w4 ⟨rfl,rfl⟩;go_wp2_with fail;refine C7.mono ?_;rintro e w4 ⟨rfl,rfl⟩;go_wp2_with fail
      go_quiet (fail)
      go_wp2;refine aL (v:=dC #[.agg #[F aD 0 0,F aD 0 0],E J 12]) ?_ rfl (Wx ?_)
      ·rw[Zo rfl];go_simp
      ·first|exact Zv aa (by omega) aa.size _ _|exact Zv (Zf aa (Zj _)) (by omega) (Zf aa (Zj _)).size _ _|exact Zv (Zf aa (Z9 _ _)) (by omega) (Zf aa (Z9 _ _)).size _ _
     ·have R:Hid (Yj N T s (0,h,k,o,L)=4):=(by show _=_;rw[Za NF];simp[Y6,e5]);have g5:(h != 1)=true:=by simp[e5]
      obtain⟨rfl,rfl,rfl⟩:([]:List Int)=N'/\([]:List Zk)=T'/\4=x:=by
       have q:=Za ag;rw[Za R,if_pos (by decide)] at q;exact⟨congrArg (·.1) q,congrArg (·.2.1) q,congrArg (·.2.2) q⟩
      obtain rfl:0=n':=Za ad;clear i3 al aq k1 k2 k3 e5;go_wp2_with fail;refine C6.mono ?_;rintro e w4 ⟨rfl,rfl⟩;go_wp2_with fail;refine C7.mono ?_;rintro e w4 ⟨rfl,rfl⟩;go_wp2_with fail
      go_quiet (fail)
      go_wp2;refine aL (v:=dC #[.agg #[F aD 0 0,F aD 0 0],E J 4]) ?_ rfl (Wx ?_)
      ·rw[Zo rfl];go_simp
      ·first|exact Zv aa (by omega) aa.size _ _|exact Zv (Zf aa (Zj _)) (by omega) (Zf aa (Zj _)).size _ _|exact Zv (Zf aa (Z9 _ _)) (by omega) (Zf aa (Z9 _ _)).size _ _
    ·have gp:(p != 0)=true:=(by simp[p0]);have R:Hid (Yj N T s (p,h,k,o,L)=5):=Eu (by have:=Za S1;omega) (by have:=Za S2;omega) HY i3 (by simp[p0,k2])
     obtain⟨rfl,rfl,rfl⟩:([]:List Int)=N'/\([]:List Zk)=T'/\5=x:=by
      have q:=Za ag;rw[Za R,if_pos (by decide)] at q;exact⟨congrArg (·.1) q,congrArg (·.2.1) q,congrArg (·.2.2) q⟩
     obtain rfl:0=n':=Za ad;clear i3 al aq k1 k2 k3 p0;go_wp2_with fail;refine C6.mono ?_;rintro e w4 ⟨rfl,rfl⟩;go_wp2_with fail;refine C7.mono ?_;rintro e w4 ⟨rfl,rfl⟩;go_wp2_with fail;go_wp2;refine aL (v:=dC #[.agg #[F aD 0 0,F aD 0 0],E J 5]) ?_ rfl (Wx ?_)
     ·rw[Zo rfl];go_simp
     ·first|exact Zv aa (by omega) aa.size _ _|exact Zv (Zf aa (Zj _)) (by omega) (Zf aa (Zj _)).size _ _|exact Zv (Zf aa (Z9 _ _)) (by omega) (Zf aa (Z9 _ _)).size _ _
   ·rw[bO] at k1;obtain rfl:kk=(i:Nat):=(by rw[<-aq,k1]);have p0:p≠0:=λe=>by have:=(Hq N T [] [] dl fc p k2).1;omega
    have gp:(p != 0)=true:=(by simp[p0]);have NF:=Zb (Ru (T:=T) (b:=(p,h,k,o,L)) (by have:=Za S1;omega) (by have:=Za S2;omega) HY i3 (.inr k2));simp only at NF;rw[k3] at NF;have ia:i<n:=(by rw[<-Za bw];exact hi);have cx:=BT.later aa;obtain⟨il,oq,rfl,gz,da⟩:=cx.2 (by omega);have cq:=(da i hi).2.1;have bf:=fd _ (aQ hi);obtain⟨tt,dc⟩:=ZF (T[i]);rw[dc] at cq NF bf;obtain⟨hh,db⟩:=ZF (tt.2.1);rw[db] at cq NF bf;have gm:=bf.1;have gn:=bf.2.1;have ib:IntKind.i64.wrap (hh+1)=hh+1:=(by rw[aP];omega);have gk:(0:Int)<=(i:Int):=(by omega);have gu:¬(i:Int)<0:=(by omega);by_cases e5:h=hh+1
    ·have R:Hid (Yj N T s (p,h,k,o,L)=0):=by show _=_;rw[Za NF,if_neg (by simp[e5])]
     obtain⟨rfl,rfl,rfl⟩:([]:List Int)=N'/\([]:List Zk)=T'/\12=x:=by
      have q:=Za ag;rw[Za R,if_neg (by simp),if_pos (Za N4)] at q;exact⟨congrArg (·.1) q,congrArg (·.2.1) q,congrArg (·.2.2) q⟩
     obtain rfl:0=n':=Za ad;subst e5;have g5:(hh+1 != hh+1)=false:=(by simp);clear i3 al aq k1 k2 k3 cx da bf dc db p0;go_wp2_with fail;refine C6.mono ?_;rintro e w4 ⟨rfl,rfl⟩;go_wp2_with fail;refine C7.mono ?_;rintro e w4 ⟨rfl,rfl⟩;go_wp2_with fail
     go_quiet (fail)
     go_wp2;refine aL (v:=dC #[.agg #[F aD 0 0,F aD 0 0],E J 12]) ?_ rfl (Wx ?_)
     ·rw[Zo rfl];go_simp
     ·first|exact Zv aa (by omega) aa.size _ _|exact Zv (Zf aa (Zj _)) (by omega) (Zf aa (Zj _)).size _ _|exact Zv (Zf aa (Z9 _ _)) (by omega) (Zf aa (Z9 _ _)).size _ _
    ·have R:Hid (Yj N T s (p,h,k,o,L)=4):=(by show _=_;rw[Za NF,if_pos e5]);have g5:(hh+1 != h)=true:=by simp;omega
     obtain⟨rfl,rfl,rfl⟩:([]:List Int)=N'/\([]:List Zk)=T'/\4=x:=by
      have q:=Za ag;rw[Za R,if_pos (by decide)] at q;exact⟨congrArg (·.1) q,congrArg (·.2.1) q,congrArg (·.2.2) q⟩
     obtain rfl:0=n':=Za ad;clear i3 al aq k1 k2 k3 cx da bf dc db e5 p0;go_wp2_with fail;refine C6.mono ?_;rintro e w4 ⟨rfl,rfl⟩;go_wp2_with fail;refine C7.mono ?_;rintro e w4 ⟨rfl,rfl⟩;go_wp2_with fail
     go_quiet (fail)
     go_wp2;refine aL (v:=dC #[.agg #[F aD 0 0,F aD 0 0],E J 4]) ?_ rfl (Wx ?_)
     ·rw[Zo rfl];go_simp
     ·first|exact Zv aa (by omega) aa.size _ _|exact Zv (Zf aa (Zj _)) (by omega) (Zf aa (Zj _)).size _ _|exact Zv (Zf aa (Z9 _ _)) (by omega) (Zf aa (Z9 _ _)).size _ _
  ·obtain rfl:z=Yj N T s (p,h,k,o,L):=(by rw[Za HZ,if_neg n4]);obtain⟨z,hz⟩:=ZF (Yj N T s (p,h,k,o,L));have cj:=hx_of ag;rw[hz] at cj;rw[hz];by_cases dg:z=0
   ·subst dg
    obtain⟨rfl,rfl,rfl⟩:N++[s]=N'/\T++[(p,h,k,o,L)]=T'/\0=x:=by
     have q:=cj;rw[if_neg (by simp),if_neg n4] at q;exact⟨congrArg (·.1) q,congrArg (·.2.1) q,congrArg (·.2.2) q⟩
    obtain rfl:n+1=n':=(by rw[<-Za ad,bL,Za dr];rfl);obtain⟨e0,e1,ik⟩:=kc2 dv;have ic:=Za fg;have bz:Gr w3 ((w3.setCell ⟨w.heap.size+2,0,aD⟩ (F (dG ⟨g,0,aD⟩) (n+1) cap)).setCell ⟨w.heap.size+2,1,aD⟩ (F (dG ⟨g2,0,aD⟩) (n+1) cap2)) (λq=>q=w.heap.size+2):=((Gr.refl w3 (λq=>q=w.heap.size+2)).one _ 0 (.inl rfl) _).one _ 1 (.inl rfl) _;have ek:=bz.below aa aa.size (λq e=>by omega);have rows:=Sh (Zf dm ek) (bz.own bj (λq hq e=>by have:=(bj.lt q hq).1;omega)) (bz.own bi (λq hq e=>by have:=(bi.lt q hq).1;omega)) cf cg SL bw;have eb:=λ(W:World) (g:Gr _ W (λq=>q<w.heap.size))=>(bz.mono (λq _ e=>Or.inl e)).trans (g.mono (λq _ e=>(Or.inr e:q=w.heap.size+2\/q<w.heap.size)));have RW:=Zb (And.intro rows (And.intro ek (λW (hW:ZD w0 W) (g:Gr _ W (λq=>q<w.heap.size))=>Sh hW ((eb W g).own bj (λq hq e=>by have:=(bj.lt q hq).1;omega)) ((eb W g).own bi (λq hq e=>by have:=(bi.lt q hq).1;omega)) cf cg SL bw)));go_wp2;refine aL (v:=dC #[.agg #[(F (dG ⟨g,0,aD⟩) (n+1) cap),(F (dG ⟨g2,0,aD⟩) (n+1) cap2)],E J 0]) ?_ rfl ?_
    ·rw[Zo rfl];go_simp
    ·obtain⟨⟨_,_,r3,r4⟩,r5,r6⟩:=Za RW;exact⟨_,_,_,_,rfl,λW hW g=>⟨(r6 W hW g).1,(r6 W hW g).2.1⟩,r3,r4,r5⟩
   ·obtain⟨rfl,rfl,rfl⟩:([]:List Int)=N'/\([]:List Zk)=T'/\z=x:=by
     have q:=cj;rw[if_pos dg] at q;exact⟨congrArg (·.1) q,congrArg (·.2.1) q,congrArg (·.2.2) q⟩
    obtain rfl:0=n':=Za ad;have io:(z != 0)=true:=(by simp[dg]);have gy:(z == 2)=false:=(by simp;exact Zlz (by have:=Za S1;omega) (by have:=Za S2;omega) HY hz);go_wp2;refine aL (v:=dC #[.agg #[F aD 0 0,F aD 0 0],E J z]) ?_ rfl (Wx ?_)
    ·rw[Zo rfl];go_simp
    ·first|exact Zv aa (by omega) aa.size _ _|exact Zv (Zf aa (Zj _)) (by omega) (Zf aa (Zj _)).size _ _|exact Zv (Zf aa (Z9 _ _)) (by omega) (Zf aa (Z9 _ _)).size _ _
 ·have R:Hid (Yj N T s (p,h,k,o,L)=y):=(Ev (by have:=Za S1;omega) (by have:=Za S2;omega) (by rw[Za HY];exact br)).trans HY;have im:(y == 0)=false:=by simp[br]
  have gw:(y != 0)=true:=by simp[br]
  obtain⟨rfl,rfl,rfl⟩:([]:List Int)=N'/\([]:List Zk)=T'/\y=x:=by
   have q:=Za ag;rw[Za R,if_pos br] at q;exact⟨congrArg (·.1) q,congrArg (·.2.1) q,congrArg (·.2.2) q⟩
  obtain rfl:0=n':=Za ad;have aa:=Zb (Zf HB bu);have h2:=ZE bu dp;obtain⟨z0,z1,f0,f1,zl⟩:=kf2 h2;go_wp2;refine aL (v:=dC #[.agg #[F aD 0 0,F aD 0 0],E J y]) ?_ rfl (Wx ?_)
  ·rw[Zo rfl];go_simp
  ·first|exact Zv aa (by omega) aa.size _ _|exact Zv (Zf aa (Zj _)) (by omega) (Zf aa (Zj _)).size _ _|exact Zv (Zf aa (Z9 _ _)) (by omega) (Zf aa (Z9 _ _)).size _ _
end Tr
open Go.RowKit
open Tr (fnd Y7 chkTr TrOk)
theorem Wo{fn:Func}{p u v z:Tmp}{ty:TypeId}(h:fn.results=#[.tmp u,.cell p ty,.tmp v,.tmp z])(tmps:Array Value)(P:Program)(w) :
  (results fn tmps).run P w =
   ((asAddr (tmps.getD p undef)).run P w).andThen λa w₁=>((loadVar ty a).run P w₁).andThen λx w₂=>.ok (dC #[tmps.getD u undef,x,tmps.getD v undef,tmps.getD z undef]) w₂:=by
 simp only[results,h];simp[Sem.run_bind,Result.andThen]
def Zrf(w w':World)(x nm:Int)(D:Dsk)(e:Ending):Prop:=
 ∃ ka kn kc na nn nc ba bn bc pa pn pc,e = dB (dC #[F ka kn kc,.agg #[F na nn nc,F ba bn bc,F pa pn pc,E J D.tip],E J nm,E J x])/\Tl w' ka kn D.k na nn D.n ba bn D.t pa pn D.p/\ZD w w'
theorem Tm(e:Int)(w:World):Calls aB 36 #[E J e] w λr w'=>r = dB (dC #[F aD 0 0,.agg #[F aD 0 0,F aD 0 0,F aD 0 0,E J 0],E J 0,E J e])/\ZD w w':=by
 go_enter func36,ntmps36;go_wp2;refine aL (v:=dC #[F aD 0 0,.agg #[F aD 0 0,F aD 0 0,F aD 0 0,E J 0],E J 0,E J e]) ?_ rfl ?_
 ·rw[Wo rfl];go_simp
 ·exact⟨rfl,Zh _ _⟩
theorem Jd{V W:World}{g:Nat}{t:TypeId}{a1 a2 a3 n1 n2 n3 c1 c2 c3}{i:Int}{a n K}(hX:Hid (V.heap[g]? = dG (dA [F a1 n1 c1,F a2 n2 c2,F a3 n3 c3,E J i].toArray t (0,0))))(G:Gr V W (λq=>q=g))(h:Bk.TextsAt V a n K):Bk.TextsAt W a n K:=by
 refine⟨h.1,λh0=>?_⟩;obtain⟨b,off,e,hc⟩:=h.2 h0;refine⟨b,off,e,λj hj=>G.cell (hc j hj) (λeb=>?_)⟩;have q:=hc j hj;have eb:b=g:=eb;subst eb;simp only[bF,Za hX] at q;obtain⟨z,hz⟩:=ZF (off+j);rw[hz] at q
 match z,q with
 | 0,q=>simp at q
 | 1,q=>simp at q
 | 2,q=>simp at q
 | 3,q=>simp at q
 | z+4,q=>simp at q
theorem Ac{K N T P}{tip x nm y:Int}{b:Zk}{D:Dsk}{w w1 W:World}(hx:ntR K N T P tip b=(x,nm,D))(e:ntR K N T P tip b=(y,0,Dsk.none))(hb:ZD w w1)(g:Gr w1 W (λq=>q=w.heap.size+2)):Zrf w W x nm D (dB (dC #[F aD 0 0,.agg #[F aD 0 0,F aD 0 0,F aD 0 0,E J 0],E J 0,E J y])):=by
 rw[hx] at e;obtain⟨rfl,rfl,rfl⟩:x=y/\nm=0/\D=Dsk.none:=by simpa using e
 exact⟨aD,0,0,aD,0,0,aD,0,0,aD,0,0,rfl,⟨Bk.TextsAt.nil _ _,Tr.IntsAt.nil _ _,RowsAt.nil _ _,RowsAt.nil _ _⟩,g.below hb hb.size (λq e=>by omega)⟩
theorem Zgq(ka na ba pa a kn kc nn nc bn bc pn pc m c K N T P)(tip p h k o:Int)(L)(x nm:Int)(D:Dsk)(w)(hE:EnvF w)(hK:Bk.TextsAt w ka kn K)(sK:Bk.SlOk ka kn kc)(hN:Tr.IntsAt w na nn N)(hT:Tr.BlksAt w ba bn T)(hP:TxsAt w pa pn P)(sN:SlOk na nn nc)(sT:SlOk ba bn bc)(sP:SlOk pa pn pc)(hL:TxsAt w a m L)(sL:SlOk a m c)(ho:opE K N T P tip=0)(hx:ntR K N T P tip (p,h,k,o,L)=(x,nm,D)) :
  Calls aB 10 #[F ka kn kc,.agg #[F na nn nc,F ba bn bc,F pa pn pc,E J tip],.agg #[E J p,E J h,E J k,E J o,F a m c]] w λe w'=>Zrf w w' x nm D e:=by
 obtain⟨o1,o2,_,_⟩:=Rc ho;have hc:=(V9 o2).1;obtain rfl:nn=bn:=hN.1.symm.trans ((TrOk.of hc).len.trans hT.1);obtain⟨X,hX⟩:=ZG (((w.alloc (dA #[F na nn nc,F ba nn bc,F pa pn pc,E J tip] 31)).alloc (dA #[E J p,E J h,E J k,E J o,F a m c] 33)).alloc (dA #[F aD 0 0,F aD 0 0,F aD 0 0,E J 0] 31));have hb:ZD w X:=by rw[hX];exact Zf (Zf (Zh _ _) (Zh _ _)) (Zh _ _)
 have ad:Hid (X.heap[w.heap.size]? = dG (dA [F na nn nc,F ba nn bc,F pa pn pc,E J tip].toArray 31 (0,0))):=by rw[hX];exact ((Zh _ _).block _ (by simp;omega)).trans (((Zh _ _).block _ (by simp)).trans (aG _ _))
 have bu:Hid (X.heap[w.heap.size+1]? = dG (dA [E J p,E J h,E J k,E J o,F a m c].toArray 33 (0,0))):=by
  rw[hX];have:=aG (w.alloc (dA #[F na nn nc,F ba nn bc,F pa pn pc,E J tip] 31)) (dA #[E J p,E J h,E J k,E J o,F a m c] 33);rw[cS] at this;exact ((Zh _ _).block _ (by simp)).trans this
 have ab:Hid (X.heap[w.heap.size+2]? = dG (dA [F aD 0 0,F aD 0 0,F aD 0 0,E J 0].toArray 31 (0,0))):=by
  rw[hX];have:=aG ((w.alloc (dA #[F na nn nc,F ba nn bc,F pa pn pc,E J tip] 31)).alloc (dA #[E J p,E J h,E J k,E J o,F a m c] 33)) (dA #[F aD 0 0,F aD 0 0,F aD 0 0,E J 0] 31);rwa [cS,cS] at this
 obtain⟨⟨K1,s,Ns,x1⟩,h1⟩:=ZF (Xk K (p,h,k,o,L));obtain⟨C1,HB,HE,HN,HT,HP,HL,HS⟩:=kh8 (P7 ka kn kc K p h k o a m c L K1 s Ns x1 X (hE.later hb) (hK.later hb) sK ((Bk.right_iff K).1 o1) (hL.later hb) h1) hb hE hN hT hP hL (And.intro sN (And.intro sT (And.intro sP sL)));obtain⟨HO,HX,HC,H1⟩:=kh4 ho hx hc h1;obtain⟨fz,ga,gb,gc,gd,dl⟩:=cl5 bu;clear hE hK sK hN hT hP sN sT sP hL sL ho hx o1 o2 hc h1 hb;go_enter func10,ntmps10
 go_upto_region 1 with fail
 rw[<-hX];clear hX;go_wp2_with fail;refine C1.mono ?_;rintro e w1 ⟨b1,au,ce,_,_,_,rfl,gi,gw,_,hb⟩;have HB:=onb HB hb;have ad:=mvd hb ad;have bu:=mvd hb bu;have ab:=mvd hb ab;obtain⟨cp,dn⟩:=kh2 gi gw;by_cases q1:x1=0
 case neg=>
  have g:(x1 != 0)=true:=by simp[q1]
  obtain⟨CF,R⟩:=kh2 (Tm x1 w1) (Zsm HO H1 q1);go_wp2_with fail;refine CF.mono ?_;rintro e wf ⟨rfl,hb⟩;have HB:=onb HB hb;have ab:=mvd hb ab;obtain⟨cu,cw,cx,cy,el⟩:=cl4 ab;have f0:=Zg ab 0;have f1:=Zg ab 1;have f2:=Zg ab 2;have f3:=Zg ab 3;go_wp2;refine aL (v:=dC #[F aD 0 0,.agg #[F aD 0 0,F aD 0 0,F aD 0 0,E J 0],E J 0,E J x1]) ?_ rfl ?_
  ·rw[Wo rfl];go_simp
  ·exact Ac HX R HB ((Gr.refl wf (λq=>q=w.heap.size+2)).four _ (.inl rfl) _ _ _ _)
 subst q1;obtain⟨⟨N1,T1,x2⟩,h2⟩:=ZF (Tr.addE N T s (p,h,k,o,L));obtain⟨sN,sT,sP,sL⟩:=Za HS;have C2:=Zb (Tr.radded_is w na ba nn nc bc N T s p h k o a m c L N1 T1 _ x2 w1 HB (HN.later HB) HT sN sT HL sL HC h2 rfl);obtain⟨n1,ev⟩:∃ n,N1.length=n:=⟨_,rfl⟩;rw[ev] at C2;obtain⟨H2,ft⟩:=kh2 h2 ev;obtain⟨cf,cg,ay,bf,nl⟩:=cl4 ad;obtain⟨fz,ga,gb,gc,gd,dl⟩:=cl5 bu;go_wp2_with fail;refine C2.mono ?_;rintro e w2 ⟨a1,c1,a2,c2,rfl,hA,sA,gu,hb⟩;obtain⟨Y,hY⟩:=ZG (w2.alloc (dA #[F a1 n1 c1,F a2 n1 c2] 28));have et:ZD w2 Y:=by rw[hY];exact Zh _ _
 have ah:Hid (Y.heap[w2.heap.size]? = dG (dA [F a1 n1 c1,F a2 n1 c2].toArray 28 (0,0))):=by show _=_;rw[hY];exact aG _ _
 have bj:Hid (w.heap.size+2<w1.heap.size/\w1.heap.size<=w2.heap.size):=⟨aA ab,hb.size⟩;have hb:=Zf hb et;have HB:=onb HB hb;have ad:=mvd hb ad;have bu:=mvd hb bu;have ab:=mvd hb ab;have cp:Hid (Bk.TextsAt Y b1 au K1):=cp.later hb;have HA:=Zb (λW (hW:ZD w W) (g:Gr Y W (λq=>q<w1.heap.size))=>hA W hW ((Gr.of et).trans g));have fv:=Zb (And.intro sA gu)
 go_upto_region 6 with fail
 rw[<-hY];clear hY;by_cases q2:x2=0
 case neg=>
  have g:(x2 != 0)=true:=by simp[q2]
  obtain⟨CF,R⟩:=kh2 (Tm x2 Y) (Zsl HO H1 H2 q2);go_wp2_with fail;refine CF.mono ?_;rintro e wf ⟨rfl,hb⟩;have HB:=onb HB hb;have ab:=mvd hb ab;obtain⟨cu,cw,cx,cy,el⟩:=cl4 ab;have f0:=Zg ab 0;have f1:=Zg ab 1;have f2:=Zg ab 2;have f3:=Zg ab 3;clear hb CF;go_wp2;refine aL (v:=dC #[F aD 0 0,.agg #[F aD 0 0,F aD 0 0,F aD 0 0,E J 0],E J 0,E J x2]) ?_ rfl ?_
  ·rw[Wo rfl];go_simp
  ·exact Ac HX R HB ((Gr.refl wf (λq=>q=w.heap.size+2)).four _ (.inl rfl) _ _ _ _)
 subst q2;obtain⟨f1,f2,f3,f4,-⟩:=K5 HO H1 H2;obtain⟨⟨x3,D3,U3⟩,h3⟩:=ZF (Xf K1 ((Yq K N T noB).2 p) (p,h,k,o,L));obtain⟨⟨y3,M3⟩,h4⟩:=ZF (nxD K1 ((Yq K N T noB).2 p) (p,h,k,o,L));rw[h4] at f4;have e4:=h4;unfold nxD at e4;rw[h3] at e4
 obtain rfl:x3=y3:=by
  by_cases q:x3=0
  ·rw[if_neg (by simp[q])] at e4;rw[q];exact (cA e4).1
  ·rw[if_pos (by simpa using q)] at e4;exact (cA e4).1
 have de:n1<=24:=by rw[<-Za ft];exact (Wh f2).2.1
 have ew:=TrOk.of f2;have C3:=Zb (λV (hv:ZD Y V) (s:Int) (x:Int) (C:List Zi) (hs:s=0\/s∈N1) (hx:Ur K1 N1 T1 (Y7 N1 T1 s) []=(x,C))=>P8 b1 au ce K1 a1 a2 n1 c1 c2 N1 T1 s x C V (HE.later (Zf HB hv)) (cp.later hv) dn f1 (HA V (Zf HB hv) (Gr.of hv)).1 (HA V (Zf HB hv) (Gr.of hv)).2 (aO de (by decide)) ew hs hx);obtain⟨C,H3,F2⟩:=kh3 (C3 Y (Below.refl _ _) s x3 M3 (.inr f3) f4) h3 f2;obtain⟨fh,fi,tl⟩:=cl2 ah;clear h3 h4 e4 f1 f2 f3 f4 ew;go_wp2_with fail;refine C.mono ?_;rintro e w3 ⟨_,_,_,rfl,_,_,hb⟩;have HB:=onb HB hb;have ad:=mvd hb ad;have ab:=mvd hb ab;have ah:=mvd hb ah;have cn:Hid (ZD Y w3):=hb;by_cases q3:x3=0
 case neg=>
  have g:(x3 != 0)=true:=by simp[q3]
  obtain⟨CF,R⟩:=kh2 (Tm x3 w3) (Zlx HO H1 H2 H3 q3);go_wp2_with fail;refine CF.mono ?_;rintro e wf ⟨rfl,hb⟩;have HB:=onb HB hb;have ab:=mvd hb ab;obtain⟨cu,cw,cx,cy,el⟩:=cl4 ab;have f0:=Zg ab 0;have f1:=Zg ab 1;have f2:=Zg ab 2;have f3:=Zg ab 3;clear hb CF;go_wp2;refine aL (v:=dC #[F aD 0 0,.agg #[F aD 0 0,F aD 0 0,F aD 0 0,E J 0],E J 0,E J x3]) ?_ rfl ?_
  ·rw[Wo rfl];go_simp
  ·exact Ac HX R HB ((Gr.refl wf (λq=>q=w.heap.size+2)).four _ (.inl rfl) _ _ _ _)
 subst q3;obtain⟨t,ht⟩:=ZF (Tr.bstGo N1 T1 0 0 N1);obtain⟨z,hz⟩:=ZF (Wi N1 T1 t);obtain⟨γ,hγ⟩:∃ γ,J3 (Yq K N T noB).2 s D3 = γ:=⟨_,rfl⟩;obtain⟨⟨P2,K2,M2⟩,hD⟩:=ZF (Y0 (z+1) P (K1,γ t));obtain⟨l1,l2,l3,l4,l5,l6⟩:=Zpx HO H1 H2 H3 ht hz hγ hD
 obtain⟨rfl,rfl,rfl⟩:x=0/\nm=s/\D=⟨K2,N1,T1,P2,t,γ⟩:=by
  have e:=HX.symm.trans l1;simpa using e
 have CB:=Zb (λV (hv:ZD w3 V)=>Tr.rbest_is a1 a2 n1 c1 c2 N1 T1 t V (TrOk.of F2) de (HA V (Zf HB hv) (Gr.of (Zf cn hv))).1 (HA V (Zf HB hv) (Gr.of (Zf cn hv))).2 fv.1 ht);obtain⟨HZ,HD,az,fu⟩:=kh4 hz hD (And.intro l2 (And.intro l3 l4)) (Ee HO);clear ht hz hγ hD l1 l2 l3 l4;have en:=ad
 have KS:Hid (∀ U,Gr w3 U (λq=>q=w.heap.size)->U.cell? ⟨w2.heap.size,0,aD⟩=dG (F a1 n1 c1)/\U.cell? ⟨w2.heap.size,1,aD⟩=dG (F a2 n1 c2)/\w.heap.size<U.heap.size):=λU g=>by
  have e:w2.heap.size≠w.heap.size:=by have:=Za bj;omega
  exact⟨g.cell (Zd ah 0 _ rfl) e,g.cell (Zd ah 1 _ rfl) e,aF (aA ad) g.size⟩
 go_upto_region 11 with fail
 refine bC (S:=λU=>U.cell? ⟨w2.heap.size,0,aD⟩=dG (F a1 n1 c1)/\U.cell? ⟨w2.heap.size,1,aD⟩=dG (F a2 n1 c2)/\w.heap.size<U.heap.size) (by kernel_rfl) (KS _ (Gr.of (Zj _))) (λap=>?_);refine tkL 0 rfl ap ?_;refine tkL 1 rfl ap ?_;refine tkL 3 rfl ap ?_;refine rdS 2 rfl (CB _ (Zj _)) ?_;rintro e w4 ⟨rfl,hb⟩;have hb:=Zf (Zj w3) hb;clear ap;refine⟨_,rfl,KS _ (Gr.of hb),λap=>?_⟩;have ad:=mvd hb ad;obtain⟨cf,cg,ay,bf,nl⟩:=cl4 ad;have f0:=Zg ad 0;have f1:=Zg ad 1;refine rdY 4 rfl (λKQ hK=>?_);go_simp;obtain⟨V1,da⟩:=ZG ((w4.setCell ⟨w.heap.size,0,aD⟩ (F a1 n1 c1)).setCell ⟨w.heap.size,1,aD⟩ (F a2 n1 c2));rw[<-da];have g1:Gr w4 V1 (λq=>q=w.heap.size):=by rw[da];exact ((Gr.refl w4 (λq=>q=w.heap.size)).one _ 0 (.inl rfl) _).one _ 1 (.inl rfl) _
 have ad:Hid (V1.heap[w.heap.size]? = dG (dA [F a1 n1 c1,F a2 n1 c2,F pa pn pc,E J tip].toArray 31 (0,0))):=by show _=_;rw[da];exact Tr.set_cells (Tr.set_cells ad 0 _) 1 _
 have G1:Gr w3 V1 (λq=>q=w.heap.size):=(Gr.of hb).trans g1;clear ap cf cg ay bf nl f0 f1 da;refine hK.out _ _ (KS _ G1) (λap=>?_);clear hK KQ;refine tkL 5 rfl ap ?_;obtain⟨-,-,-,bf,-,-,-,f3,nl⟩:=kf4 ad;refine rdY 6 rfl (λKQ hK=>?_);go_simp;obtain⟨V2,db⟩:=ZG (V1.setCell ⟨w.heap.size,3,aD⟩ (E J t));rw[<-db];have G2:Gr w3 V2 (λq=>q=w.heap.size):=by rw[db];exact G1.one _ 3 (.inl rfl) _
 have ad:Hid (V2.heap[w.heap.size]? = dG (dA [F a1 n1 c1,F a2 n1 c2,F pa pn pc,E J t].toArray 31 (0,0))):=by show _=_;rw[db];exact Tr.set_cells ad 3 _
 clear ap bf nl f3 db G1 g1;refine hK.out _ _ (KS _ G2) (λap=>?_);clear hK KQ ap;refine bZ (by kernel_rfl) ?_ _;have fo:=HB;have du:ZD w V2:=G2.below HB HB.size (λq e=>by have e:q=w.heap.size:=e;omega);have am:Hid (Bk.TextsAt V2 b1 au K1):=Jd en G2 (cp.later cn);have ak:Hid (∀ W,ZD w W->Gr V2 W (λq=>q<w1.heap.size)->Tr.IntsAt W a1 n1 N1/\Tr.BlksAt W a2 n1 T1):=λW hW g=>HA W hW ((Gr.of cn).trans ((G2.mono (λq _ e=>by have e:q=w.heap.size:=e;have:=bj.1;show q<w1.heap.size;omega)).trans g));obtain⟨ab,ah⟩:=kh2 (G2.heap ab (λe=>by have e:w.heap.size+2=w.heap.size:=e;omega)) (G2.heap ah (λe=>by have e:w2.heap.size=w.heap.size:=e;have:=Za bj;omega));have HB:Hid (ZD w V2):=du;have bx:=ak V2 du (Gr.refl _ _);have C:=Zb (Lp a1 a2 n1 c1 c2 N1 T1 t z V2 F2 (aO de (by decide)) bx.1 bx.2 az.2.2 HZ);have ic:IntKind.i64.wrap (z+1)=z+1:=by rw[aP];omega
 have ie:z+1<=1000:=by omega
 obtain⟨fh,fi,tl⟩:=cl2 ah;obtain⟨-,-,-,bf,nl⟩:=kc4 ad;clear bx du fo en G2;go_wp2_with fail;refine C.mono ?_;rintro e w5 ⟨rfl,hb⟩;have HB:=onb HB hb;have ad:=mvd hb ad;have ab:=mvd hb ab;have ah:=mvd hb ah;have am:Hid (Bk.TextsAt w5 b1 au K1):=am.later hb;have ak:Hid (∀ W,ZD w W->Gr w5 W (λq=>q<w1.heap.size)->Tr.IntsAt W a1 n1 N1/\Tr.BlksAt W a2 n1 T1):=λW hW g=>ak W hW ((Gr.of hb).trans g);have ey:=HP.1;have ib:pn<=aT:=HS.2.2.1.len;by_cases gj:pn=0
 case pos=>
  subst gj;obtain rfl:P=[]:=aJ.1 ey;obtain⟨rfl,rfl,rfl⟩:[]=P2/\K1=K2 /\ γ t=M2:=by simpa[Y0] using Za HD
  obtain⟨-,-,ay,nl⟩:=kc3 ad;have dm:Hid (∀ W,ZD w W->Gr w5 W (λq=>q<w1.heap.size)->TxsAt W pa 0 []):=λW _ _=>⟨rfl,λh=>absurd h (by omega)⟩
  go_upto_region 16 with fail
  have bh:Hid (∀ W,Gr w5 W (λq=>q=w.heap.size+2)->Zrf w W 0 nm ⟨K1,N1,T1,[],t,γ⟩ (dB (dC #[F b1 au ce,.agg #[F a1 n1 c1,F a2 n1 c2,F pa 0 pc,E J t],E J nm,E J 0]))):=λW g=>by
   have ax:ZD w W:=g.below HB HB.size (λq e=>by omega);have eu:=bj.1;have ii:Gr w5 W (λq=>q<w1.heap.size):=g.mono (λq _ e=>by have e:q=w.heap.size+2:=e;show q<w1.heap.size;omega);exact⟨_,_,_,_,_,_,_,_,_,_,_,_,rfl,⟨Jd ab g am,(ak W ax ii).1,(ak W ax ii).2,dm W ax ii⟩,ax⟩
  obtain⟨cu,cw,cx,cy,el⟩:=cl4 ab;obtain⟨cf,cg,ay,bf,nl⟩:=cl4 ad;have f0:=Zg ab 0;have f1:=Zg ab 1;have f2:=Zg ab 2;have f3:=Zg ab 3;go_wp2
  go_region
  go_wp2
  all_goals (refine aL (v:=dC #[F b1 au ce,.agg #[F a1 n1 c1,F a2 n1 c2,F pa 0 pc,E J t],E J nm,E J 0]) ?_ rfl ?_)
  ·rw[Wo rfl];go_simp
  ·first
   | exact bh _ ((Gr.refl w5 (λq=>q=w.heap.size+2)).draw.four _ (.inl rfl) _ _ _ _)
   | exact bh _ ((Gr.refl w5 (λq=>q=w.heap.size+2)).four _ (.inl rfl) _ _ _ _).draw
   | exact bh _ ((Gr.refl w5 (λq=>q=w.heap.size+2)).four _ (.inl rfl) _ _ _ _)
 case neg=>
  have gp:(0:Int)<(pn:Int):=by omega
  have bx:=ak w5 HB (Gr.refl _ _);have C:=Zb (P8 b1 au ce K1 a1 a2 n1 c1 c2 N1 T1 t 0 (γ t) w5 (HE.later HB) am dn az.1 bx.1 bx.2 (aO de (by decide)) (TrOk.of F2) az.2.2 (az.2.1.at F2 az.2.2));obtain⟨fh,fi,tl⟩:=cl2 ah;obtain⟨cf,cg,ay,bf,nl⟩:=cl4 ad;go_wp2_with fail;refine C.mono ?_;rintro e w6 ⟨oa,gq,oc,rfl,hC,sC,hb⟩;have HB:=onb HB hb;have ad:=mvd hb ad;have ab:=mvd hb ab;have ah:=mvd hb ah;have am:Hid (Bk.TextsAt w6 b1 au K1):=am.later hb;have ak:Hid (∀ W,ZD w W->Gr w6 W (λq=>q<w1.heap.size)->Tr.IntsAt W a1 n1 N1/\Tr.BlksAt W a2 n1 T1):=λW hW g=>ak W hW ((Gr.of hb).trans g);have id:w1.heap.size<=w6.heap.size:=aO (aO bj.2 (Nat.le_of_lt (aA ah))) (aE _);have C:=Zb (Ll w b1 au ce K1 oa gq oc (γ t) pa pn pc P (z+1) K2 P2 M2 w6 (HE.later HB) am dn az.1 hC sC (F7 F2 az.2.1 az.2.2) HB HP (by rw[<-ey];exact Za fu) HD);obtain⟨-,-,ay,nl⟩:=kc3 ad;go_wp2_with fail;refine C.mono ?_;rintro e w7 ⟨k2,eb,fa,sa,sn,sc,_,_,_,Kl,rfl,ep,_,er,_,_,_,hb,dx,es⟩;have HB:=onb HB hb;have ad:=mvd hb ad;have ab:=mvd hb ab;have ah:=mvd hb ah;have am:Hid (Bk.TextsAt w7 b1 au K1):=am.later hb;have ak:Hid (∀ W,ZD w W->Gr w7 W (λq=>q<w1.heap.size)->Tr.IntsAt W a1 n1 N1/\Tr.BlksAt W a2 n1 T1):=λW hW g=>ak W hW ((Gr.of hb).trans g);obtain⟨V3,dc⟩:=ZG (w7.setCell ⟨w.heap.size,2,aD⟩ (F sa sn sc));have G3:Gr w7 V3 (λq=>q=w.heap.size):=by rw[dc];exact (Gr.refl w7 (λq=>q=w.heap.size)).one _ 2 (.inl rfl) _
  have am:Hid (Bk.TextsAt V3 k2 eb K2):=Jd ad G3 ep;have eu:=bj.1
  have dm:Hid (∀ W,ZD w W->Gr V3 W (λq=>q<w1.heap.size)->TxsAt W sa sn P2):=λW hW g=>by
   have o:=((G3.mono (λq _ e=>by have e:q=w.heap.size:=e;show q<w1.heap.size;omega)).trans g).own dx (λq hq e=>by have e:q<w1.heap.size:=e;have:=(dx.lt q hq).1;omega);obtain⟨a',c',e,r,_⟩:=Tr.rows_of_own Tr.txR o (es W hW) er.1;cases e;exact r
  have ak:Hid (∀ W,ZD w W->Gr V3 W (λq=>q<w1.heap.size)->Tr.IntsAt W a1 n1 N1/\Tr.BlksAt W a2 n1 T1):=λW hW g=>ak W hW ((G3.mono (λq _ e=>by have e:q=w.heap.size:=e;show q<w1.heap.size;omega)).trans g);have HB:Hid (ZD w V3):=G3.below HB HB.size (λq e=>by have e:q=w.heap.size:=e;omega);have ab:=Zb (G3.heap ab (λe=>by have e:w.heap.size+2=w.heap.size:=e;omega));obtain⟨-,-,ay,-,-,fr,nl⟩:=kf3 ad;have ad:Hid (V3.heap[w.heap.size]? = dG (dA [F a1 n1 c1,F a2 n1 c2,F sa sn sc,E J t].toArray 31 (0,0))):=by show _=_;rw[dc];exact Tr.set_cells ad 2 _
  clear hb ep er dx es G3 ah
  go_upto_region 16 with fail
  rw[<-dc];clear dc ay nl fr
  have bh:Hid (∀ W,Gr V3 W (λq=>q=w.heap.size+2)->Zrf w W 0 nm ⟨K2,N1,T1,P2,t,γ⟩ (dB (dC #[F k2 eb fa,.agg #[F a1 n1 c1,F a2 n1 c2,F sa sn sc,E J t],E J nm,E J 0]))):=λW g=>by
   have ax:ZD w W:=g.below HB HB.size (λq e=>by omega);have eu:=bj.1;have ii:Gr V3 W (λq=>q<w1.heap.size):=g.mono (λq _ e=>by have e:q=w.heap.size+2:=e;show q<w1.heap.size;omega);exact⟨_,_,_,_,_,_,_,_,_,_,_,_,rfl,⟨Jd ab g am,(ak W ax ii).1,(ak W ax ii).2,dm W ax ii⟩,ax⟩
  obtain⟨cu,cw,cx,cy,el⟩:=cl4 ab;obtain⟨cf,cg,ay,bf,nl⟩:=cl4 ad;have f0:=Zg ab 0;have f1:=Zg ab 1;have f2:=Zg ab 2;have f3:=Zg ab 3;go_wp2
  go_region
  go_wp2
  all_goals (refine aL (v:=dC #[F k2 eb fa,.agg #[F a1 n1 c1,F a2 n1 c2,F sa sn sc,E J t],E J nm,E J 0]) ?_ rfl ?_)
  ·rw[Wo rfl];go_simp
  ·first
   | exact bh _ ((Gr.refl V3 (λq=>q=w.heap.size+2)).draw.four _ (.inl rfl) _ _ _ _)
   | exact bh _ ((Gr.refl V3 (λq=>q=w.heap.size+2)).four _ (.inl rfl) _ _ _ _).draw
   | exact bh _ ((Gr.refl V3 (λq=>q=w.heap.size+2)).four _ (.inl rfl) _ _ _ _)
namespace Tr
open Go.RowKit
theorem Ya{w w1 w2:World}{S T:Nat->Prop}(h:Gr w w1 S)(k:Gr w1 w2 T)(hs:∀ q,q<w.heap.size->T q->S q):Gr w w2 S:=
 ⟨k.os.trans h.os,k.tape.trans h.tape,k.output.trans h.output,aO h.size k.size,λi hi hn=>(k.block i (aF hi h.size) (λq=>hn (hs i hi q))).trans (h.block i hi hn)⟩
def Sv(v:Value)(B:Nat)(q:Nat):Prop:=v.ownBlock=dG q\/q<B
def Sb(v:Value)(ob:Nat)(q:Nat):Prop:=v.ownBlock=dG q\/q=ob
theorem Pm{α : Type}{Z:Rec α}{wr w':World}{v v':Value}{ob:Nat}{K}{L:List α}{k}{x : α}(H:∀ W,Gr wr W (Sv v ob)->AllC Z W K L)(g:Gr wr w' (Sv v ob))(hv:∀ q,v'.ownBlock=dG q->v.ownBlock=dG q\/wr.heap.size<=q)(N:∀ W,Gr w' W (Sv v' ob)->Z.C W k x) :
  ∀ W,Gr w' W (Sv v' ob)->AllC Z W (K++[k]) (L++[x]):=λW g2=>
 (H W (Ya g g2 (λq hq e=>by
  rcases e with e|e
  ·rcases hv q e with e|e
   ·exact .inl e
   ·omega
  ·exact .inr e))).snoc (N W g2)
theorem Qm{w:World}{ops rest}{o:Oper}{a:Act}{Q:Exit->Act->World->Prop}(af:o.guard=aD)(s x:Operand)
  (ho:o.op = .call { callee:=.builtin .append,args:=#[s,x],argTypes:=#[88,88] }) (eb:Nat) (hs:a.eval s = F (dG ⟨eb,0,aD⟩) 0 0) (ak:w.ownsRow eb 139 2 (F (dG ⟨eb,0,aD⟩) 0 0) 0 [])
  (bd n c l) (hx:a.eval x = F bd n c) (hR:OpsAt w bd n l) (sR:SlOk bd n c) (hn:n<=8796093022208) (hb:eb<=w.heap.size)
  (h:∀ a' c' w',(∀ W,Gr w' W (λq=>q<eb)->OpsAt W a' n l)->SlOk a' n c'->Gr w w' (λq=>q=eb)->wpList aB ops Q rest (a.put o.dst (F a' n c')) w') :
  wpList aB ops Q (o :: rest) a w:=by
 obtain⟨i0,hi,au,av,aw⟩:=bX Tryz.infoOpC;cases bd with
 | none=>
  obtain⟨rfl,rfl⟩:=sR.2.2 rfl;obtain rfl:l=[]:=aJ.1 hR.1;refine wpList_append_own_none af s x 88 ho eb 139 i0 2 underlying88 hi _ 0 [] hs ak hx ?_;exact h _ _ w (λW _=>⟨rfl,λh=>absurd h (by omega)⟩) ⟨aE _,aI _,λe=>by cases e⟩ (Gr.refl _ _)
 | some ad=>
  have hl:l.length=n:=hR.1;refine wpList_append_own w af s x 88 ho eb 139 i0 (.agg #[E J 0,E J 0]) 2 16 underlying88 hi au av aw rfl (by decide) _ 0 [] hs ak ad n c (Um l) hx (by rw[Vz,hl]) (λj u hj=>?_) (Gh l) (by unfold aT;omega) (by omega) hb λv' w' h1 h2 _=>?_
  ·have az:j<l.length*2:=(by rw[<-Vz];exact (cD.1 hj).1);obtain⟨b,off,e,aq⟩:=hR.2 (by omega);cases e;rw[Addr.add_lit];exact Hh hl aq j u hj
  ·rw[List.nil_append,bO] at h1;obtain⟨a',c',rfl,_,s'⟩:=Pe h1
   exact h a' c' w' (λW g=>by
    obtain⟨_,_,e,r,_⟩:=Pe (g.own h1 (λq hq e=>by have:=(h1.lt q hq).1;omega));cases e;exact r) s'.1 ((Gr.refl w (λq=>q=eb)).grown h2 (λq e=>by cases e;exact .inl rfl))
def Zro(w w':World)(t:TxD)(e:Ending):Prop:=
 ∃ a n c a' n' c',e = dB (.agg #[E J t.1,F a n c,F a' n' c'])/\(∀ W,Gr w' W (λq=>q<w.heap.size)->InsAt W a n t.2.1/\OutsAt W a' n' t.2.2)/\SlOk a n c/\SlOk a' n' c'/\ZD w w'
theorem Ei(h:Int)(ai ao ni ci no co I O w)(hI:InsAt w ai ni I)(hO:OutsAt w ao no O)(hs:TxSmall (h,I,O)) :
  Calls aB 14 #[.agg #[E J h,F ai ni ci,F ao no co]] w λe w'=>Zro w w' (h,I,O) e:=by
 obtain⟨X,hX⟩:=ZG (((w.alloc (dA #[E J h,F ai ni ci,F ao no co] 50)).alloc (dA #[E J 0,F aD 0 0,F aD 0 0] 50)).alloc (dA #[E J h,F aD 0 0,F aD 0 0] 50));have hb:ZD w X:=by rw[hX];exact Zf (Zf (Zh _ _) (Zh _ _)) (Zh _ _)
 have gu:X.heap.size=w.heap.size+3:=by rw[hX];simp
 have fq:Hid (X.heap[w.heap.size]? = dG (dA [E J h,F ai ni ci,F ao no co].toArray 50 (0,0))):=by rw[hX];exact ((Zh _ _).block _ (by simp;omega)).trans (((Zh _ _).block _ (by simp)).trans (aG _ _))
 have ce:Hid (X.heap[w.heap.size+1]? = dG (dA [E J 0,F aD 0 0,F aD 0 0].toArray 50 (0,0))):=by
  rw[hX];have:=aG (w.alloc (dA #[E J h,F ai ni ci,F ao no co] 50)) (dA #[E J 0,F aD 0 0,F aD 0 0] 50);rw[cS] at this;exact ((Zh _ _).block _ (by simp)).trans this
 have dp:Hid (X.heap[w.heap.size+2]? = dG (dA [E J h,F aD 0 0,F aD 0 0].toArray 50 (0,0))):=by
  rw[hX];have:=aG ((w.alloc (dA #[E J h,F ai ni ci,F ao no co] 50)).alloc (dA #[E J 0,F aD 0 0,F aD 0 0] 50)) (dA #[E J h,F aD 0 0,F aD 0 0] 50);rwa [cS,cS] at this
 have cl:Hid (∀ U,Gr X U (λq=>q=w.heap.size+2)->ZD w U):=λU g=>g.below hb (by omega) (λq e=>by omega);obtain⟨HI,HO,fo,fp⟩:=kh4 hI hO hs.2.2.1 hs.2.2.2;have gv:ni<=3518437208883:=by rw[<-hI.1];exact hs.1
 have gw:no<=4398046511104:=by rw[<-hO.1];exact hs.2.1
 obtain⟨gg,gh,fh,tl⟩:=cl3 fq;clear hI hO hs hb;go_enter func14,ntmps14;have eh:X.heap.size<=X.heap.size:=aE _
 go_upto_region 1 with fail
 go_upto_region 2 with fail
 rw[<-hX];clear hX;go_wp2_with fail
 go_loopw [14] (λiv U=>∃ (k:Nat) (v:Value) (K:List (List Value)),k<=ni/\iv = E J (k:Int)/\Hid (U.heap[w.heap.size+2]? = dG (dA [E J h,v,F aD 0 0].toArray 50 (0,0)))/\Hid (U.ownsRow X.heap.size 90 3 v k K.flatten)/\Hid (∀ W,Gr U W (Sv v (w.heap.size+3))->AllC inR W K (I.take k))/\Hid (Gr X U (λq=>q=w.heap.size+2))) (λiv _=>ni - (intOf iv).toNat)
 case atStart=>exact⟨0,F aD 0 0,[],aI _,rfl,dp,⟨rfl,.inl ⟨rfl,rfl⟩⟩,λW _=>⟨by simp,λi h1 _=>absurd h1 (by simp)⟩,Gr.refl _ _⟩
 case round=>
  obtain⟨k,v,K,hk,rfl,az,HR,HV,HG⟩:=hrel;by_cases dt:k<ni
  case pos=>
   have fx:(k:Int)<(ni:Int):=(by omega);have br:k<I.length:=(by rw[(Za HI).1];exact dt);have bj:=cl wr HG;obtain⟨ib,io,rfl,_,hc⟩:=(HI.later bj).2 (by omega);have da:=hc k br;have bs:=fo _ (aQ br);have bv:=aH br;obtain⟨⟨p1,p2,dl⟩,hx⟩:=ZF (I[k]);rw[hx] at da bs bv;obtain⟨c0,c1,ka,kn,kc,c2,au,eu⟩:=da;simp only at c0 c1 c2 au bs;obtain⟨W1,aj⟩:=ZG (wr.alloc (dA #[E J p1,E J p2,F ka kn kc] 90));have bh:ZD wr W1:=(by rw[aj];exact Zh _ _);have X1:Hid (W1.heap[wr.heap.size]? = dG (dA [E J p1,E J p2,F ka kn kc].toArray 90 (0,0))):=(by show _=_;rw[aj];exact aG _ _);have dh:W1.heap.size=wr.heap.size+1:=(by rw[aj];simp);have HE:Hid ((W1.alloc (dA #[] 139)).ownsRow (wr.heap.size+1) 139 2 (F (dG ⟨wr.heap.size+1,0,aD⟩) 0 0) 0 []):=(by show cP _ _ _ _ _ _ _;rw[<-dh];exact U1 W1 139 2);have en:kn<=8796093022208:=(by rw[<-au.1];exact bs);have ea:=Zb ((au.later bh).later (Zh W1 (dA #[] 139)));have eo:wr.heap.size+1<=(W1.alloc (dA #[] 139)).heap.size:=(by simp[dh]);have fy:=aA az;have ia:=aC _ _ c0;have dx:=Zb bh;clear hc hx au bh
   go_upto_region 5 with fail
   rw[<-aj];clear aj;obtain⟨bz,ev,ca,xl⟩:=cl3 X1;have cw:=mvd (Zh W1 (dA #[] 139)) X1
   go_upto_region 6 with (at_builtin;refine Qm rfl _ _ rfl (wr.heap.size+1) rfl HE ka kn kc dl rfl ea eu en eo ?_;intro a' c' w3 dc dm bo;have X3:=Zb (bo.heap cw (by omega));have gy:=Zg X3 2;have ee:=Zd X3 2 _ rfl;have ew:=aA X3)
   obtain⟨W4,ak⟩:=ZG (w3.setCell ⟨wr.heap.size,2,aD⟩ (F a' kn c'));rw[<-ak];have X4:Hid (W4.heap[wr.heap.size]? = dG (dA [E J p1,E J p2,F a' kn c'].toArray 90 (0,0))):=(by show _=_;rw[ak];exact set_cells X3 2 _);have cy:Gr wr w3 (λ_=>False):=Ya (Gr.of (Zf dx (Zh W1 (dA #[] 139)))) bo (λq hq e=>by omega)
   have bi:ZD wr W4:=by
    have g:Gr wr W4 (λ_=>False):=(by rw[ak];exact cy.one _ _ (.inr (aE _)) _);exact⟨g.os,g.tape,g.output,g.size,λk hk=>g.block k hk (λq=>q)⟩
   have dd:∀ W,Gr W4 W (λq=>q<=wr.heap.size)->OpsAt W a' kn dl:=λW g=>dc W (Ya (T:=λq=>q<=wr.heap.size) (by rw[ak];exact (Gr.refl w3 (λq=>q<wr.heap.size+1)).one _ _ (.inl (Nat.lt_succ_self _)) _) g (λq _ e=>by omega));obtain⟨dz,ap,eb⟩:=kh3 dd bi dm;have O4:=mvd bi az;clear ak gy ee ew dc bo cy bi dd dm X1 cw bz ev ca xl;obtain⟨i0,hi,ep,eq,er⟩:=bX Tryz.infoInC;have am:=Zh W4 (dA #[E J p1,E J p2,F a' kn c'] 90);obtain⟨cu,cq⟩:=kh2 ((Gr.of (S:=λ_=>False) (Zf ap am)).own HR (λ_ _ q=>q)) (bI (aG W4 (dA #[E J p1,E J p2,F a' kn c'] 90)));have O5:=mvd am O4;have av:∀ q,v.ownBlock=dG q->X.heap.size<=q/\q<wr.heap.size:=λq e=>HR.lt q e;have ek:X.heap.size<=(W4.alloc (dA #[E J p1,E J p2,F a' kn c'] 90)).heap.size:=aO (aO eh HG.size) (aO ap.size am.size);have fv:=HG.size;have fw:=ap.size;obtain⟨bz,ev,ca,xl⟩:=cl3 X4;obtain⟨dq,dr,ds,bl⟩:=cl3 O4;have cg:=Zb am;clear am O4
   go_upto_region 7 with (at_builtin;refine wpList_append_lies _ rfl _ _ 47 rfl X.heap.size 90 i0 (.agg #[E J 0,E J 0,F aD 0 0]) 3 40 underlying47 hi ep eq er rfl (by decide) _ _ _ rfl cu ⟨W4.heap.size,0,aD⟩ 1 1 [E J p1,E J p2,F a' kn c'] rfl rfl cq (λu hu=>by simp at hu;rcases hu with rfl|rfl|rfl <;> rfl) (by decide) (by unfold aT;omega) (by omega) ek _ rfl ?_;intro g cap w6 bu bq de el;have O6:=Zb (((Gr.refl _ (λq=>v.ownBlock=dG q)).grown bq (λq e=>.inl e)).heap O5 (λe=>by have:=av _ e;omega));have ey:=Zd O6 1 _ rfl;have yl:=aA O6;have yf:=Zg O6 1)
   obtain⟨W7,al⟩:=ZG (w6.setCell ⟨w.heap.size+1+1,1,aD⟩ (F (dG ⟨g,0,aD⟩) (k+1) cap));rw[<-al]
   have G7:Gr (W4.alloc (dA #[E J p1,E J p2,F a' kn c'] 90)) W7 (Sb v (w.heap.size+2)):=by
    rw[al];exact ((Gr.refl _ (Sb v (w.heap.size+2))).grown bq (λq e=>.inl (.inl e))).one _ _ (.inl (.inr rfl)) _
   have cp:Hid (W7.heap[w.heap.size+2]? = dG (dA [E J h,F (dG ⟨g,0,aD⟩) (k+1) cap,F aD 0 0].toArray 50 (0,0))):=by show _=_;rw[al];exact set_cells O6 1 _
   have cm:Hid (W7.ownsRow X.heap.size 90 3 (F (dG ⟨g,0,aD⟩) (k+1) cap) (k+1) (K++[([E J p1,E J p2,F a' kn c']:List Value)]).flatten):=by
    show cP _ _ _ _ _ _ _
    have o:W7.ownsRow X.heap.size 90 3 (F (dG ⟨g,0,aD⟩) (k+1) cap) (k+1) (K.flatten++[E J p1,E J p2,F a' kn c']):=by
     rw[al];exact (((Gr.refl w6 (λq=>q=w.heap.size+2)).one _ _ (.inl rfl) _)).own bu (λq e e2=>by have e2:q=w.heap.size+2:=e2;have:=(bu.lt q e).1;omega)
    rwa [List.flatten_append,List.flatten_singleton]
   have ax:Gr wr W7 (Sb v (w.heap.size+2)):=Ya (Gr.of (Zf ap cg)) G7 (λq _ e=>e)
   have bw:∀ q,(bW (dG ⟨g,0,aD⟩) (k+1) cap).ownBlock=dG q->v.ownBlock=dG q\/W4.heap.size+1<=q:=λq e=>by
    obtain rfl:g=q:=by injection e
    rcases de with e|e
    ·exact .inl e
    ·right;rw[e];simp
   have cn:Hid (∀ W,Gr W7 W (Sv (F (dG ⟨g,0,aD⟩) (k+1) cap) (w.heap.size+3))->AllC inR W (K++[([E J p1,E J p2,F a' kn c']:List Value)]) (I.take (k+1))):=by
    rw[bv];refine Pm HV (ax.mono (λq _ e=>e.imp id (λe=>by omega))) (λq e=>(bw q e).imp id (λe=>by omega)) (λW g2=>⟨a',kn,c',rfl,dz W (Ya (Ya (Gr.of cg) G7 (λq _ e=>?_)) g2 (λq hq e=>?_)),Za eb⟩)
    ·show q<=wr.heap.size
     rcases e with e|e
     ·have:=av q e;omega
     ·omega
    ·show q<=wr.heap.size
     rcases e with e|e
     ·rcases bw q e with e|e
      ·have:=av q e;omega
      ·omega
     ·omega
   have cj:Hid (Gr X W7 (λq=>q=w.heap.size+2)):=Ya HG ax (λq hq e=>by
    rcases e with e|e
    ·have:=av q e;omega
    ·exact e)
   have du:IntKind.i64.wrap ((k:Int)+1)=((k:Int)+1):=(by rw[aP];omega);clear bu bq de el yf ey yl al G7 ax bw O5 X4 bz ev ca xl dq dr ds bl cu cq bv;go_wp2;go_roundw
   case rel=>first|exact⟨k+1,_,_,by omega,by go_num,cp,cm,cn,cj⟩|((repeat apply Exists.intro);refine⟨?_,rfl⟩;exact⟨k+1,_,_,by omega,by go_num,cp,cm,cn,cj⟩)
   case measure=>simp[intOf];omega
  case neg=>
   obtain rfl:ni=k:=(by omega);obtain⟨w2,du⟩:=ZG (wr);subst du;have fe:=Zb (cl w2 HG);have AI:=HV w2 (Gr.refl _ _);rw[aM (by rw[(Za HI).1];exact aE _)] at AI;obtain⟨a1,c1,rfl,r1,s1⟩:=rows_of_own inR HR AI HI.1
   have fl:Hid (∀ W,Gr w2 W (λq=>q<w.heap.size+3)->InsAt W a1 ni I):=λW g=>by
    have fb:=HV W (g.mono (λq _ e=>.inr e));rw[aM (by rw[(Za HI).1];exact aE _)] at fb;have o2:=g.own HR (λq e e2=>by have:=(HR.lt q e).1;have e2:q<w.heap.size+3:=e2;omega);obtain⟨_,_,e,r,_⟩:=rows_of_own inR o2 fb HI.1;cases e;exact r
   have fm:=Zb s1;have fk:=HG;have fu:=HG.size;have dp:=az;have fh:=HG.cell fh (λe=>by have e:w.heap.size=w.heap.size+2:=e;omega);have tl:=aF tl fu;have cl:Hid (∀ U,Gr w2 U (λq=>q=w.heap.size+2)->ZD w U):=λU g=>g.below fe fe.size (λq e=>by omega);have eh:w2.heap.size<=w2.heap.size:=aE _;clear AI r1 s1 dt gg gh;go_wp2_with fail
   go_loopw [33] (λiv U=>∃ (k:Nat) (v:Value) (K:List (List Value)),k<=no/\iv = E J (k:Int)/\Hid (U.heap[w.heap.size+2]? = dG (dA [E J h,F a1 ni c1,v].toArray 50 (0,0)))/\Hid (U.ownsRow w2.heap.size 92 2 v k K.flatten)/\Hid (∀ W,Gr U W (Sv v (w.heap.size+3))->AllC outR W K (O.take k))/\Hid (Gr w2 U (λq=>q=w.heap.size+2))) (λiv _=>no - (intOf iv).toNat)
   case atStart=>exact⟨0,F aD 0 0,[],aI _,rfl,dp,⟨rfl,.inl ⟨rfl,rfl⟩⟩,λW _=>⟨by simp,λi h1 _=>absurd h1 (by simp)⟩,Gr.refl _ _⟩
   case round=>
    obtain⟨k,v,K,hk,rfl,az,HR,HV,HG⟩:=hrel;by_cases dt:k<no
    case pos=>
     clear dp;have fx:(k:Int)<(no:Int):=(by omega);have br:k<O.length:=(by rw[(Za HO).1];exact dt);have bj:=cl wr HG;obtain⟨ib,io,rfl,_,hc⟩:=(HO.later bj).2 (by omega);have da:=hc k br;have bs:=fp _ (aQ br);have bv:=aH br;obtain⟨⟨p1,dl⟩,hx⟩:=ZF (O[k]);rw[hx] at da bs bv;obtain⟨c0,ka,kn,kc,c2,au,eu⟩:=da;simp only at c0 c2 au bs;obtain⟨W1,aj⟩:=ZG (wr.alloc (dA #[E J p1,F ka kn kc] 92));have bh:ZD wr W1:=(by rw[aj];exact Zh _ _);have X1:Hid (W1.heap[wr.heap.size]? = dG (dA [E J p1,F ka kn kc].toArray 92 (0,0))):=(by show _=_;rw[aj];exact aG _ _);have dh:W1.heap.size=wr.heap.size+1:=(by rw[aj];simp);have HE:Hid ((W1.alloc (dA #[] 139)).ownsRow (wr.heap.size+1) 139 2 (F (dG ⟨wr.heap.size+1,0,aD⟩) 0 0) 0 []):=(by show cP _ _ _ _ _ _ _;rw[<-dh];exact U1 W1 139 2);have en:kn<=8796093022208:=(by rw[<-au.1];exact bs);have ea:=Zb ((au.later bh).later (Zh W1 (dA #[] 139)));have eo:wr.heap.size+1<=(W1.alloc (dA #[] 139)).heap.size:=(by simp[dh]);have fy:=aA az;have ia:=aC _ _ c0;have dx:=Zb bh;clear hc hx au bh
     go_upto_region 11 with fail
     rw[<-aj];clear aj;obtain⟨bz,ca,xl⟩:=cl2 X1;have cw:=mvd (Zh W1 (dA #[] 139)) X1
     go_upto_region 12 with (at_builtin;refine Qm rfl _ _ rfl (wr.heap.size+1) rfl HE ka kn kc dl rfl ea eu en eo ?_;intro a' c' w3 dc dm bo;have X3:=Zb (bo.heap cw (by omega));have gy:=Zg X3 1;have ee:=Zd X3 1 _ rfl;have ew:=aA X3)
     obtain⟨W4,ak⟩:=ZG (w3.setCell ⟨wr.heap.size,1,aD⟩ (F a' kn c'));rw[<-ak];have X4:Hid (W4.heap[wr.heap.size]? = dG (dA [E J p1,F a' kn c'].toArray 92 (0,0))):=(by show _=_;rw[ak];exact set_cells X3 1 _);have cy:Gr wr w3 (λ_=>False):=Ya (Gr.of (Zf dx (Zh W1 (dA #[] 139)))) bo (λq hq e=>by omega)
     have bi:ZD wr W4:=by
      have g:Gr wr W4 (λ_=>False):=(by rw[ak];exact cy.one _ _ (.inr (aE _)) _);exact⟨g.os,g.tape,g.output,g.size,λk hk=>g.block k hk (λq=>q)⟩
     have dd:∀ W,Gr W4 W (λq=>q<=wr.heap.size)->OpsAt W a' kn dl:=λW g=>dc W (Ya (T:=λq=>q<=wr.heap.size) (by rw[ak];exact (Gr.refl w3 (λq=>q<wr.heap.size+1)).one _ _ (.inl (Nat.lt_succ_self _)) _) g (λq _ e=>by omega));obtain⟨dz,ap,eb⟩:=kh3 dd bi dm;have O4:=mvd bi az;clear ak gy ee ew dc bo cy bi dd dm X1 cw bz ca xl;obtain⟨i0,hi,ep,eq,er⟩:=bX Tryz.infoOutC;have am:=Zh W4 (dA #[E J p1,F a' kn c'] 92);obtain⟨cu,cq⟩:=kh2 ((Gr.of (S:=λ_=>False) (Zf ap am)).own HR (λ_ _ q=>q)) (bI (aG W4 (dA #[E J p1,F a' kn c'] 92)));have O5:=mvd am O4;have av:∀ q,v.ownBlock=dG q->w2.heap.size<=q/\q<wr.heap.size:=λq e=>HR.lt q e;have ek:w2.heap.size<=(W4.alloc (dA #[E J p1,F a' kn c'] 92)).heap.size:=aO (aO eh HG.size) (aO ap.size am.size);have fv:=HG.size;have fw:=ap.size;obtain⟨bz,ca,xl⟩:=cl2 X4;obtain⟨dq,dr,ds,bl⟩:=cl3 O4;have cg:=Zb am;clear am O4
     go_upto_region 13 with (at_builtin;refine wpList_append_lies _ rfl _ _ 48 rfl w2.heap.size 92 i0 (.agg #[E J 0,F aD 0 0]) 2 32 underlying48 hi ep eq er rfl (by decide) _ _ _ rfl cu ⟨W4.heap.size,0,aD⟩ 1 1 [E J p1,F a' kn c'] rfl rfl cq (λu hu=>by simp at hu;rcases hu with rfl|rfl <;> rfl) (by decide) (by unfold aT;omega) (by omega) ek _ rfl ?_;intro g cap w6 bu bq de el;have O6:=Zb (((Gr.refl _ (λq=>v.ownBlock=dG q)).grown bq (λq e=>.inl e)).heap O5 (λe=>by have:=av _ e;omega));have ey:=Zd O6 2 _ rfl;have yl:=aA O6;have yf:=Zg O6 2)
     obtain⟨W7,al⟩:=ZG (w6.setCell ⟨w.heap.size+1+1,2,aD⟩ (F (dG ⟨g,0,aD⟩) (k+1) cap));rw[<-al]
     have G7:Gr (W4.alloc (dA #[E J p1,F a' kn c'] 92)) W7 (Sb v (w.heap.size+2)):=by
      rw[al];exact ((Gr.refl _ (Sb v (w.heap.size+2))).grown bq (λq e=>.inl (.inl e))).one _ _ (.inl (.inr rfl)) _
     have cp:Hid (W7.heap[w.heap.size+2]? = dG (dA [E J h,F a1 ni c1,F (dG ⟨g,0,aD⟩) (k+1) cap].toArray 50 (0,0))):=by show _=_;rw[al];exact set_cells O6 2 _
     have cm:Hid (W7.ownsRow w2.heap.size 92 2 (F (dG ⟨g,0,aD⟩) (k+1) cap) (k+1) (K++[([E J p1,F a' kn c']:List Value)]).flatten):=by
      show cP _ _ _ _ _ _ _
      have o:W7.ownsRow w2.heap.size 92 2 (F (dG ⟨g,0,aD⟩) (k+1) cap) (k+1) (K.flatten++[E J p1,F a' kn c']):=by
       rw[al];exact (((Gr.refl w6 (λq=>q=w.heap.size+2)).one _ _ (.inl rfl) _)).own bu (λq e e2=>by have e2:q=w.heap.size+2:=e2;have:=(bu.lt q e).1;omega)
      rwa [List.flatten_append,List.flatten_singleton]
     have ax:Gr wr W7 (Sb v (w.heap.size+2)):=Ya (Gr.of (Zf ap cg)) G7 (λq _ e=>e)
     have bw:∀ q,(bW (dG ⟨g,0,aD⟩) (k+1) cap).ownBlock=dG q->v.ownBlock=dG q\/W4.heap.size+1<=q:=λq e=>by
      obtain rfl:g=q:=by injection e
      rcases de with e|e
      ·exact .inl e
      ·right;rw[e];simp
     have cn:Hid (∀ W,Gr W7 W (Sv (F (dG ⟨g,0,aD⟩) (k+1) cap) (w.heap.size+3))->AllC outR W (K++[([E J p1,F a' kn c']:List Value)]) (O.take (k+1))):=by
      rw[bv];refine Pm HV (ax.mono (λq _ e=>e.imp id (λe=>by omega))) (λq e=>(bw q e).imp id (λe=>by omega)) (λW g2=>⟨a',kn,c',rfl,dz W (Ya (Ya (Gr.of cg) G7 (λq _ e=>?_)) g2 (λq hq e=>?_)),Za eb⟩)
      ·show q<=wr.heap.size
       rcases e with e|e
       ·have:=av q e;omega
       ·omega
      ·show q<=wr.heap.size
       rcases e with e|e
       ·rcases bw q e with e|e
        ·have:=av q e;omega
        ·omega
       ·omega
     have cj:Hid (Gr w2 W7 (λq=>q=w.heap.size+2)):=Ya HG ax (λq hq e=>by
      rcases e with e|e
      ·have:=av q e;omega
      ·exact e)
     have du:IntKind.i64.wrap ((k:Int)+1)=((k:Int)+1):=(by rw[aP];omega);clear bu bq de el yf ey yl al G7 ax bw O5 X4 bz ca xl dq dr ds bl cu cq bv;go_wp2;go_roundw
     case rel=>first|exact⟨k+1,_,_,by omega,by go_num,cp,cm,cn,cj⟩|((repeat apply Exists.intro);refine⟨?_,rfl⟩;exact⟨k+1,_,_,by omega,by go_num,cp,cm,cn,cj⟩)
     case measure=>simp[intOf];omega
    case neg=>
     obtain rfl:no=k:=(by omega);obtain⟨vo,Ko,fz,ft⟩:∃ v' K',v=v'/\K=K':=⟨_,_,rfl,rfl⟩;have bj:=cl wr HG;have AO:=HV wr (Gr.refl _ _);rw[aM (by rw[(Za HO).1];exact aE _)] at AO;obtain⟨a2,c2,rfl,r2,s2⟩:=rows_of_own outR HR AO HO.1;have du:=HG.size;have G2:=fk.trans HG;have ce:=Zb (G2.heap ce (λe=>by have e:w.heap.size+1=w.heap.size+2:=e;omega));obtain⟨dq,dr,ds,bl⟩:=cl3 az;obtain⟨gj,gl,gm,ic⟩:=cl3 ce;have f0:=Zg ce 0;have f1:=Zg ce 1;have f2:=Zg ce 2
     have fj:Hid (∀ W,Gr wr W (λq=>q=w.heap.size+1)->Zro w W (h,I,O) (dB (.agg #[E J h,F a1 ni c1,F a2 no c2]))):=λW g=>by
      refine⟨a1,ni,c1,a2,no,c2,rfl,λW2 g2=>?_,Za fm,s2,g.below bj bj.size (λq e=>by omega)⟩;have gz:Gr wr W2 (λq=>q<w.heap.size+3):=Ya (T:=λq=>q<w.heap.size) (g.mono (λq _ e=>by have e:q=w.heap.size+1:=e;show q<w.heap.size+3;omega)) g2 (λq _ e=>by have e:q<w.heap.size:=e;show q<w.heap.size+3;omega);constructor
      ·exact fl W2 (Ya (HG.mono (λq _ e=>by have e:q=w.heap.size+2:=e;show q<w.heap.size+3;omega)) gz (λq _ e=>e))
      ·have fc:=HV W2 (gz.mono (λq _ e=>.inr e));rw[aM (by rw[(Za HO).1];exact aE _)] at fc;have o2:=gz.own HR (λq e e2=>by have:=(HR.lt q e).1;have e2:q<w.heap.size+3:=e2;omega);obtain⟨_,_,e,r,_⟩:=rows_of_own outR o2 fc HO.1;cases e;exact r
     clear fz ft AO r2 G2 bj;go_wp2;(try simp only[Exit.inBlock,Exit.then]);refine aL (v:=.agg #[E J h,F a1 ni c1,F a2 no c2]) ?_ rfl ?_
     ·rw[Yb rfl];go_simp
     ·exact fj _ ((((Gr.refl wr (λq=>q=w.heap.size+1)).one _ _ (.inl rfl) _).one _ _ (.inl rfl) _).one _ _ (.inl rfl) _)
