import Derived.Test.YtmomfkikogbdeaaGreatDoorH
import Derived.Test.YtmomfkikogbdeaaGreatDoorG42
open Go.Proofs.Tryz
open Go renaming lt_of_block->aA
open Go.Ending renaming returned->dA
open Go.IntKind renaming i64->J
open Go.Obj renaming cells->cZ
open Go.Proofs.Tryz renaming prog->aB
open Go.Value renaming int->E,slice->F,tuple->dB,pointer->dC
open Nat renaming le_refl->aF,zero_le->aL,lt_of_lt_of_le->aD
set_option maxHeartbeats 12800000
set_option maxRecDepth 10000
namespace Go.Proofs.YtmomfkikogbdeaaGreatDoor
open Bk (Right nm nameR)
theorem Zbe{K}{s:ByteArray}(hK:Right K)(z:Bk.place s K≠0):(nameR K s).1=K:=by
 rw[Bz hK,Bk.nm_there (Ks hK (by omega)) (by omega)]
theorem H9{h:Int}{K}(hK:Right K):∀ (l:List TxD) (C:List Zj),l.all (knT K)=true->(Zv h l (K,C)).2.1=K
 | [],_,_=>rfl
 | t :: l,C,ha=>by
  rw[List.all_cons,Bool.and_eq_true] at ha
  have ht:Bk.place (txT t) K≠0:=by
   have:=ha.1;unfold knT at this;simp at this;exact this.2
  rw[Zv];by_cases q:(doD h (K,C) t).1=0
  ·rw[if_pos q]
   have e:(doD h (K,C) t).2.1=K:=by
    unfold doD at *;split at q
    ·rename_i q1;exact absurd q q1
    rename_i q1;rw[if_neg q1] at *;split at q
    ·exact absurd (show (4:Int)=0 from q) (by decide)
    rename_i q2;rw[if_neg q2] at *;split at q
    ·rename_i q3;exact absurd q q3
    rename_i q3;rw[if_neg q3] at *;split at q
    ·rename_i q4;exact absurd q q4
    rename_i q4;rw[if_neg q4];exact Zbe hK ht
   obtain⟨Q,z,h2⟩:∃ Q z,(doD h (K,C) t).2=(Q,z):=⟨_,_,rfl⟩;rw[h2] at e ⊢;have e:Q=K:=e;subst e;exact H9 hK l z ha.2
  ·rw[if_neg q];exact H9 hK l C ha.2
theorem Zae{h:Int}:∀ (l:List TxD) (s:List ByteArray×List Zj),(Zv h l s).1.length<=l.length/\(¬(Zv h l s).1.length<l.length->(Zv h l s).1=l)
 | [],_=>⟨aF _,λ_=>rfl⟩
 | t :: l,s=>by
  rw[Zv];by_cases q:(doD h s t).1=0
  ·rw[if_pos q];obtain⟨h1,h2⟩:=Zae (h:=h) l (doD h s t).2;exact⟨by simp;exact h1,λe=>by simp at e;simp[h2 (by omega)]⟩
  ·rw[if_neg q];obtain⟨h1,h2⟩:=Zae (h:=h) l s;exact⟨by simp;omega,λe=>by simp at e;omega⟩
theorem Zgu{K M t}(h:knT K t=true):knT (K++M) t=true:=by
 unfold knT at *;simp at h ⊢;exact⟨h.1,by rw[Bk.place_stays M (Nat.pos_of_ne_zero h.2)];exact h.2⟩
theorem Zaw{K M}{y:U9}(h:opN K y=0)(Q:Right (K++M)):opN (K++M) y=0:=by
 obtain⟨N,T,P,tip⟩:=y;have h:opE K N T P tip=0:=h;show opE (K++M) N T P tip=0;obtain⟨o1,o2,o3,z⟩:=Yg h;have hK:=(Bk.right_iff K).1 o1;have ok:=Tr.TrOk.of (Yb o2).1;have cb:=Rg hK Q N T noB (λx hx=>by have:=(ok.nm x hx).1;omega) o3
 have ak:poE (K++M) N T P tip (Z0 K N T noB).2=0:=by
  unfold poE at z ⊢;split at z
  ·rename_i q;rw[if_pos q]
  rename_i q1;rw[if_neg q1];split at z
  ·exact absurd z (by decide)
  rename_i q2;have ka:P.all (knT K)=true:=by simpa using q2
  have ka':P.all (knT (K++M))=true:=List.all_eq_true.2 (λt ht=>Zgu (List.all_eq_true.1 ka t ht));rw[if_neg (by rw[ka'];decide)];split at z
  ·rename_i q;exact absurd z q
  rename_i q3;have q3:=Decidable.not_not.1 q3;split at z
  ·exact absurd z (by decide)
  rename_i q4;obtain⟨oo,hl⟩:=Ut q3;obtain⟨_,ah,h1,h2⟩:=Vm oo
  have al:swE (K++M) ((Z0 K N T noB).2 tip) P (Yh N T tip+1)=0:=by
   unfold swE;rw[Sm Q ah h1 h2];simp;exact hl
  rw[if_neg (by rw[al];decide)];have e1:=(Zae (h:=Yh N T tip+1) P (K,(Z0 K N T noB).2 tip)).2 q4;have e2:=H9 hK (h:=Yh N T tip+1) P ((Z0 K N T noB).2 tip) ka;have ag:=Jy P K ((Z0 K N T noB).2 tip) M hK (h:=Yh N T tip+1) (by rw[e2];exact Q);rw[e1,e2] at ag;rw[ag];simp
 unfold opE;rw[if_neg (by rw[(Bk.right_iff _).2 Q];decide),o2];simp only[ne_eq,not_true_eq_false,if_false,cb,o3];exact ak
theorem Hu{W:WD}(h1:1<=W.n.length)(h2:W.n.length<=4)(h3:Bk.bkChk W.k=0)(h4:W.m.length<=20)(h5:∀ y∈W.n,opN W.k y=0)(h6:∀ m∈W.m,Ry m W.n.length=0):Xp W.k W.n W.m=0:=by
 have n0:∀ L,(∀ y∈L,opN W.k y=0)->Ve W.k L=0:=by
  intro L
  induction L with
  | nil=>intro _;rfl
  | cons x L ih=>
   intro h;rw[Ve,if_neg (λq=>q (h x (by simp)))];exact ih (λy z=>h y (by simp[z]))
 have m0:∀ L,(∀ m∈L,Ry m W.n.length=0)->Qr W.n.length L=0:=by
  intro L
  induction L with
  | nil=>intro _;rfl
  | cons x L ih=>
   intro h;rw[Qr,if_neg (λq=>q (h x (by simp)))];exact ih (λy z=>h y (by simp[z]))
 unfold Xp;rw[if_neg (λq=>q ⟨h1,h2⟩),if_neg (λq=>q h3),if_neg (by omega),if_neg (λq=>q (n0 _ h5))];exact m0 _ h6
theorem Lj{W:WD}{k:Nat}{m:Jt}(h:m∈(W.lost k).m):m∈W.m:=by
 rcases List.mem_append.1 h with h|h
 ·exact List.mem_of_mem_take h
 ·exact List.mem_of_mem_drop h
theorem Eo{W:WD}(h:Xp W.k W.n W.m=0)(k:Nat):Xp (W.lost k).k (W.lost k).n (W.lost k).m=0:=by
 obtain⟨Q,q2,q3,_,q5,q6,q7⟩:=Ye h;refine Hu (W:=W.lost k) Q q2 q3 ?_ q6 (λm z=>q7 m (Lj z));show (W.m.take k++W.m.drop (k+1)).length<=20;simp;omega
open Go.RowKit
theorem Zgf(ka kn kc na ba pa nn nc bn bc pn pc K N T)(P:List TxD)(tip:Int)(th:Int)(ai ao ni ci no co I O)(mb:Nat)(x:Int)(D:Dsk)(w:World)(hE:Env w)(hK:Bk.TextsAt w ka kn K)(hN:Tr.IntsAt w na nn N)(hT:Tr.BlksAt w ba bn T)(hP:TxsAt w pa pn P)(sN:SlOk na nn nc)(sT:SlOk ba bn bc)(sP:SlOk pa pn pc)(hp:P.length<=2513169434916)(hq:∀ t∈P,Tr.TxSmall t)
  (hm:w.heap[mb]? = some (cZ [E J th,F ai ni ci,F ao no co].toArray 59 (0,0))) (hI:InsAt w ai ni I) (hO:OutsAt w ao no O) (sI:SlOk ai ni ci) (sO:SlOk ao no co) (hx:noR K N T P tip (th,I,O)=(x,D)) :
  Calls aB 300 #[.agg #[F ka kn kc],.agg #[F na nn nc,F ba bn bc,F pa pn pc,E J tip],dC (some ⟨mb,0,none⟩)] w λe w'=>Ph w w' x D e/\ZD w w':=by
 obtain⟨X,Q⟩:=ZG (Yw w [cZ #[F ka kn kc] 24,cZ #[F na nn nc,F ba bn bc,F pa pn pc,E J tip] 67,cZ #[F none 0 0] 24,cZ #[F none 0 0,F none 0 0,F none 0 0,E J 0] 67]);have av:X=(((w.alloc (cZ #[F ka kn kc] 24)).alloc (cZ #[F na nn nc,F ba bn bc,F pa pn pc,E J tip] 67)).alloc (cZ #[F none 0 0] 24)).alloc (cZ #[F none 0 0,F none 0 0,F none 0 0,E J 0] 67):=Q;have z:ZD w X:=by rw[Q];exact Zs _ _
 have aw:X.heap.size=w.heap.size+4:=by rw[Q];exact Z3 _ _
 have bk:=kl0 Q _ _ rfl;have bo:=kl Q 1 _ _ rfl;have bq:X.heap[w.heap.size+1+1]? = some (cZ [F none 0 0].toArray 24 (0,0)):=by rw[Q];exact Zk _ w 2 _ rfl
 have br:X.heap[w.heap.size+1+1+1]? = some (cZ [F none 0 0,F none 0 0,F none 0 0,E J 0].toArray 67 (0,0)):=by rw[Q];exact Zk _ w 3 _ rfl
 have C1:=Zd (Zgm ka kn kc K na ba pa nn nc bn bc pn pc N T P tip X (hE.later z) (hK.later z) (hN.later z) (hT.later z) (hP.later z) sN sT sP (by rw[<-hP.1];exact hp) hq th ai ao ni ci no co I O (hI.later z) (hO.later z) sI sO x D hx);have az:=ZE z hm;obtain⟨am,aq,an,ap⟩:=kh4 z aw bq br;obtain⟨t0,tl⟩:=cl1 (Zd bk);obtain⟨t1,t2,t3,t4,cd⟩:=cl4 (Zd bo);obtain⟨m0,m1,m2,ml⟩:=kc3 az;clear hE hK hN hT hP sN sT sP hp hq hm hI hO sI sO hx z aw bk bo bq br Q az;go_enter func300,ntmps300
 go_upto_region 1 with fail
 rw[<-av];clear av;(try go_wp2_with fail);refine C1.mono ?_;rintro e w1 ⟨⟨k1,af,ae,n1,ah,ag,b1,ac,ab,p1,al,ak,rfl,hF,s1,s2,s3,s4⟩,aa⟩;have h2:=ZE aa an;have h3:=ZE aa ap
 have bs:Hid (∀ W,Gr w1 W (λq=>q=w.heap.size+1+1\/q=w.heap.size+1+1+1)->Ph w W x D (dA (dB #[.agg #[F k1 af ae],.agg #[F n1 ah ag,F b1 ac ab,F p1 al ak,E J D.tip],E J x]))/\ZD w W):=λW g=>by
  have cl:=Za aq;have ax:=Zf am aa;exact⟨⟨k1,af,ae,n1,ah,ag,b1,ac,ab,p1,al,ak,rfl,λW2 g2=>hF W2 ((g.mono (λq _ e=>by omega)).trans (g2.mono (λq _ e=>by omega))),s1,s2,s3,s4⟩,g.below ax ax.size (λq e=>by omega)⟩
 obtain⟨cm,cp⟩:=cl1 (Zd h2);have cn:=Zg h2 0;obtain⟨cq,ct,cu,cw,cx⟩:=cl4 (Zd h3);have ce:=Zg h3 0;have cf:=Zg h3 1;have cg:=Zg h3 2;have cj:=Zg h3 3;clear h2 h3 hF s1 s2 s3 s4 aa C1 t0 t1 t2 t3 t4 tl cd m0 m1 m2 ml an ap aq am;go_wp2;(try simp only[Exit.inBlock,Exit.then]);refine bodyPost_ret (v:=dB #[.agg #[F k1 af ae],.agg #[F n1 ah ag,F b1 ac ab,F p1 al ak,E J D.tip],E J x]) ?_ rfl ?_
 ·rw[Wa rfl];go_simp
 ·exact bs _ (((Gr.refl w1 (λq=>q=w.heap.size+1+1\/q=w.heap.size+1+1+1)).one (w.heap.size+1+1) 0 (.inl (.inl rfl)) _).four (w.heap.size+1+1+1) (.inl (.inr rfl)) _ _ _ _)
def WD.offer(W:WD)(i:Nat)(t:TxD):Int×WD:=
 if h:i<W.n.length then
  let y:=W.n[i]
  let r:=noR W.k y.1 y.2.1 y.2.2.1 y.2.2.2 t
  (r.1,if r.1=0 then W.put i r.2 else W)
 else (0,W)
theorem Bp(Z:Nat->Prop)(s:Nat)(W:WD)(i:Nat)(th:Int)(ai ao ni ci no co I O)(x:Int)(W':WD)(w)(hE:Env w)(hS:Sc Z s W w)(hi:i<W.n.length)(aa:Js W.n[i])(hI:InsAt w ai ni I)(hO:OutsAt w ao no O)(sI:SlOk ai ni ci)(sO:SlOk ao no co)(hx:W.offer i (th,I,O)=(x,W')) :
  Calls aB 269 #[dC (some ⟨s,0,none⟩),E J i,.agg #[E J th,F ai ni ci,F ao no co]] w λe w'=>e = dA (E J x)/\Sc Z s W' w'/\Gr w w' (λq=>¬Z q):=by
 obtain⟨X,hX,z,al⟩:=ka00 w [E J th,F ai ni ci,F ao no co] 59;obtain⟨y,hy⟩:=ZF (W.n[i]);obtain⟨⟨x1,D⟩,Q⟩:=ZF (noR W.k y.1 y.2.1 y.2.2.1 y.2.2.2 (th,I,O))
 have eT:(x,W')=(x1,if x1=0 then W.put i D else W):=by
  rw[<-hx];unfold WD.offer;rw[dif_pos hi];simp only[hy,Q]
 injection eT with e1 e2;subst e1;have HW:=Zd e2
 have DO:DoN w X 300 #[dC (some ⟨w.heap.size,0,none⟩)] W.k W.n[i] x D (λ_ _ _=>True):=by
  refine⟨enters_of (fn:=Tryz.f300) (by kernel_rfl) (by kernel_rfl) rfl,λlo bf V V' h g=>trivial,λV hv ka kn kc na nn nc ba bn bc pa pn pc h1 h2 h3 h4 h5 h6 h7 h8=>?_⟩;have hw:=Zf z hv;have bd:=ZE hv al;refine (Zgf ka kn kc na ba pa nn nc bn bc pn pc W.k _ _ _ _ th ai ao ni ci no co I O w.heap.size x D V (hE.later hw) h1 h3 h4 h5 h6 h7 h8 aa.1 aa.2 bd (hI.later hw) (hO.later hw) sI sO (by rw[hy];exact Q)).mono ?_;rintro e V' ⟨hc,hb⟩;exact⟨hc,Gr.of hb,trivial⟩
 have C1:=Zd (Tn Z s W i 300 #[dC (some ⟨w.heap.size,0,none⟩)] x D _ w X hS z hi DO);clear hE hS aa hI hO sI sO z al Q hy DO hx e2;go_enter func269,ntmps269
 go_upto_region 1 with fail
 rw[<-hX];clear hX;(try go_wp2_with fail);refine C1.mono ?_;rintro e w1 ⟨rfl,aj,am,_,_⟩;have au:Hid (Sc Z s W' w1):=by rw[Za HW];exact aj
 have av:=Zd am;clear am C1 aj;go_wp2;go_ret;exact⟨rfl,Za au,Za av⟩
def WD.submit(W:WD)(i:Nat)(t:TxD):Int×WD:=
 ((W.offer i t).1,(W.offer i t).2.sendAll 3 i 0 Ym t (W.offer i t).2.n.length)
theorem Zge(W:WD)(i:Nat)(t):(W.offer i t).2.n.length=W.n.length:=by
 unfold WD.offer;split
 ·dsimp only;split
  ·show (W.n.set i _).length=_;rw[List.length_set]
  ·rfl
 ·rfl
theorem Zff(Z:Nat->Prop)(s:Nat)(W:WD)(xk:Int)(xn:Nat)(xt xi xw xN:Int)(th:Int)(ai ao ni ci no co I O)(x:Int)(W':WD)(w)(hE:Env w)(hS:Sc Z s W w)(hi:xn<W.n.length)(ax:W.n.length<=4)(ay:Js W.n[xn])(hT:∀ V,Gr w V (λq=>¬Z q)->InsAt V ai ni I/\OutsAt V ao no O)(sI:SlOk ai ni ci)(sO:SlOk ao no co)(hz:Tr.TxSmall (th,I,O))(hx:W.submit xn (th,I,O)=(x,W')) :
  Calls aB 236 #[dC (some ⟨s,0,none⟩),.agg #[E J xk,E J xn,E J xt,E J xi,E J xw,E J xN,E J th,F ai ni ci,F ao no co]] w λe w'=>e = dA (E J x)/\(x=0->Sc Z s W' w')/\Gr w w' (λq=>¬Z q):=by
 obtain⟨X,hX,ae,ad⟩:=ka00 w [E J xk,E J xn,E J xt,E J xi,E J xw,E J xN,E J th,F ai ni ci,F ao no co] 103;have Q:=Zge W xn (th,I,O);obtain⟨⟨x1,z⟩,hr⟩:=ZF (W.offer xn (th,I,O));unfold WD.submit at hx;rw[hr] at hx Q;injection hx with e1 e2;have e1:x1=x:=e1;have e2:z.sendAll 3 xn 0 Ym (th,I,O) z.n.length=W':=e2;have Q:z.n.length=W.n.length:=Q;subst e1 e2;have af:Gr w X (λq=>¬Z q):=Gr.of ae;obtain⟨C1,HT,HZ,bi⟩:=kh4 (Bp (λq=>Z q\/q=w.heap.size) s W xn th ai ao ni ci no co I O x1 z X (hE.later ae) (hS.widen ae w.heap.size (aF _) (aA ad)) hi ay (hT X af).1 (hT X af).2 sI sO hr) hT hz Q;have bh:Hid (z.n.length<=4):=by rw[Q];exact ax
 obtain⟨bg,bq⟩:=kh2 af ad;obtain⟨-,m1,-,-,-,-,m6,m7,m8,ml⟩:=kc9 ad;clear hE hS ay hT hz ae ad hr Q af ax;go_enter func236,ntmps236
 go_upto_region 1 with fail
 rw[<-hX];clear hX;(try go_wp2_with fail);refine C1.mono ?_;rintro e w1 ⟨rfl,aa,aj⟩;have ap:Hid (Gr w w1 (λq=>¬Z q)):=bg.trans (aj.mono (λq _ e h=>e (.inl h)));have h1:=aj.heap bq (λe=>e (.inr rfl));clear aj C1 m1 m6 m7 m8 ml;by_cases h0:x1=0;rotate_left
 ·have gx:(x1 == 0)=false:=by simp[h0]
  have gy:(x1 != 0)=true:=by simp[h0]
  clear aa h1;go_wp2;go_ret;exact⟨rfl,λe=>absurd e h0,Za ap⟩
 subst h0;have HN:=Zd (λq (hq:Xt w1 s q) (h:Z q)=>(aa.net_lt hq).1 (.inl h));have bk:=Zd (λh:Z s=>aa.nz (.inl h))
 have aq:Hid (∀ V,Gr w1 V (λq=>q=s\/Xt w1 s q)->Gr w V (λq=>¬Z q)):=λV g=>ap.trans (g.mono (λq _ e=>by
  rcases e with e|e
  ·rw[e];exact Za bk
  ·exact HN q e))
 have C2:=Zd (R4 (λq=>Z q\/q=w.heap.size) s z 3 xn 0 0 0 0 0 0 none 0 0 [] th ai ao ni ci no co I O w1 aa bh (λV g=>⟨RowsAt.nil _ _,HT V (aq V g)⟩) Zq sI sO ⟨⟨aL _,by simp⟩,Za HZ⟩);obtain⟨-,m1,-,-,-,-,m6,m7,m8,ml⟩:=kc9 h1;clear aa h1;go_wp2_with fail;refine C2.mono ?_;rintro e w2 ⟨rfl,au,aw⟩;have an:Hid (Sc Z s (z.sendAll 3 xn 0 Ym (th,I,O) W.n.length) w2):=by rw[<-Za bi];exact au.less (λq e=>.inl e)
 have bf:=Zd (aq w2 aw);clear au aw C2 m1 m6 m7 m8 ml;go_wp2;go_ret;exact⟨rfl,by first|exact λ_=>Za an|exact Za an,Za bf⟩
def WD.forget(W:WD)(i:Nat):WD:=if h:i<W.n.length then ⟨W.k,W.n.set i (W.n[i].1,W.n[i].2.1,[],W.n[i].2.2.2),W.m⟩ else W
theorem Zfm{Z:Nat->Prop}{s}{W:WD}{wx:World}{ka}{kn kc g cap i:Nat}{vm}{Kn Km:List (List Value)}{N T P}{tip:Int}{na ba pa nn nc bn bc pn pc}(h:ScAt Z s W wx ka kn kc (F (some ⟨g,0,none⟩) W.n.length cap) vm Kn Km)(hi:i<W.n.length)(hk:i<Kn.length)(hy:W.n[i]=(N,T,P,tip))(eK:Kn[i]=[F na nn nc,F ba bn bc,F pa pn pc,E J tip]) :
  Sc Z s (W.forget i) (wx.setCell ⟨g,i*4+2,none⟩ (F none 0 0))/\Gr wx (wx.setCell ⟨g,i*4+2,none⟩ (F none 0 0)) (λq=>q=g):=by
 have hb:=h.box;have ak:g≠s:=Xx h.on.rn hb (by decide) g rfl;have z:Gr wx (wx.setCell ⟨g,i*4+2,none⟩ (F none 0 0)) (λq=>q=g):=(Gr.refl wx (λq=>q=g)).one g (i*4+2) (.inl rfl) _
 have eW:W.forget i=⟨W.k,W.n.set i (N,T,[],tip),W.m⟩:=by
  unfold WD.forget;rw[dif_pos hi];simp only[hy]
 rw[eW];refine⟨⟨ka,kn,kc,F (some ⟨g,0,none⟩) W.n.length cap,vm,Kn.set i [F na nn nc,F ba bn bc,F none 0 0,E J tip],Km,z.heap hb (λe=>ak (Eq.symm e)),λq e=>⟨aD (h.zs q e).1 z.size,(h.zs q e).2⟩,?_,?_,λV gV=>?_,h.on.sk⟩,z⟩
 ·show World.ownsRow _ _ _ _ _ (W.n.set i _).length _;rw[List.length_set];have q:=Tr.setsW_own [F none 0 0] wx (i*4+2) _ h.on.rn;rw[Tr.setsL_rec [F none 0 0] Kn (sz:=4) h.on.now.2.1.wid i hk 2 (by decide),eK] at q;exact q
 ·exact z.own h.on.rm (λq hq e=>Tr.own_apart h.on.rn h.on.rm (by decide) q (by have e:q=g:=e;rw[e];rfl) hq)
 ·obtain⟨d1,Q,d3⟩:=h.on.dat V ((z.mono (λq _ e=>.inr (.inl (by have e:q=g:=e;rw[e];rfl)))).trans gV);have c:=Q.2 i hi hk;rw[hy,eK] at c;obtain⟨na',nn',nc',ba',bn',bc',pa',pn',pc',ab,hN,hT,_,sN,sT,_⟩:=c;simp only[List.cons.injEq,Value.slice.injEq,and_true] at ab;obtain⟨⟨rfl,rfl,rfl⟩,⟨rfl,rfl,rfl⟩,_⟩:=ab;exact⟨d1,E5 Q ⟨_,_,_,_,_,_,none,0,0,rfl,hN,hT,RowsAt.nil _ _,sN,sT,Zq⟩,d3⟩
theorem Zhm(Z:Nat->Prop)(s:Nat)(W:WD)(xk:Int)(xn:Nat)(xt xi xw xN th:Int)(ai ao ni ci no co w)(hS:Sc Z s W w)(hi:xn<W.n.length) :
  Calls aB 244 #[dC (some ⟨s,0,none⟩),.agg #[E J xk,E J xn,E J xt,E J xi,E J xw,E J xN,E J th,F ai ni ci,F ao no co]] w λe w'=>e = dA (E J 0)/\Sc Z s (W.forget xn) w'/\Gr w w' (λq=>¬Z q):=by
 obtain⟨ka,kn,kc,vn,vm,Kn,Km,Q⟩:=hS;have z:=Q.on;obtain⟨ga,gc,ma,mc,rfl,rfl,_⟩:=z.read;have hb:=Q.box
 obtain⟨g,rfl⟩:∃ g,ga=some ⟨g,0,none⟩:=by
  rcases z.rn.2 with ⟨_,e⟩|⟨g,cap,ax,e,_⟩
  ·omega
  ·injection e with e;exact⟨g,e⟩
 have hk:xn<Kn.length:=by rw[z.now.2.1.1];exact hi
 obtain⟨⟨N,T,P,tip⟩,hy⟩:=ZF (W.n[xn])
 have hC:Tr.nodR.C w Kn[xn] (N,T,P,tip):=by
  have:=z.now.2.1.2 xn hi hk;rw[hy] at this;exact this
 obtain⟨na,nn,nc,ba,bn,bc,pa,pn,pc,eK,_⟩:=hC;simp only at eK;obtain⟨X,hX,ac,ag⟩:=ka00 w [E J xk,E J xn,E J xt,E J xi,E J xw,E J xN,E J th,F ai ni ci,F ao no co] 103;have aj:=ZE ac hb;have aa:=Q.later ac
 have r2:X.cell? ⟨g,xn*4+2,none⟩=some (F pa pn pc):=by
  have:=(World.ownsRow.cellAt aa.on.rn (xn*4+2) (by have:(xn+1)*4<=W.n.length*4:=Nat.mul_le_mul_right _ hi;omega)).trans (Tr.wid_at z.now.2.1.wid xn hk 2 (by decide));rw[eK] at this;exact this
 have bb:g<X.heap.size:=(aa.on.rn.lt g rfl).2;have ak:¬Z g:=λe=>(Q.zs g e).2.2.1 rfl
 have an:Hid (∀ U,Below (X.setCell ⟨g,xn*4+2,none⟩ (F none 0 0)).heap.size (X.setCell ⟨g,xn*4+2,none⟩ (F none 0 0)) U->Sc Z s (W.forget xn) U/\Gr w U (λq=>¬Z q)):=λU hu=>by
  obtain⟨q1,q2⟩:=Zfm aa hi hk hy eK;exact⟨q1.later hu,((Gr.of ac).trans (q2.mono (λq _ e=>by have e:q=g:=e;rw[e];exact ak))).trans (Gr.of hu)⟩
 have f2:=aa.on.rn.frozenAt (xn*4+2);have bd:(xn:Int)<(W.n.length:Int):=by omega
 obtain⟨-,c1,cl⟩:=kc2 aj;obtain⟨-,m1,ml⟩:=kc2 ag;clear Q z hb eK ac ag aj hy aa ak;go_enter func244,ntmps244
 go_upto_region 1 with fail
 rw[<-hX];clear hX
 go_region
 all_goals
  go_wp2;go_ret;exact⟨rfl,an _ (by first|exact Zi _|exact Below.refl _ _)⟩
def WD.fetch(W:WD)(i z nm:Int):Int×WD:=if nmE nm=0 then (0,W.sent (2,i,z,nm,Ym,Yz)) else (nmE nm,W)
theorem Zlo(Z:Nat->Prop)(s:Nat)(W:WD)(xk xn xt xi xw xN th:Int)(ai ao ni ci no co)(x:Int)(W':WD)(w)(hS:Sc Z s W w)(hx:W.fetch xn xt xi=(x,W')) :
  Calls aB 245 #[dC (some ⟨s,0,none⟩),.agg #[E J xk,E J xn,E J xt,E J xi,E J xw,E J xN,E J th,F ai ni ci,F ao no co]] w λe w'=>e = dA (E J x)/\(x=0->Sc Z s W' w')/\Gr w w' (λq=>¬Z q):=by
 obtain⟨X,hX,ad,ac⟩:=ka00 w [E J xk,E J xn,E J xt,E J xi,E J xw,E J xN,E J th,F ai ni ci,F ao no co] 103;obtain⟨x1,h1⟩:∃ x,nmE xi=x:=⟨_,rfl⟩;unfold WD.fetch at hx;rw[h1] at hx;obtain⟨C1,HX,HS,au,az⟩:=kh5 (Pd xi x1 X h1) hx (hS.later ad) ad ac;obtain⟨-,-,-,m3,ml⟩:=kc4 ac;clear hS ad ac hx h1;go_enter func245,ntmps245
 go_upto_region 1 with fail
 rw[<-hX];clear hX;(try go_wp2_with fail);refine C1.mono ?_;rintro e w1 ⟨rfl,Q⟩;have aj:Hid (Gr w w1 (λq=>¬Z q)):=Gr.of (Zf au Q);have h1:=ZE Q az;have z:=HS.later Q;clear Q C1 m3 ml;by_cases h0:x1=0;rotate_left
 ·have e:=Za HX;rw[if_neg h0] at e;injection e with e1 e2;subst e1;have gx:(x1 == 0)=false:=by simp[h0]
  have gy:(x1 != 0)=true:=by simp[h0]
  clear z h1;go_wp2;go_ret;exact⟨rfl,λe=>absurd e h0,Za aj⟩
 subst h0;have e:=Za HX;rw[if_pos rfl] at e;injection e with e1 e2;subst e1 e2;have HN:=Zd (λq (hq:Xt w1 s q)=>(z.net_lt hq).1);obtain⟨ax,C2⟩:=kh2 z.nz (Rm Z s W 2 xn xt xi 0 0 0 0 none 0 0 [] 0 none none 0 0 0 0 [] [] w1 z (RowsAt.nil _ _) Zq (RowsAt.nil _ _) (RowsAt.nil _ _) Zq Zq ⟨⟨aL _,by simp⟩,aL _,aL _,by simp,by simp⟩);obtain⟨-,m1,m2,m3,ml⟩:=kc4 h1;clear z h1;go_wp2_with fail;refine C2.mono ?_;rintro e w2 ⟨rfl,an,aq,_⟩;have ah:Hid (Sc Z s (W.sent (2,xn,xt,xi,Ym,Yz)) w2):=an
 have av:Hid (Gr w w2 (λq=>¬Z q)):=aj.trans (aq.mono (λq _ e=>by
  rcases e with e|e
  ·rw[e];exact Za ax
  ·exact HN q e))
 clear an aq C2 m1 m2 m3 ml;go_wp2;go_ret;exact⟨rfl,by first|exact λ_=>Za ah|exact Za ah,Za av⟩
def WD.share(W:WD)(i:Nat)(q:Int):Int×WD:=
 if h:i<W.n.length then
  let r:=Tr.blockE W.n[i].1 W.n[i].2.1 W.n[i].2.2.2
  if r.2=0 then (0,W.sent (1,i,q,0,r.1,Yz)) else (r.2,W)
 else (0,W)
theorem Zji(Z:Nat->Prop)(s:Nat)(W:WD)(xk:Int)(xn:Nat)(xt xi xw xN th:Int)(ai ao ni ci no co)(x:Int)(W':WD)(w)(hS:Sc Z s W w)(hi:xn<W.n.length)(aa:Tr.BlkSmall (Tr.blockE W.n[xn].1 W.n[xn].2.1 W.n[xn].2.2.2).1)(hx:W.share xn xt=(x,W')) :
  Calls aB 243 #[dC (some ⟨s,0,none⟩),.agg #[E J xk,E J xn,E J xt,E J xi,E J xw,E J xN,E J th,F ai ni ci,F ao no co]] w λe w'=>e = dA (E J x)/\(x=0->Sc Z s W' w')/\Gr w w' (λq=>¬Z q):=by
 obtain⟨ka,kn,kc,vn,vm,Kn,Km,hA⟩:=hS;have z:=hA.on;obtain⟨ga,gc,ma,mc,rfl,rfl,_,_,sg,_⟩:=z.read;have hb:=hA.box
 obtain⟨g,rfl⟩:∃ g,ga=some ⟨g,0,none⟩:=by
  rcases z.rn.2 with ⟨_,e⟩|⟨g,cap,du,e,_⟩
  ·omega
  ·injection e with e;exact⟨g,e⟩
 have dy:=(z.rn.lt g rfl).2;have hk:xn<Kn.length:=by rw[z.now.2.1.1];exact hi
 obtain⟨y,hy⟩:=ZF (W.n[xn])
 have hC:Tr.nodR.C w Kn[xn] y:=by
  have:=z.now.2.1.2 xn hi hk;rw[hy] at this;exact this
 unfold WD.share at hx;rw[dif_pos hi] at hx;rw[hy] at aa;simp only[hy] at hx;obtain⟨z0,z1,z2,Q⟩:=y;obtain⟨na,nn,nc,ba,bn,bc,pa,pn,pc,eK,hN,hT,hP,sN,sT,sP⟩:=hC;simp only at eK hN hT hP hx aa;obtain⟨⟨b,x1⟩,hr⟩:=ZF (Tr.blockE z0 z1 Q);rw[hr] at hx aa;simp only at hx aa;obtain⟨X,hX,ae,ap⟩:=ka00 w [E J xk,E J xn,E J xt,E J xi,E J xw,E J xN,E J th,F ai ni ci,F ao no co] 103;have bu:X.heap.size=w.heap.size+1:=by rw[hX];simp
 have bz:=ZE ae hb;have rc:=λj (hj:j<4)=>(World.ownsRow.cellAt (z.later ae).rn (xn*4+j) (by have:(xn+1)*4<=W.n.length*4:=Nat.mul_le_mul_right _ hi;omega)).trans (Tr.wid_at z.now.2.1.wid xn hk j hj);rw[eK] at rc;have r0:X.cell? ⟨g,xn*4,none⟩=some (F na nn nc):=rc 0 (by decide);have r1:X.cell? ⟨g,xn*4+1,none⟩=some (F ba bn bc):=rc 1 (by decide);have r2:X.cell? ⟨g,xn*4+2,none⟩=some (F pa pn pc):=rc 2 (by decide);have r3:X.cell? ⟨g,xn*4+3,none⟩=some (E J Q):=rc 3 (by decide);have dz:(xn:Int)<(W.n.length:Int):=by omega
 have ea:=aA hb;have CB:=Zd (λV (hv:ZD w V)=>Tr.block_is na ba nn nc bn bc z0 z1 Q b x1 V (hN.later hv) (hT.later hv) sN sT hr);have HS:=Zd (λV (hv:ZD w V)=>(⟨_,_,_,_,_,_,_,hA.later hv⟩:Sc Z s W V));obtain⟨cn,HX,be,bk,bq⟩:=kh5 aa hx ae ap bu;obtain⟨-,c1,cl⟩:=kc2 bz;obtain⟨-,m1,ml⟩:=kc2 ap;have df:g<X.heap.size:=by omega
 clear hA z hb eK hN hT hP sN sT sP ae bu ap bz rc hx hy hr aa;go_enter func243,ntmps243
 go_upto_region 1 with fail
 rw[<-hX];clear hX
 go_cut [5] from 8 to 16 (λs5 wx=>s5 = dC (some ⟨w.heap.size+1,0,none⟩)/\Hid (wx.heap[w.heap.size+1]? = some (cZ [F na nn nc,F ba bn bc,F pa pn pc,E J Q].toArray 67 (0,0))/\ZD X wx))
 case first=>
  have dh:=Za bq
  have ZB:Hid ((X.alloc (cZ #[F na nn nc,F ba bn bc,F pa pn pc,E J Q] 67)).heap[w.heap.size+1]? = some (cZ [F na nn nc,F ba bn bc,F pa pn pc,E J Q].toArray 67 (0,0))/\ZD X (X.alloc (cZ #[F na nn nc,F ba bn bc,F pa pn pc,E J Q] 67))):=by
   show _/\_;rw[<-dh];exact⟨heap_alloc_new _ _,Zh _ _⟩
  go_region
  all_goals
   go_wp2_with fail;go_meet
   case rel=>exact⟨rfl,ZB.1,Zf ZB.2 (Zi _)⟩
 case rest=>
  obtain⟨rfl,HC⟩:=hcut;obtain⟨cc,au⟩:=Za HC;have af:=Zf be au;obtain⟨bo,C1⟩:=kh2 (ZE au bk) (CB wc af);have bi:Hid (Sc Z s W wc):=HS wc af;have bd:=Zd af;obtain⟨t0,t1,t2,t3,tl⟩:=cl4 (Zd cc);clear HC cc au af CB HS c1 cl m1 ml df bk be r0 r1 r2 r3 bq;go_wp2_with fail;refine C1.mono ?_;rintro e w1 ⟨ta,tn,tc,rfl,hL,sL,bx⟩;obtain⟨Y,hY,ar,y0⟩:=ka00 w1 [E J b.1,E J b.2.1,E J b.2.2.1,E J b.2.2.2.1,F ta tn tc] 39;have ad:=Zf bx ar;have bg:Hid (Gr w Y (λq=>¬Z q)):=Gr.of (Zf bd ad);have h1:=ZE ad bo;have ab:=Sc.later bi ad;have am:=hL.later ar;clear hL bx ad ar C1 bi bo bd t0 t1 t2 t3 tl
  go_upto_region 3 with fail
  rw[<-hY];clear hY;by_cases h0:x1=0;rotate_left
  ·have e:=Za HX;rw[if_neg h0] at e;injection e with e1 e2;subst e1;have gx:(x1 == 0)=false:=(by simp[h0]);have gy:(x1 != 0)=true:=(by simp[h0]);clear ab h1 am y0;go_wp2;go_ret;exact⟨rfl,λe=>absurd e h0,Za bg⟩
  subst h0;have e:=Za HX;rw[if_pos rfl] at e;injection e with e1 e2;subst e1 e2;have HN:=Zd (λq (hq:Xt Y s q)=>(ab.net_lt hq).1);obtain⟨ct,C2⟩:=kh2 ab.nz (Rm Z s W 1 xn xt 0 b.1 b.2.1 b.2.2.1 b.2.2.2.1 ta tn tc b.2.2.2.2 0 none none 0 0 0 0 [] [] Y ab am sL (RowsAt.nil _ _) (RowsAt.nil _ _) Zq Zq ⟨Za cn,aL _,aL _,by simp,by simp⟩);obtain⟨-,m1,m2,ml⟩:=kc3 h1;obtain⟨d0,d1,d2,d3,d4,dl⟩:=cl5 (Zd y0);clear ab h1 am y0 sL;go_wp2_with fail;refine C2.mono ?_;rintro e w2 ⟨rfl,bt,ca,_⟩;have bb:Hid (Sc Z s (W.sent (1,xn,xt,0,b,Yz)) w2):=bt
  have cp:Hid (Gr w w2 (λq=>¬Z q)):=bg.trans (ca.mono (λq _ e=>by
   rcases e with e|e
   ·rw[e];exact Za ct
   ·exact HN q e))
  clear bt ca C2 m1 m2 ml d0 d1 d2 d3 d4 dl;go_wp2;go_ret;exact⟨rfl,by first|exact λ_=>Za bb|exact Za bb,Za cp⟩
theorem Rz(Z:Nat->Prop)(s:Nat)(W:WD)(xk xn xt xi xw xN th:Int)(ai ao ni ci no co)(b1 b2 n:Nat)(bd caps)(x:Int)(W':WD)(o:Bool)(w:World)(h1:w.heap[b1]? = some (cZ [dC (some ⟨s,0,none⟩)].toArray 204 (0,0)))(h2:w.heap[b2]? = some (cZ [.func (.func n) bd caps].toArray 292 (0,0)))(hS:Sc Z s W w)(ho:Xu xt W.n.length=o)(hd:o=true->xt≠xn->Zpu Z s (.agg #[E J xk,E J xn,E J xt,E J xi,E J xw,E J xN,E J th,F ai ni ci,F ao no co]) x W' w n bd caps)(y:Int)(Q:(if o=true then (if xt=xn then 6 else x) else 5)=y) :
  Calls aB 276 #[.agg #[E J xk,E J xn,E J xt,E J xi,E J xw,E J xN,E J th,F ai ni ci,F ao no co],dC (some ⟨b1,0,none⟩),dC (some ⟨b2,0,none⟩)] w λe w'=>e = dA (E J y)/\(y=0->Sc Z s W' w')/\Gr w w' (λq=>¬Z q):=by
 obtain⟨X,hX,ab,ag⟩:=ka00 w [E J xk,E J xn,E J xt,E J xi,E J xw,E J xN,E J th,F ai ni ci,F ao no co] 103;have k1:=ZE ab h1;have k2:=ZE ab h2;obtain⟨ln,ah⟩:∃ n,W.n.length=n:=⟨_,rfl⟩
 obtain⟨a,c,hc⟩:∃ a c,X.cell? ⟨s,1,none⟩=some (F a ln c):=by
  obtain⟨ka,kn,kc,vn,vm,Kn,Km,hA⟩:=hS.later ab;obtain⟨na,nc,ma,mc,rfl,rfl,_⟩:=hA.on.read;exact⟨_,_,by rw[<-ah];exact Zb hA.box 1 _ rfl⟩
 rw[ah] at ho;have bs:s<X.heap.size:=aD hS.lt ab.size;obtain⟨C1,aa,ae,az,HD⟩:=kh5 (Uy xt ln o X.drew ho) ab ag k2 hd;obtain⟨c1,l1⟩:X.cell? ⟨b1,0,none⟩=some (dC (some ⟨s,0,none⟩))/\b1<X.heap.size:=⟨Zb k1 0 _ rfl,aA k1⟩;obtain⟨-,-,m2,ml⟩:=kc3 ag;clear h1 h2 hS ho hd ab ag k1 k2 ah;go_enter func276,ntmps276
 go_upto_region 1 with fail
 rw[<-hX];clear hX
 go_region_law (first
  | (refine Yo (by rfl) 175 #[E J xt,E J ln] (by kernel_rfl) C1 ?_;rintro e w4 ⟨rfl,rfl⟩;refine⟨_,rfl,?_⟩))
 all_goals
  cases o
  ·obtain rfl:(5:Int)=y:=Q;clear HD C1;go_wp2;go_ret
   first|exact⟨rfl,λe=>absurd e (by decide),Gr.of (Zf aa (Zi X))⟩|exact⟨rfl,Gr.of (Zf aa (Zi X))⟩
  ·have Q:(if xt=xn then 6 else x)=y:=Q;by_cases z:xt=xn
   ·rw[if_pos z] at Q;subst Q;have gt:(xt == xn)=true:=(by simp[z]);have m1:=Zb ae 1 _ rfl;clear HD C1 z;go_wp2;go_ret
    first|exact⟨rfl,λe=>absurd e (by decide),Gr.of (Zf aa (Zi X))⟩|exact⟨rfl,Gr.of (Zf aa (Zi X))⟩
   rw[if_neg z] at Q;subst Q;have gt:(xt == xn)=false:=(by simp[z]);obtain⟨eg,av⟩:=HD rfl z;have C2:=Zd (av X.drew (Zf aa (Zi X)));have k2:=Za az;obtain⟨d0,dl⟩:=kc1 k2;obtain⟨g0,g1,g2,g3,g4,g5,g6,g7,g8,-⟩:=kc9 ae;clear HD C1 av k2 m2 z;have m2:=Zb ae 2 _ rfl;go_wp2_with fail;refine C2.mono ?_;rintro e w5 ⟨rfl,ar,ax⟩;have bb:=Zd ar;have ay:Hid (Gr w w5 (λq=>¬Z q)):=(Gr.of (Zf aa (Zi X))).trans ax;clear ar ax C2;go_wp2;go_ret;exact⟨rfl,Za bb,Za ay⟩
section
variable {W : WD} {xt xw xN th : Int} {ai ao : Option Addr} {ni ci no co : Nat}
theorem Cn{P:World->Prop}{xi:Int}{i:Nat}(hi:i<W.n.length):HapP P (.agg #[E J 7,E J i,E J xt,E J xi,E J xw,E J xN,E J th,F ai ni ci,F ao no co]) W 0 (W.forget i):=λZ V s hE z=>by
 refine Lu Z s i xt xi xw xN th ai ao ni ci no co 0 (W.forget i) V (λU p q Q hb=>?_);refine Y8 Z s W 7 i xt xi xw xN th ai ao ni ci no co p q 244 #[dC (some ⟨s,0,none⟩)] #[] 0 (W.forget i) true U hb.1 hb.2 (z.later Q) (Xg hi) (λ_=>⟨enters_of (fn:=Tryz.f244) (by kernel_rfl) (by kernel_rfl) rfl,λV2 h2=>?_⟩) 0 (if_pos rfl);refine (Zhm Z s W 7 i xt xi xw xN th ai ao ni ci no co V2 (z.later (Zf Q h2)) hi).mono ?_;rintro e V3 ⟨rfl,h3,h4⟩;exact⟨rfl,λ_=>h3,h4⟩
theorem Cm{I O}{xi:Int}{i:Nat}{y:Int}{W':WD}(hc:Xp W.k W.n W.m=0)(hi:i<W.n.length)(sI:SlOk ai ni ci)(sO:SlOk ao no co)(hz:Tr.TxSmall (th,I,O))(hx:W.submit i (th,I,O)=(y,W')):HapP (λU=>Env U/\InsAt U ai ni I/\OutsAt U ao no O) (.agg #[E J 2,E J i,E J xt,E J xi,E J xw,E J xN,E J th,F ai ni ci,F ao no co]) W y W':=λZ V s hE hS=>by
 obtain⟨_,q2,_,_,_,q6,_⟩:=Ye hc;refine Ly Z s i xt xi xw xN th ai ao ni ci no co y W' V (λU p q z hb=>?_);exact Y8 Z s W 2 i xt xi xw xN th ai ao ni ci no co p q 236 #[dC (some ⟨s,0,none⟩)] #[] y W' true U hb.1 hb.2 (hS.later z) (Xg hi) (λ_=>⟨enters_of (fn:=Tryz.f236) (by kernel_rfl) (by kernel_rfl) rfl,λQ h2=>Zff Z s W 2 i xt xi xw xN th ai ao ni ci no co I O y W' Q (hE Q (Gr.of (Zf z h2))).1 (hS.later (Zf z h2)) hi q2 (Ux (q6 _ (List.getElem_mem hi))) (λV g=>(hE V ((Gr.of (Zf z h2)).trans g)).2) sI sO hz hx⟩) y (if_pos rfl)
theorem Zbv{P:World->Prop}{xi:Int}{i:Nat}{o:Bool}{x ar y:Int}{W':WD}(hi:i<W.n.length)(ho:Xu xt W.n.length=o)(hx:W.fetch i xt xi=(x,W'))(hz:(if W.m.length=20 then 12 else x)=ar)(hy:(if o=true then (if xt=i then 6 else ar) else 5)=y):HapP P (.agg #[E J 8,E J i,E J xt,E J xi,E J xw,E J xN,E J th,F ai ni ci,F ao no co]) W y W':=λZ V s hE hS=>by
 refine Lt Z s i xt xi xw xN th ai ao ni ci no co y W' V (λU p q p' q' ap aq hU z Q ae=>?_);refine Y8 Z s W 8 i xt xi xw xN th ai ao ni ci no co ap aq 276 #[] #[dC (some ⟨p',0,none⟩),dC (some ⟨q',0,none⟩)] y W' true U ae.1 ae.2 (hS.later hU) (Xg hi) (λ_=>⟨enters_of (fn:=Tryz.f276) (by kernel_rfl) (by kernel_rfl) rfl,λV2 h2=>?_⟩) y (if_pos rfl);have ab:=hS.later (Zf hU h2);refine Rz Z s W 8 i xt xi xw xN th ai ao ni ci no co p' q' 274 #[] #[dC (some ⟨p,0,none⟩),dC (some ⟨q,0,none⟩)] ar W' o V2 ((h2.block _ (aA Q.1)).trans Q.1) ((h2.block _ (aA Q.2)).trans Q.2) ab ho (λ_ _=>⟨enters_of (fn:=Tryz.f274) (by kernel_rfl) (by kernel_rfl) rfl,λV3 h3=>?_⟩) y hy;have h23:=Zf h2 h3;exact Qz Z s W 8 i xt xi xw xN th ai ao ni ci no co p q 245 #[dC (some ⟨s,0,none⟩)] #[] x W' V3 ((h23.block _ (aA z.1)).trans z.1) ((h23.block _ (aA z.2)).trans z.2) (ab.later h3) (λ_=>⟨enters_of (fn:=Tryz.f245) (by kernel_rfl) (by kernel_rfl) rfl,λV4 h4=>Zlo Z s W 8 i xt xi xw xN th ai ao ni ci no co x W' V4 ((ab.later h3).later h4) hx⟩) ar hz
theorem Zbt{P:World->Prop}{xi:Int}{i:Nat}{o:Bool}{x au y:Int}{W':WD}(hi:i<W.n.length)(al:Tr.BlkSmall (Tr.blockE W.n[i].1 W.n[i].2.1 W.n[i].2.2.2).1)(ho:Xu xt W.n.length=o)(hx:W.share i xt=(x,W'))(hz:(if W.m.length=20 then 12 else x)=au)(hy:(if o=true then (if xt=i then 6 else au) else 5)=y):HapP P (.agg #[E J 6,E J i,E J xt,E J xi,E J xw,E J xN,E J th,F ai ni ci,F ao no co]) W y W':=λZ V s hE hS=>by
 refine Lv Z s i xt xi xw xN th ai ao ni ci no co y W' V (λU p q p' q' aq ar hU z Q ae=>?_);refine Y8 Z s W 6 i xt xi xw xN th ai ao ni ci no co aq ar 276 #[] #[dC (some ⟨p',0,none⟩),dC (some ⟨q',0,none⟩)] y W' true U ae.1 ae.2 (hS.later hU) (Xg hi) (λ_=>⟨enters_of (fn:=Tryz.f276) (by kernel_rfl) (by kernel_rfl) rfl,λV2 h2=>?_⟩) y (if_pos rfl);have ab:=hS.later (Zf hU h2);refine Rz Z s W 6 i xt xi xw xN th ai ao ni ci no co p' q' 274 #[] #[dC (some ⟨p,0,none⟩),dC (some ⟨q,0,none⟩)] au W' o V2 ((h2.block _ (aA Q.1)).trans Q.1) ((h2.block _ (aA Q.2)).trans Q.2) ab ho (λ_ _=>⟨enters_of (fn:=Tryz.f274) (by kernel_rfl) (by kernel_rfl) rfl,λV3 h3=>?_⟩) y hy;have h23:=Zf h2 h3;exact Qz Z s W 6 i xt xi xw xN th ai ao ni ci no co p q 243 #[dC (some ⟨s,0,none⟩)] #[] x W' V3 ((h23.block _ (aA z.1)).trans z.1) ((h23.block _ (aA z.2)).trans z.2) (ab.later h3) (λ_=>⟨enters_of (fn:=Tryz.f243) (by kernel_rfl) (by kernel_rfl) rfl,λV4 h4=>Zji Z s W 6 i xt xi xw xN th ai ao ni ci no co x W' V4 ((ab.later h3).later h4) hi al hx⟩) au hz
end
