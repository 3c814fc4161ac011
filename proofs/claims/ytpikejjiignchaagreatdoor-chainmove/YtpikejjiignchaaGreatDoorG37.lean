import Derived.Test.YtpikejjiignchaaGreatDoorH
import Derived.Test.YtpikejjiignchaaGreatDoorG35
import Derived.Test.YtpikejjiignchaaGreatDoorG36
open Go renaming lt_of_block->aA,maxLen->cD,heap_alloc_new->aK,bodyPost_ret->aR,wpAnyH_ready->bJ
open Go.Act renaming put->aH
open Go.Ending renaming returned->dX
open Go.Exit renaming inBlock->aO
open Go.IntKind renaming wrap_i64->bF
open Go.Obj renaming cells->dW
open Go.Value renaming slice->F,tuple->dY
open Go.World renaming block_lt_of_cell?->aC
open List renaming getD_eq_getElem?_getD->aZ,replicate->aF,map_append->bW,getElem?_eq_getElem->aS,length_set->dB
open Nat renaming le_refl->aE,zero_le->aP,le_trans->aT
namespace Go.Proofs.YtpikejjiignchaaGreatDoor
open Go.RowKit
theorem Zqd{h r:Int}(e:rwD h=(r,0)):0<=r/\r<=64:=by
 unfold rwD at e;split at e
 ·injection e with e _;have:=He ((h - 1).toNat / 8);omega
 ·injection e with _ e;exact absurd e (by decide)
def upL(k:Nat):List Int:=(List.range k).map λj=>((j+1:Nat):Int)
theorem Bi(k:Nat):(upL k).length=k:=by simp[upL]
theorem Zjn(k:Nat):upL (k+1)=upL k++[(k:Int)+1]:=by simp[upL,List.range_succ]
theorem Zpx{m i:Nat}(h:i<m):(upL (m - 1)++[0]).getD i 0=(((i+1) % m:Nat):Int):=by
 rw[aZ];by_cases q:i<m - 1
 ·rw[List.getElem?_append_left (by rw[Bi];exact q)];rw[Nat.mod_eq_of_lt (by omega)];simp[upL,q]
 ·obtain rfl:i=m - 1:=by omega
  rw[List.getElem?_append_right (by rw[Bi];exact aE _),Bi,Nat.sub_self,show m - 1+1=m by omega,Nat.mod_self];rfl
set_option maxRecDepth 10000 in
set_option maxHeartbeats 12800000 in
theorem Zhm(qj qk qm K qi ln ql C0)(p ht k0 n:Int)(a m c T X1)(lc:Int)(N)(r:Int)(x:Int)(C' S' w)(hE:EnvF w)(hK:Bk.TextsAt w qj qk K)(sK:Bk.SlOk qj qk qm)(hR:Bk.Right K)(hC:CoinsAt w qi ln C0)(sC:SlOk qi ln ql)(jy:Zy C0)(hT:TxsAt w a m T)(sT:SlOk a m c)(cu:Q7 K (p,ht,k0,n,T)=(X1,lc,N,0))(hr:rwD ht=(r,0))(hx:W6 ht r T N m 0 C0 (aF m [])=(x,C',S')) :
  Calls Tryz.prog 41 #[F qj qk qm,F qi ln ql,.agg #[.int .i64 p,.int .i64 ht,.int .i64 k0,.int .i64 n,F a m c]] w λe w'=>Znn w w' x C' S' e:=by
 obtain⟨X,hX⟩:=ZG (w.alloc (dW #[.int .i64 p,.int .i64 ht,.int .i64 k0,.int .i64 n,F a m c] 68));have dm:ZD w X:=by rw[hX];exact Zg _ _
 have ct:X.heap[w.heap.size]? = some (dW [.int .i64 p,.int .i64 ht,.int .i64 k0,.int .i64 n,F a m c].toArray 68 (0,0)):=by rw[hX];exact Z8 _ _ _ _ _ _ _
 have NF:=Zb (Jz qj qk qm K p ht k0 n a m c T X1 lc N 0 X (hE.later dm) (hK.later dm) sK hR (hT.later dm) cu);have ij:=(Qt cu).1;obtain⟨ee,io,kg,kh⟩:=Ra ij;have zT:T.length=m:=hT.1;rw[show (p,ht,k0,n,T).2.2.2.2=T from rfl,zT] at ee io;have zN:N.length=m:=by rw[(Qt cu).2.2.2.2.1];simpa using zT
 have eb:∀ t∈T,Zr t=0:=(Uo ij).2.2.2.2;obtain⟨i0,hi,iv,iw,ix⟩:=info_parts Tryz.infoInt;obtain⟨i1,qn,ky,kz,la⟩:=info_parts Tryz.infoUndo;obtain⟨tb,aj,rfl,_,nr⟩:=hT.2 ee;have x0:=Zd ct 0 _ rfl;have x1:=Zd ct 1 _ rfl;have x2:=Zd ct 2 _ rfl;have x3:=Zd ct 3 _ rfl;have x4:=Zd ct 4 _ rfl;have xl:=aA ct;have ej:=Zb dm;have lw:=Zb ct;have HC:=Zb (hC.later dm);have HT:=Zb (hT.later dm);have lr:=Zb eb;have jk:=Zb jy;have HX:=Zb hx;have ZT:=Zb zT;have ZN:=Zb zN;have jl:=Zb hr;have pi:m<=c:=sT.1;have pa:c<=cD:=sT.2.1;have HH:=Zb (And.intro kg kh);clear hE hK sK hR hC jy hT cu hx dm ct ij eb zT zN hr kg kh nr sT;go_enter Tryz.func41,Tryz.ntmps41;go_wp2_with fail;rw[<-hX];clear hX;(try go_wp2_with fail);refine (Za NF).mono ?_;rintro e w1 ⟨a',n',c',na,pz,qs,rfl,_,_,hN,ik⟩;have y4:=Zc ik x4;have yl:=aC _ _ y4;have HN:=Zb hN;have fg:=Zb ik;have ny:((1:Int)<=(m:Int)):=by omega
 clear hN ik NF x0 x1 x2 x3 x4 xl
 go_wp2_with (at_make;refine wpList_make_full _ rfl _ _ 79 rfl w1.heap.size 130 i1 (.agg #[F none 0 0]) 1 Tryz.underlying79 qn ky kz .i64 .i64 _ _ m rfl rfl rfl rfl (by rw[la];omega) (by unfold cD;omega) (aE _) ?_;intro w2 ko kf;have ea:ZD w1 w2:=(Below.refl _ _).grown kf (aE _) (λk h=>by cases h);have z4:=Zc ea y4;have zl:=aC _ _ z4;have lp:=Zb ea;have bq:Hid (UsAt 130 w1.heap.size (aF m []) w2):=Zjl (base:=w1.heap.size) (by rw[<-Ai];exact ko);clear ko kf ea)
 all_goals
  obtain⟨V3,ft⟩:∃ V,V=w2.alloc (dW #[] 3):=⟨_,rfl⟩;rw[<-ft];have ka:ZD w2 V3:=by rw[ft];exact Zg _ _
  have jz:V3.heap[w2.heap.size]? = some (dW #[] 3 (0,0)):=by rw[ft];exact aK _ _
  have OW:Hid (V3.ownsRow w2.heap.size 3 1 (F (some ⟨w2.heap.size,0,none⟩) 0 0) 0 ((upL 0).map (Value.int .i64))):=by
   show World.ownsRow _ _ _ _ _ _ _;exact⟨rfl,.inr ⟨w2.heap.size,0,_,rfl,aE _,jz,aE _,by unfold cD;omega,rfl,rfl⟩⟩
  have jd:=Zb ka;clear ft jz ka z4 zl y4 yl ny
  go_loopw [15,45] (λov qg wr=>∃ (k:Nat) (qd:Nat) (g:Nat),k<=m - 1/\ov = F (some ⟨g,0,none⟩) k qd/\qg = .int .i64 (k:Int)/\Hid (wr.ownsRow w2.heap.size 3 1 (F (some ⟨g,0,none⟩) k qd) k ((upL k).map (Value.int .i64)))/\Hid (ZD w2 wr)) (λ_ qg _=>m - 1 - (intOf qg).toNat)
  case atStart=>exact⟨0,0,w2.heap.size,aP _,rfl,rfl,OW,jd⟩
  case round=>
   obtain⟨k,qd,g,hk,rfl,rfl,HO,HB⟩:=hrel;clear OW jd;by_cases ed:k<m - 1
   ·first
    | (exfalso;omega)
    |skip
     have ni:(k:Int)<((m - 1:Nat):Int):=(by omega);have dn:=Zg wr (dW #[.int .i64 ((k:Int)+1)] 3);have dz:=Zb ((Gr.of (S:=λ_=>False) dn).own (Za HO) (λ_ _ q=>q));have fo:=Zb (World.news_of_block (aK wr (dW #[.int .i64 ((k:Int)+1)] 3)));have av:=Zb (Ze (Za HB) dn);have ns:IntKind.i64.wrap ((k:Int)+1)=((k:Int)+1):=(by rw[bF];omega);clear dn
     go_wp2_with (at_builtin;refine wpList_append_lies _ rfl _ _ 25 rfl w2.heap.size 3 i0 (.int .i64 0) 1 8 Tryz.underlying25 hi iv iw ix rfl (by decide) _ _ _ rfl (Za dz) ⟨wr.heap.size,0,none⟩ 1 1 [.int .i64 ((k:Int)+1)] rfl rfl (Za fo) (λu hu=>by simp at hu;subst hu;rfl) (by decide) (by unfold cD;omega) (by omega) (Za av).size _ rfl ?_;intro g7 fq w7 ef fa iq _)
     have eu:Hid (w7.ownsRow w2.heap.size 3 1 (F (some ⟨g7,0,none⟩) (k+1) fq) (k+1) ((upL (k+1)).map (Value.int .i64))):=by
      show World.ownsRow _ _ _ _ _ _ _;rw[Zjn,bW];exact ef
     have lq:=Zb ((Za av).grown fa (Za av).size (λk hk=>((Za dz).lt k hk).1));clear ef fa iq;go_wp2;go_roundw
     case rel=>exact⟨k+1,fq,g7,by omega,rfl,by go_num,eu,lq⟩
     case measure=>simp[intOf];omega
   ·obtain rfl:k=m - 1:=(by omega);clear hk ed;have dn:=Zg wr (dW #[.int .i64 0] 3);have dz:=Zb ((Gr.of (S:=λ_=>False) dn).own (Za HO) (λ_ _ q=>q));have fo:=Zb (World.news_of_block (aK wr (dW #[.int .i64 0] 3)));have av:=Zb (Ze (Za HB) dn);have km:m - 1+1=m:=(by omega);clear dn
    go_wp2_with (at_builtin;refine wpList_append_lies _ rfl _ _ 25 rfl w2.heap.size 3 i0 (.int .i64 0) 1 8 Tryz.underlying25 hi iv iw ix rfl (by decide) _ _ _ rfl (Za dz) ⟨wr.heap.size,0,none⟩ 1 1 [.int .i64 0] rfl rfl (Za fo) (λu hu=>by simp at hu;subst hu;rfl) (by decide) (by unfold cD;omega) (by omega) (Za av).size _ rfl ?_;intro g7 fq Z ef fa iq _;rw[km] at ef ⊢)
    have eu:Z.ownsRow w2.heap.size 3 1 (F (some ⟨g7,0,none⟩) m fq) m ((upL (m - 1)++[0]).map (Value.int .i64)):=by
     rw[bW];exact ef
    have fv:ZD w2 Z:=(Za av).grown fa (Za av).size (λk hk=>((Za dz).lt k hk).1);obtain⟨ra,pv,ir,kt⟩:=Pf eu;cases ir;obtain⟨rb,ro,ir,ks⟩:=kt.2.2 ee;cases ir;have ox:w1.heap.size<w2.heap.size:=(Za bq).ok.lt
    have oy:w2.heap.size<=g7:=by
     obtain⟨_,_,e,_,q⟩:=Nf eu;cases e;obtain⟨g,e,q,_⟩:=q ee;cases e;exact q
    have lx:Hid (∀ V,Gr Z V (λq=>q=w1.heap.size)->∀ i,i<m->V.cell? ⟨g7,i,none⟩=some (.int .i64 (((i+1) % m:Nat):Int))):=λV hg i hi=>by
     have q:=ks i hi;rw[Nat.zero_add,Zpx hi] at q;exact (World.cell?_of_block (a:=⟨g7,i,none⟩) (hg.block g7 (aC _ _ q) (by omega))).trans q
    have cn:=Zb ((Za bq).later fv);have GB:Hid (∀ V,Gr Z V (λq=>q=w1.heap.size)->ZD w1 V):=λV g=>g.below (Ze (Za lp) fv) (by have:=fv.size;omega) (λq e=>by rw[e];exact aE _);have jc:=Zb (Zeb (Za ZT));have jf:Hid (CoinsAt Z qi ln C0):=(Za HC).later (Ze (Za fg) ((Za GB) Z (Gr.refl _ _)));have lm:Hid (∀ s∈aF m ([]:List Zf),s.length<=6/\∀ x∈s,0<=cv x/\cv x<=1000000000):=λs hs=>by rw[(List.mem_replicate.1 hs).2];exact⟨by simp,λx hx=>by cases hx⟩
    clear ef eu fa iq kt ks fv dz fo av HB HO bq hi iv iw ix qn ky kz la km HC
    go_loopw [1,14,58] (λqq qp qg V=>∃ (k:Nat) (oa:Option Addr) (bc qd:Nat) (C:List Zf) (S:List (List Zf)) (bi:Int),k<=m/\qq = F oa bc qd/\qp = .int .i64 bi/\qg = .int .i64 k/\Hid (CoinsAt V oa bc C/\SlOk oa bc qd/\Zy C)/\Hid (UsAt 130 w1.heap.size S V)/\Hid (S.length=m)/\Hid (Q6 T S m k bi)/\Hid (W6 ht r T N (m - k) k C S=(x,C',S'))/\Hid (Gr Z V (λq=>q=w1.heap.size))) (λ_ _ qg _=>m - (intOf qg).toNat)
    case atStart=>exact⟨0,qi,ln,ql,C0,aF m [],0,aP _,rfl,rfl,rfl,(⟨Za jf,sC,Za jk⟩:CoinsAt Z qi ln C0/\SlOk qi ln ql/\Zy C0),cn,(List.length_replicate:(aF m ([]:List Zf)).length=m),jc,HX,(Gr.refl _ _:Gr Z Z (λq=>q=w1.heap.size))⟩
    case round=>
     obtain⟨k,oa,bc,qd,C,S,bi,hk,rfl,rfl,rfl,HO,HU,dy,HF,HQ,HG⟩:=hrel;clear HX cn jf jk jc lm;by_cases ed:k<m
     ·have fb:(k+1) % m<m:=Nat.mod_lt _ ee;have ni:(k:Int)<(m:Int):=(by omega);have ok:=(Za lx) wr (Za HG) k ed;have pp:=aC _ _ ok;obtain⟨i,hi⟩:=ZF ((k+1) % m);rw[hi] at fb ok;have kn:m - k=(m - (k+1))+1:=(by omega);have im:i<T.length:=(by rw[Za ZT];exact fb);have ki:i<N.length:=(by rw[Za ZN];exact fb);obtain⟨t1,I,qb,it⟩:∃ t1 I qb,T[i]=(t1,I,qb):=⟨_,_,_,rfl⟩;obtain⟨nm,cu⟩:=ZF (N[i]);obtain⟨y,M,s,ii⟩:∃ y M s,apD C (t1,I,qb) nm ht=(y,M,s):=⟨_,_,_,rfl⟩;have gv:Hid (T.getD i Ut=(t1,I,qb)):=(by show _=_;rw[aZ,aS im];exact it);have bj:=Za HQ;rw[kn,Dj (i:=i) (by rw[Za ZT];exact hi) (t:=(t1,I,qb)) (Za gv) (nm:=nm) (by rw[aZ,aS ki];exact cu) ii,Za ZT] at bj;have bj:=Zb bj;have fh:Hid (∀ V,Gr Z V (λq=>q=w1.heap.size)->ZD X V):=λV g=>Ze (Za fg) ((Za GB) V g);have ic:=(Za fh) wr (Za HG);obtain⟨px,py,e,_,ku⟩:=(Za HT).2 ee;cases e;have tc:=TxAt.kept _ _ _ _ _ ic (ku i im);have eb:=(Za lr) T[i] (List.getElem_mem im);rw[it] at tc eb;obtain⟨c0,⟨ai,qe,qf,c1,ie,ob⟩,ao,ag,co,c2,ig,oc⟩:=tc;have nk:pz=m:=(Za HN).1.symm.trans (Za ZN);obtain⟨nb,no,rfl,kd⟩:=(Za HN).2 (by omega);have c4:=Zc ((Za GB) wr (Za HG)) (kd i ki);rw[cu] at c4;simp only at c0 c1 c2 ie ig;have iu:=ZE ic (Za lw);have v1:=Zd iu 1 _ rfl;have v4:=Zd iu 4 _ rfl;have dw:=Zb ii;have bx:=Zb eb;have HI:=Zb hi;have ji:Hid (InsAt wr ai qe I):=ie;have dx:Hid (OutsAt wr ao ag qb):=ig;have pc:(i:Int)<(m:Int):=by omega
      have pb:¬((i:Int)<0):=(by omega);have jt:w1.heap.size<wr.heap.size:=(Za HU).ok.lt;subst nk;clear ii eb hi ie ig ic ku kd iu it cu ob oc HQ kn;by_cases dq:i=0
      ·have pf:((i:Int) == 0)=true:=(by simp[dq]);have pd:¬((0:Int)<(i:Int)):=(by omega);have ph:(0:Int)<(pz:Int):=(by omega);have d2:wr.cell? ⟨tb,aj+2,none⟩=some (F ao ag co):=(by have:=c2;rw[dq,Nat.zero_mul,Nat.add_zero] at this;exact this);have od:=aC _ _ d2;have vl:=aC _ _ v4;have jh:=Zb dq;have lv:Hid ((T.getD 0 Ut).2.2=qb):=(by show _=_;have:=Za gv;rw[dq] at this;rw[this]);have cz:=Zb (And.intro c0 (And.intro c1 (And.intro c2 (And.intro c4 (And.intro v1 v4)))));have gx:Hid (qb.length=ag):=(Za dx).1;have gp:Hid (∀ j,0<=Ys (qb.take j)/\Ys (qb.take j)<=6000000000):=λj=>Es (aT (by rw[List.length_take];exact Nat.min_le_right _ _) (Y9 (Za bx)).2.1) (λx hx=>Rl (Za bx) x (List.mem_of_mem_take hx));have fd:ag<=6:=(by rw[<-Za gx];exact (Y9 (Za bx)).2.1);clear dq c0 c1 c2 c4;obtain⟨V0,nc⟩:=ZG (wr);subst nc;go_wp2
       go_loopw [19,70] (λsv qg V=>∃ (j:Nat) (d:Int),j<=ag/\sv = .int .i64 d/\qg = .int .i64 j/\Hid (d=Ys (qb.take j))/\Hid (ZD V0 V)) (λ_ qg _=>ag - (intOf qg).toNat)
       case atStart=>exact⟨0,0,aP _,rfl,rfl,rfl,(Below.refl _ _:ZD V0 V0)⟩
       case round=>
        obtain⟨j,d,hj,rfl,rfl,D,HD⟩:=hrel;have fw:=Za HD;by_cases nh:j<ag
        ·have kl:j<qb.length:=(by rw[Za gx];exact nh);obtain⟨b,off,rfl,oz,kc⟩:=(Za dx).2 (by omega);have kk:=OutAt.kept _ _ _ _ _ fw (kc j kl);have d1:=(Za gp) j;have d3:=(Za gp) (j+1);have ga:=Tz qb j kl;obtain⟨o,hc⟩:=ZF (qb[j]);rw[hc] at kk ga;obtain⟨q1,q2⟩:=o;obtain⟨g0,nu,nw,nv,g1,_,_⟩:=kk;simp only at g0 g1 ga;have hd:d=Ys (qb.take j):=Za D;have A3:Hid (d+q1=Ys (qb.take (j+1))):=(by show _=_;rw[ga];omega);have bf:=Zb (Ze (Za HD) (Zg wr (dW #[.int .i64 q1,F nu nw nv] 101)));have ns:IntKind.i64.wrap (d+q1)=d+q1:=(by rw[bF];omega);clear hc ga D HD hd d1 d3 fw kc;go_wp2;go_roundw
         case rel=>exact⟨j+1,d+q1,by omega,rfl,by go_num,A3,bf⟩
         case measure=>simp[intOf];omega
        ·have e:ag=j:=(by omega);subst e
         have hd:d=Ys qb:=by
          have:=Za D;rw[List.take_of_length_le (by rw[Za gx];exact aE _)] at this;exact this
         have ke:=(Za gp) ag;rw[<-Za D] at ke;have e1:=Zc fw v1;have qo:=aC _ _ e1;have RW:=Zb (Zdc ht r wr (Za HH).1 (Za HH).2 (Za jl));have nn:0<=r/\r<=64:=Zqd (Za jl);have id:=Zgg (Za HF) ed io;have pk:IntKind.i64.wrap (r+bi)=r+bi:=by rw[bF];omega
         have fc:k+1=pz:=by
          have e:=Za HI;by_cases q:k+1<pz
          ·rw[Nat.mod_eq_of_lt q] at e;have:=Za jh;omega
          ·omega
         have kj:Xk r T S pz<0↔r+bi<d:=(by rw[Zml (Za HF) fc,Za lv,hd]);have fj:=Zb kj;clear hd ke nn id kj fc D v1 v4 od vl d2 fw;go_wp2_with fail;refine (Za RW).mono ?_;rintro e V2 ⟨rfl,ea⟩;have bf:=Zb (Ze (Za HD) ea);clear RW ea e1 qo HD;by_cases hq:r+bi<d
         ·have cm:Hid (((9:Int),([]:List Zf),([]:List (List Zf)))=(x,C',S')):=(by have e:=Za bj;rw[if_pos ⟨Za jh,(Za fj).2 hq⟩] at e;exact e);have de:=Zb (Ze (Za ej) (Ze ((Za fh) V0 (Za HG)) (Za bf)));clear bj fj;go_wp2;(try simp only[aO,Exit.then]);refine aR (v:=dY #[F none 0 0,F none 0 0,.int .i64 9]) ?_ rfl (Rx (Za cm) (Za de));simp[results,Tryz.f41,go_sem]
         ·have jn:Hid (¬(i=0/\Xk r T S pz<0)):=λq=>hq ((Za fj).1 q.2);have dc:Hid (CoinsAt V2 oa bc C/\SlOk oa bc qd/\Zy C):=⟨(Za HO).1.later (Za bf),(Za HO).2⟩;have gw:=Zb ((Za HU).later (Za bf));have en:Hid (Gr Z V2 (λq=>q=w1.heap.size)):=(Za HG).on (Za bf);have gn:=Zb ((Za ji).later (Za bf));have fk:=Zb ((Za dx).later (Za bf));have gi:Hid (w1.heap.size<V2.heap.size):=Nat.lt_of_lt_of_le jt (Za bf).size;have c0:=Zc (Za bf) (Za cz).1;have c1:=Zc (Za bf) (Za cz).2.1;have c2:=Zc (Za bf) (Za cz).2.2.1;have c4:=Zc (Za bf) (Za cz).2.2.2.1;have v1:=Zc (Za bf) (Za cz).2.2.2.2.1;have v4:=Zc (Za bf) (Za cz).2.2.2.2.2;clear fj cz
          have AP:Hid (∀ U,ZD V2 U->Calls Tryz.prog 60 #[F oa bc qd,.agg #[.int .i64 t1,F ai qe qf,F ao ag co],.int .i64 nm,.int .i64 ht] U λe w'=>ApR U w' y M s e):=λU hb=>
           Lo oa bc qd C t1 ai ao qe qf ag co I qb nm ht y M s U ((Za dc).1.later hb) (Za dc).2.1 ((Za gn).later hb) ((Za fk).later hb) (Za dc).2.2 (Za bx) (Za dw)
          have KS:Hid (∀ U,ZD V2 U->ZD V2 U/\U.cell? ⟨w.heap.size,1,none⟩=some (.int .i64 ht)/\U.cell? ⟨w.heap.size,4,none⟩=some (F (some ⟨tb,aj,none⟩) pz c)/\U.cell? ⟨tb,aj+i*3,none⟩=some (.int .i64 t1)/\U.cell? ⟨tb,aj+i*3+1,none⟩=some (F ai qe qf)/\U.cell? ⟨tb,aj+i*3+2,none⟩=some (F ao ag co)/\U.cell? ⟨nb,no+i,none⟩=some (.int .i64 nm)):=λU hb=>
           ⟨hb,Zc hb v1,Zc hb v4,Zc hb c0,Zc hb c1,Zc hb c2,Zc hb c4⟩
          clear c0 c1 c2 c4 v1 v4;go_wp2_with fail;refine wp_region_held_drew (S:=λU=>ZD V2 U/\U.cell? ⟨w.heap.size,1,none⟩=some (.int .i64 ht)/\U.cell? ⟨w.heap.size,4,none⟩=some (F (some ⟨tb,aj,none⟩) pz c)/\U.cell? ⟨tb,aj+i*3,none⟩=some (.int .i64 t1)/\U.cell? ⟨tb,aj+i*3+1,none⟩=some (F ai qe qf)/\U.cell? ⟨tb,aj+i*3+2,none⟩=some (F ao ag co)/\U.cell? ⟨nb,no+i,none⟩=some (.int .i64 nm)) (by kernel_rfl) ((Za KS) _ (Zh _)) (λz=>?_);refine Zt 0 ⟨some 87,.move (.tmp 1),29, "second.go:274",#[],none⟩ ?_ rfl ?_ z ?_;rotate_left
          ·(intro W O;go_simp;first|done|with_reducible rfl)
          (try simp only[aH,ZA,ZB,ZC]);refine Zt 1 ⟨some 88,.fieldAddr 68 (.tmp 5) 4,0, "second.go:274",#[],none⟩ ?_ rfl ?_ z ?_;rotate_left
          ·(intro W O;go_simp;first|done|with_reducible rfl)
          (try simp only[aH,ZA,ZB,ZC]);refine Zt 2 ⟨some 89,.load 48 (.tmp 88),48, "second.go:274",#[⟨1,.data⟩],none⟩ ?_ rfl ?_ z ?_;rotate_left
          ·(intro W O;go_simp;first|done|with_reducible rfl)
          (try simp only[aH,ZA,ZB,ZC]);refine Zt 3 ⟨some 90,.move (.tmp 18),3, "second.go:274",#[],none⟩ ?_ rfl ?_ z ?_;rotate_left
          ·(intro W O;go_simp;first|done|with_reducible rfl)
          (try simp only[aH,ZA,ZB,ZC]);refine Zt 4 ⟨some 91,.indexAddr 48 (.tmp 89) (.tmp 90),0, "second.go:274",#[⟨2,.data⟩,⟨3,.data⟩],none⟩ ?_ rfl ?_ z ?_;rotate_left
          ·(intro W O;go_simp;first|done|with_reducible rfl)
          (try simp only[aH,ZA,ZB,ZC]);refine Zt 5 ⟨some 92,.load 52 (.tmp 91),52, "second.go:274",#[⟨4,.data⟩],none⟩ ?_ rfl ?_ z ?_;rotate_left
          ·(intro W O;go_simp;first|done|with_reducible rfl)
          (try simp only[aH,ZA,ZB,ZC]);refine Zt 6 ⟨some 93,.move (.tmp 11),25, "second.go:274",#[],none⟩ ?_ rfl ?_ z ?_;rotate_left
          ·(intro W O;go_simp;first|done|with_reducible rfl)
          (try simp only[aH,ZA,ZB,ZC]);refine Zt 7 ⟨some 94,.move (.tmp 18),3, "second.go:274",#[],none⟩ ?_ rfl ?_ z ?_;rotate_left
          ·(intro W O;go_simp;first|done|with_reducible rfl)
          (try simp only[aH,ZA,ZB,ZC]);refine Zt 8 ⟨some 95,.indexAddr 25 (.tmp 93) (.tmp 94),0, "second.go:274",#[⟨6,.data⟩,⟨7,.data⟩],none⟩ ?_ rfl ?_ z ?_;rotate_left
          ·(intro W O;go_simp;first|done|with_reducible rfl)
          (try simp only[aH,ZA,ZB,ZC]);refine Zt 9 ⟨some 96,.load 3 (.tmp 95),3, "second.go:274",#[⟨8,.data⟩],none⟩ ?_ rfl ?_ z ?_;rotate_left
          ·(intro W O;go_simp;first|done|with_reducible rfl)
          (try simp only[aH,ZA,ZB,ZC]);refine Zt 10 ⟨some 97,.fieldAddr 68 (.tmp 5) 1,0, "second.go:274",#[],none⟩ ?_ rfl ?_ z ?_;rotate_left
          ·(intro W O;go_simp;first|done|with_reducible rfl)
          (try simp only[aH,ZA,ZB,ZC]);refine Zt 11 ⟨some 98,.load 3 (.tmp 97),3, "second.go:274",#[⟨10,.data⟩],none⟩ ?_ rfl ?_ z ?_;rotate_left
          ·(intro W O;go_simp;first|done|with_reducible rfl)
          (try simp only[aH,ZA,ZB,ZC]);refine bJ (rs:=[12,17]) (by kernel_rfl) (by simp) ?_;refine AllReadyH.cons (o:=⟨some 99,.call { callee:=Callee.value (.func 60),args:=#[.tmp 87,.tmp 92,.tmp 96,.tmp 98],argTypes:=#[29,52,3,3] },131, "second.go:274",#[⟨0,.data⟩,⟨5,.data⟩,⟨9,.data⟩,⟨11,.data⟩],none⟩) rfl (λK hK=>?_) (AllReadyH.cons (o:=⟨some 23,.alloc 130,0, "second.go:274",#[],none⟩) rfl (λK hK=>?_) AllReadyH.nil)
          focus
           refine Vj (by kernel_rfl) 60 #[F oa bc qd,.agg #[.int .i64 t1,F ai qe qf,F ao ag co],.int .i64 nm,.int .i64 ht] (by kernel_rfl) ((Za AP) _ z.1) ?_;rintro e w6 ⟨am,cl,qh,sa,qa,cs,rfl,br,bv,bs,bw,be⟩;refine⟨_,rfl,?_⟩;have av:=Zb (Ze z.1 be);have eq:=Zb br;have es:=Zb bs;have dg:=Zb bv;have dh:=Zb bw;clear br bs bv bw be;refine hK.out _ _ ((Za KS) _ (Za av)) (λad=>?_);clear hK K z;have z:=ad;clear ad;(try simp only[aH,ZA,ZB,ZC]);refine Zt 13 ⟨some 86,.move (.tmp 99),131, "second.go:274",#[⟨12,.data⟩],none⟩ ?_ rfl ?_ z ?_;rotate_left
           ·(intro W O;go_simp;first|done|with_reducible rfl)
           (try simp only[aH,ZA,ZB,ZC]);refine Zt 14 ⟨some 100,.extract (.tmp 86) 0,29, "second.go:274",#[⟨13,.data⟩],none⟩ ?_ rfl ?_ z ?_;rotate_left
           ·(intro W O;go_simp;first|done|with_reducible rfl)
           (try simp only[aH,ZA,ZB,ZC]);refine Zt 15 ⟨some 101,.extract (.tmp 86) 1,130, "second.go:274",#[⟨13,.data⟩,⟨18,.gcOnly .lateStores⟩],none⟩ ?_ rfl ?_ z ?_;rotate_left
           ·(intro W O;go_simp;first|done|with_reducible rfl)
           (try simp only[aH,ZA,ZB,ZC]);refine Zt 16 ⟨some 102,.extract (.tmp 86) 2,30, "second.go:274",#[⟨13,.data⟩,⟨19,.gcOnly .lateStores⟩],none⟩ ?_ rfl ?_ z ?_;rotate_left
           ·(intro W O;go_simp;first|done|with_reducible rfl)
           (try simp only[aH,ZA,ZB,ZC]);refine bJ (rs:=[17]) (by kernel_rfl) (by simp) ?_;refine AllReadyH.cons (o:=⟨some 23,.alloc 130,0, "second.go:274",#[],none⟩) rfl (λK hK=>?_) AllReadyH.nil;go_simp;obtain⟨WZ,ci⟩:=ZG (w6.alloc (dW #[F none 0 0] 130));rw[<-ci];obtain⟨qc,ar⟩:=ZG (w6.heap.size);have MZ:Hid (WZ.heap[qc]? = some (dW [F none 0 0].toArray 130 (0,0))):=(by show _=_;rw[ci,ar];exact aK _ _);have cj:ZD w6 WZ:=(by rw[ci];exact Zg _ _);have BZ:=Zb (Ze (Za av) cj);have db:=Zb ((Za eq).later cj);have dd:=Zb ((Za es).later cj);have ca:Hid (V2.heap.size<=qc):=(by show _<=_;rw[ar];exact (Za av).size);rw[<-ar];clear cj ci ar av eq es;refine hK.out _ _ ((Za KS) _ (Za BZ)) (λad=>?_);clear hK K z;have z:=ad;clear ad
          rotate_left
          focus
           go_simp;obtain⟨WA,bt⟩:=ZG (V2.drew.alloc (dW #[F none 0 0] 130))
           (first|rw[<-bt]|(rw[show (V2.alloc (dW #[F none 0 0] 130)).drew=WA from bt.symm]))
           have ez:ZD V2 WA:=(by rw[bt];exact Ze (Zh V2) (Zg _ _));obtain⟨qc,ar⟩:=ZG (V2.heap.size);have MA:Hid (WA.heap[qc]? = some (dW [F none 0 0].toArray 130 (0,0))):=(by show _=_;rw[bt,ar];exact aK V2.drew _);have ca:Hid (V2.heap.size<=qc):=(by show _<=_;rw[ar];exact aE _);rw[<-ar];have cx:=Zb ez;clear bt ar ez;refine hK.out _ _ ((Za KS) _ (Za cx)) (λad=>?_);clear hK K z;have z:=ad;clear ad;(try simp only[aH,ZA,ZB,ZC]);refine bJ (rs:=[12]) (by kernel_rfl) (by simp) ?_;refine AllReadyH.cons (o:=⟨some 99,.call { callee:=Callee.value (.func 60),args:=#[.tmp 87,.tmp 92,.tmp 96,.tmp 98],argTypes:=#[29,52,3,3] },131, "second.go:274",#[⟨0,.data⟩,⟨5,.data⟩,⟨9,.data⟩,⟨11,.data⟩],none⟩) rfl (λK hK=>?_) AllReadyH.nil;refine Vj (by kernel_rfl) 60 #[F oa bc qd,.agg #[.int .i64 t1,F ai qe qf,F ao ag co],.int .i64 nm,.int .i64 ht] (by kernel_rfl) ((Za AP) _ z.1) ?_;rintro e WZ ⟨am,cl,qh,sa,qa,cs,rfl,br,bv,bs,bw,be⟩;refine⟨_,rfl,?_⟩;have BZ:=Zb (Ze (Za cx) be);have db:=Zb br;have dd:=Zb bs;have dg:=Zb bv;have dh:=Zb bw;have MZ:=Zb (ZE be (Za MA));clear br bs bv bw be MA cx;refine hK.out _ _ ((Za KS) _ (Za BZ)) (λad=>?_);clear hK K z;have z:=ad;clear ad;(try simp only[aH,ZA,ZB,ZC]);refine Zt 13 ⟨some 86,.move (.tmp 99),131, "second.go:274",#[⟨12,.data⟩],none⟩ ?_ rfl ?_ z ?_;rotate_left
           ·(intro W O;go_simp;first|done|with_reducible rfl)
           (try simp only[aH,ZA,ZB,ZC]);refine Zt 14 ⟨some 100,.extract (.tmp 86) 0,29, "second.go:274",#[⟨13,.data⟩],none⟩ ?_ rfl ?_ z ?_;rotate_left
           ·(intro W O;go_simp;first|done|with_reducible rfl)
           (try simp only[aH,ZA,ZB,ZC]);refine Zt 15 ⟨some 101,.extract (.tmp 86) 1,130, "second.go:274",#[⟨13,.data⟩,⟨18,.gcOnly .lateStores⟩],none⟩ ?_ rfl ?_ z ?_;rotate_left
           ·(intro W O;go_simp;first|done|with_reducible rfl)
           (try simp only[aH,ZA,ZB,ZC]);refine Zt 16 ⟨some 102,.extract (.tmp 86) 2,30, "second.go:274",#[⟨13,.data⟩,⟨19,.gcOnly .lateStores⟩],none⟩ ?_ rfl ?_ z ?_;rotate_left
           ·(intro W O;go_simp;first|done|with_reducible rfl)
          all_goals
           (try simp only[aH,ZA,ZB,ZC]);refine Zt 18 ⟨some 22,.assign (.tmp 100),29, "second.go:274",#[⟨14,.data⟩,⟨12,.chain⟩,⟨0,.phase⟩,⟨1,.phase⟩,⟨2,.phase⟩,⟨3,.phase⟩,⟨4,.phase⟩,⟨5,.phase⟩,⟨6,.phase⟩,⟨7,.phase⟩,⟨8,.phase⟩,⟨9,.phase⟩,⟨10,.phase⟩,⟨11,.phase⟩,⟨12,.phase⟩,⟨13,.phase⟩,⟨14,.phase⟩,⟨15,.textOnly .lateStores⟩,⟨16,.textOnly .lateStores⟩,⟨17,.phase⟩],none⟩ ?_ rfl ?_ z ?_;rotate_left
           ·(intro W O;go_simp;first|done|with_reducible rfl)
           (try simp only[aH,ZA,ZB,ZC]);have z6:=Zd (Za MZ) 0 _ rfl;have du:=Zi (Za MZ) 0;have dv:=aA (Za MZ);refine bJ (rs:=[19]) (by kernel_rfl) (by simp) ?_;refine AllReadyH.cons (o:=⟨none,.store 130 (.tmp 23) (.tmp 101),0, "second.go:274",#[⟨17,.data⟩,⟨15,.data⟩,⟨18,.chain⟩,⟨0,.phase⟩,⟨1,.phase⟩,⟨2,.phase⟩,⟨3,.phase⟩,⟨4,.phase⟩,⟨5,.phase⟩,⟨6,.phase⟩,⟨7,.phase⟩,⟨8,.phase⟩,⟨9,.phase⟩,⟨10,.phase⟩,⟨11,.phase⟩,⟨12,.phase⟩,⟨13,.phase⟩,⟨14,.phase⟩,⟨15,.phase⟩,⟨16,.textOnly .lateStores⟩,⟨17,.phase⟩,⟨18,.phase⟩],none⟩) rfl (λK hK=>?_) AllReadyH.nil;go_simp;refine hK.out _ _ ((Za KS) _ ((Za BZ).setCell (Za ca) _)) (λad=>?_);clear hK K z;have z:=ad;clear ad;(try simp only[aH,ZA,ZB,ZC]);refine Zt 20 ⟨some 24,.assign (.tmp 102),30, "second.go:274",#[⟨16,.data⟩,⟨19,.chain⟩,⟨0,.phase⟩,⟨1,.phase⟩,⟨2,.phase⟩,⟨3,.phase⟩,⟨4,.phase⟩,⟨5,.phase⟩,⟨6,.phase⟩,⟨7,.phase⟩,⟨8,.phase⟩,⟨9,.phase⟩,⟨10,.phase⟩,⟨11,.phase⟩,⟨12,.phase⟩,⟨13,.phase⟩,⟨14,.phase⟩,⟨15,.phase⟩,⟨16,.phase⟩,⟨17,.phase⟩,⟨18,.phase⟩,⟨19,.phase⟩],none⟩ ?_ rfl ?_ z ?_;rotate_left
           ·(intro W O;go_simp;first|done|with_reducible rfl)
           (try simp only[aH,ZA,ZB,ZC]);refine wpAnyH_done (by kernel_rfl) ?_ _;have CS:=Zb (Zbz (g0:=w1.heap.size) (Za BZ) (Za ca) (Za gi) (Za MZ) (Za db) (Za dg) (Za dd) (Za dh));obtain⟨Y,hY⟩:=ZG (WZ.setCell ⟨qc,0,none⟩ (F sa qa cs));rw[<-hY] at CS ⊢;have cb:=Zb ((Za KS) Y (Za CS).1);clear hY z KS AP z6 du dv BZ ca MZ db dg dd dh;by_cases ey:y=0
           ·subst ey;have cp:=Eb (Za dw);have gs:=Zb (D9 (Za dw)).2.1;have fd:ag<=6:=(by rw[<-(Za dx).1];exact (Y9 (Za bx)).2.1);have fz:qa<=6:=(by rw[<-(Za CS).2.2.2.1.1];exact cp.1);obtain⟨Y2,ih⟩:=ZG (Y);have bn:Hid (ZD Y Y2):=(by rw[ih];exact Below.refl _ _);rw[<-ih];clear ih
            have fc:k+1=pz:=by
             have e:=Za HI;by_cases q:k+1<pz
             ·rw[Nat.mod_eq_of_lt q] at e;omega
             ·omega
            have gl:Hid (Q6 T (S.set i s) pz (k+1) bi):=by show Q6 _ _ _ _ _;rw[fc];exact Ziq
            have gq:Hid (W6 ht r T N (pz - (k+1)) (k+1) M (S.set i s)=(x,C',S')):=by
             have e:=Za bj;rw[if_neg (Za jn),if_neg (by decide)] at e;exact e
            clear cp fz fd fc bj;have cy:=Zb (Ze (Za CS).1 (Za bn));have eo:=Zb ((Za CS).2.1.later (Za bn));have er:=Zb ((Za CS).2.2.2.1.later (Za bn));have bq:=Zb ((Za gw).later (Za cy));have UO:Hid (UsOk 130 w1.heap.size pz Y2):=by have:=(Za bq).ok;rw[Za dy] at this;exact this
            have df:Hid (∀ U,Gr Y2 U (λq=>q=w1.heap.size)->UsOk 130 w1.heap.size pz U->Gr Y2 U (λq=>q=w1.heap.size)/\U.cell? ⟨qc,0,none⟩=some (F sa qa cs)/\UsOk 130 w1.heap.size pz U):=λU hg ho=>
             have hb:=((Za bn).block _ (aA (Za CS).2.2.2.2.2.2)).trans (Za CS).2.2.2.2.2.2
             ⟨hg,Zd ((hg.block qc (aA hb) (Za CS).2.2.2.2.2.1).trans hb) 0 _ rfl,ho⟩
            obtain⟨zz,z6⟩:=(Za UO).cell fb;have du:=(Za UO).free i;have dv:=(Za UO).lt;go_wp2_with fail;refine wp_region_held_drew (S:=λU=>Gr Y2 U (λq=>q=w1.heap.size)/\U.cell? ⟨qc,0,none⟩=some (F sa qa cs)/\UsOk 130 w1.heap.size pz U) (by kernel_rfl) ((Za df) _ (Gr.refl _ _).draw ((Za UO).later (Zh _))) (λz=>?_);refine Zt 0 ⟨some 118,.move (.tmp 13),79, "second.go:281",#[⟨4,.gcOnly .lateStores⟩],none⟩ ?_ rfl ?_ z ?_;rotate_left
            ·(intro W O;go_simp;first|done|with_reducible rfl)
            (try simp only[aH,ZA,ZB,ZC]);refine Zt 1 ⟨some 119,.move (.tmp 18),3, "second.go:281",#[⟨4,.gcOnly .lateStores⟩],none⟩ ?_ rfl ?_ z ?_;rotate_left
            ·(intro W O;go_simp;first|done|with_reducible rfl)
            (try simp only[aH,ZA,ZB,ZC]);refine Zt 2 ⟨some 120,.move (.tmp 22),29, "second.go:281",#[],none⟩ ?_ rfl ?_ z ?_;rotate_left
            ·(intro W O;go_simp;first|done|with_reducible rfl)
            (try simp only[aH,ZA,ZB,ZC]);refine Zt 3 ⟨some 121,.load 130 (.tmp 23),130, "second.go:281",#[⟨4,.gcOnly .lateStores⟩],none⟩ ?_ rfl ?_ z ?_;rotate_left
            ·(intro W O;go_simp;first|done|with_reducible rfl)
            (try simp only[aH,ZA,ZB,ZC]);refine Zt 4 ⟨some 1,.assign (.tmp 120),29, "second.go:281",#[⟨2,.data⟩,⟨0,.textOnly .lateStores⟩,⟨1,.textOnly .lateStores⟩,⟨2,.phase⟩,⟨3,.textOnly .lateStores⟩],none⟩ ?_ rfl ?_ z ?_;rotate_left
            ·(intro W O;go_simp;first|done|with_reducible rfl)
            (try simp only[aH,ZA,ZB,ZC]);refine Zt 5 ⟨some 122,.indexAddr 79 (.tmp 118) (.tmp 119),0, "second.go:281",#[⟨0,.data⟩,⟨1,.data⟩,⟨0,.phase⟩,⟨1,.phase⟩,⟨2,.phase⟩,⟨3,.phase⟩,⟨4,.phase⟩],none⟩ ?_ rfl ?_ z ?_;rotate_left
            ·(intro W O;go_simp;first|done|with_reducible rfl)
            (try simp only[aH,ZA,ZB,ZC]);refine bJ (rs:=[6]) (by kernel_rfl) (by simp) ?_;refine AllReadyH.cons (o:=⟨none,.store 130 (.tmp 122) (.tmp 121),0, "second.go:281",#[⟨5,.data⟩,⟨3,.data⟩,⟨4,.chain⟩,⟨0,.phase⟩,⟨1,.phase⟩,⟨2,.phase⟩,⟨3,.phase⟩,⟨4,.phase⟩],none⟩) rfl (λK hK=>?_) AllReadyH.nil;go_simp;refine hK.out _ _ ((Za df) _ ((Gr.refl Y2 (λq=>q=w1.heap.size)).draw.one w1.heap.size i (.inl rfl) _) (UsOk.put ((Za UO).later (Zh _)) i _ _ _)) (λad=>?_);clear hK K z;have z:=ad;clear ad;(try simp only[aH,ZA,ZB,ZC]);refine wpAnyH_done (by kernel_rfl) ?_ _;clear z df z6 du dv;have bo:=Zb (Zh Y2);have cn:=Zb (((Za bq).later (Za bo)).put i ((Za er).later (Za bo)) (Za CS).2.2.2.2.1);have ep:=Zb (W7 ((Za eo).later (Za bo)) ((Za UO).later (Za bo)) ((Gr.refl Y2.drew (λq=>q=w1.heap.size)).one w1.heap.size i (.inl rfl) (F sa qa cs)));have el:=Zb ((((Za en).trans (Gr.of (Za cy))).draw).one w1.heap.size i (.inl rfl) (F sa qa cs));have gu:Hid ((S.set i s).length=pz):=(by show _=_;rw[dB];exact Za dy);obtain⟨Q,hQ⟩:=ZG (Y2.drew.setCell ⟨w1.heap.size,i,none⟩ (F sa qa cs));rw[<-hQ] at ep cn el
            (first|rw[<-hQ]|(rw[show (Y2.setCell ⟨w1.heap.size,i,none⟩ (F sa qa cs)).drew=Q from hQ.symm]))
            have gz:=Zb (Za CS).2.2.1;clear hQ bo eo er bq UO CS cb cy bn;go_wp2;go_roundw
            case rel=>exact⟨k+1,am,cl,qh,M,S.set i s,bi,by omega,rfl,rfl,by go_num,(⟨Za ep,Za gz,Za gs⟩:CoinsAt Q am cl M/\SlOk am cl qh/\Zy M),cn,gu,gl,gq,el⟩
            case measure=>simp[intOf];omega
           ·have g:(y != 0)=true:=(by simp[ey]);have cm:Hid ((y,([]:List Zf),([]:List (List Zf)))=(x,C',S')):=(by have e:=Za bj;rw[if_neg (Za jn),if_pos ey] at e;exact e);have de:=Zb (Ze (Za ej) (Ze ((Za fh) V2 (Za en)) (Za CS).1));clear CS cb bj;go_wp2;(try simp only[aO,Exit.then]);refine aR (v:=dY #[F none 0 0,F none 0 0,.int .i64 y]) ?_ rfl (Rx (Za cm) (Za de));simp[results,Tryz.f41,go_sem]
      ·first
       | (exfalso;omega)
       |skip
        have pe:(0:Int)<(i:Int):=(by omega);have gi:=Zb jt;have dc:=HO;have gw:=HU;have en:=HG;have gn:=ji;have fk:=dx
        have AP:Hid (∀ U,ZD wr U->Calls Tryz.prog 60 #[F oa bc qd,.agg #[.int .i64 t1,F ai qe qf,F ao ag co],.int .i64 nm,.int .i64 ht] U λe w'=>ApR U w' y M s e):=λU hb=>
         Lo oa bc qd C t1 ai ao qe qf ag co I qb nm ht y M s U ((Za dc).1.later hb) (Za dc).2.1 ((Za gn).later hb) ((Za fk).later hb) (Za dc).2.2 (Za bx) (Za dw)
        have KS:Hid (∀ U,ZD wr U->ZD wr U/\U.cell? ⟨w.heap.size,1,none⟩=some (.int .i64 ht)/\U.cell? ⟨w.heap.size,4,none⟩=some (F (some ⟨tb,aj,none⟩) pz c)/\U.cell? ⟨tb,aj+i*3,none⟩=some (.int .i64 t1)/\U.cell? ⟨tb,aj+i*3+1,none⟩=some (F ai qe qf)/\U.cell? ⟨tb,aj+i*3+2,none⟩=some (F ao ag co)/\U.cell? ⟨nb,no+i,none⟩=some (.int .i64 nm)):=λU hb=>
         ⟨hb,Zc hb v1,Zc hb v4,Zc hb c0,Zc hb c1,Zc hb c2,Zc hb c4⟩
        clear c0 c1 c2 c4 v1 v4;go_wp2_with fail;refine wp_region_held_drew (S:=λU=>ZD wr U/\U.cell? ⟨w.heap.size,1,none⟩=some (.int .i64 ht)/\U.cell? ⟨w.heap.size,4,none⟩=some (F (some ⟨tb,aj,none⟩) pz c)/\U.cell? ⟨tb,aj+i*3,none⟩=some (.int .i64 t1)/\U.cell? ⟨tb,aj+i*3+1,none⟩=some (F ai qe qf)/\U.cell? ⟨tb,aj+i*3+2,none⟩=some (F ao ag co)/\U.cell? ⟨nb,no+i,none⟩=some (.int .i64 nm)) (by kernel_rfl) ((Za KS) _ (Zh _)) (λz=>?_);refine Zt 0 ⟨some 87,.move (.tmp 1),29, "second.go:274",#[],none⟩ ?_ rfl ?_ z ?_;rotate_left
        ·(intro W O;go_simp;first|done|with_reducible rfl)
        (try simp only[aH,ZA,ZB,ZC]);refine Zt 1 ⟨some 88,.fieldAddr 68 (.tmp 5) 4,0, "second.go:274",#[],none⟩ ?_ rfl ?_ z ?_;rotate_left
        ·(intro W O;go_simp;first|done|with_reducible rfl)
        (try simp only[aH,ZA,ZB,ZC]);refine Zt 2 ⟨some 89,.load 48 (.tmp 88),48, "second.go:274",#[⟨1,.data⟩],none⟩ ?_ rfl ?_ z ?_;rotate_left
        ·(intro W O;go_simp;first|done|with_reducible rfl)
        (try simp only[aH,ZA,ZB,ZC]);refine Zt 3 ⟨some 90,.move (.tmp 18),3, "second.go:274",#[],none⟩ ?_ rfl ?_ z ?_;rotate_left
        ·(intro W O;go_simp;first|done|with_reducible rfl)
        (try simp only[aH,ZA,ZB,ZC]);refine Zt 4 ⟨some 91,.indexAddr 48 (.tmp 89) (.tmp 90),0, "second.go:274",#[⟨2,.data⟩,⟨3,.data⟩],none⟩ ?_ rfl ?_ z ?_;rotate_left
        ·(intro W O;go_simp;first|done|with_reducible rfl)
        (try simp only[aH,ZA,ZB,ZC]);refine Zt 5 ⟨some 92,.load 52 (.tmp 91),52, "second.go:274",#[⟨4,.data⟩],none⟩ ?_ rfl ?_ z ?_;rotate_left
        ·(intro W O;go_simp;first|done|with_reducible rfl)
        (try simp only[aH,ZA,ZB,ZC]);refine Zt 6 ⟨some 93,.move (.tmp 11),25, "second.go:274",#[],none⟩ ?_ rfl ?_ z ?_;rotate_left
        ·(intro W O;go_simp;first|done|with_reducible rfl)
        (try simp only[aH,ZA,ZB,ZC]);refine Zt 7 ⟨some 94,.move (.tmp 18),3, "second.go:274",#[],none⟩ ?_ rfl ?_ z ?_;rotate_left
        ·(intro W O;go_simp;first|done|with_reducible rfl)
        (try simp only[aH,ZA,ZB,ZC]);refine Zt 8 ⟨some 95,.indexAddr 25 (.tmp 93) (.tmp 94),0, "second.go:274",#[⟨6,.data⟩,⟨7,.data⟩],none⟩ ?_ rfl ?_ z ?_;rotate_left
        ·(intro W O;go_simp;first|done|with_reducible rfl)
        (try simp only[aH,ZA,ZB,ZC]);refine Zt 9 ⟨some 96,.load 3 (.tmp 95),3, "second.go:274",#[⟨8,.data⟩],none⟩ ?_ rfl ?_ z ?_;rotate_left
        ·(intro W O;go_simp;first|done|with_reducible rfl)
        (try simp only[aH,ZA,ZB,ZC]);refine Zt 10 ⟨some 97,.fieldAddr 68 (.tmp 5) 1,0, "second.go:274",#[],none⟩ ?_ rfl ?_ z ?_;rotate_left
        ·(intro W O;go_simp;first|done|with_reducible rfl)
        (try simp only[aH,ZA,ZB,ZC]);refine Zt 11 ⟨some 98,.load 3 (.tmp 97),3, "second.go:274",#[⟨10,.data⟩],none⟩ ?_ rfl ?_ z ?_;rotate_left
        ·(intro W O;go_simp;first|done|with_reducible rfl)
        (try simp only[aH,ZA,ZB,ZC]);refine bJ (rs:=[12,17]) (by kernel_rfl) (by simp) ?_;refine AllReadyH.cons (o:=⟨some 99,.call { callee:=Callee.value (.func 60),args:=#[.tmp 87,.tmp 92,.tmp 96,.tmp 98],argTypes:=#[29,52,3,3] },131, "second.go:274",#[⟨0,.data⟩,⟨5,.data⟩,⟨9,.data⟩,⟨11,.data⟩],none⟩) rfl (λK hK=>?_) (AllReadyH.cons (o:=⟨some 23,.alloc 130,0, "second.go:274",#[],none⟩) rfl (λK hK=>?_) AllReadyH.nil)
        focus
         refine Vj (by kernel_rfl) 60 #[F oa bc qd,.agg #[.int .i64 t1,F ai qe qf,F ao ag co],.int .i64 nm,.int .i64 ht] (by kernel_rfl) ((Za AP) _ z.1) ?_;rintro e w6 ⟨am,cl,qh,sa,qa,cs,rfl,br,bv,bs,bw,be⟩;refine⟨_,rfl,?_⟩;have av:=Zb (Ze z.1 be);have eq:=Zb br;have es:=Zb bs;have dg:=Zb bv;have dh:=Zb bw;clear br bs bv bw be;refine hK.out _ _ ((Za KS) _ (Za av)) (λad=>?_);clear hK K z;have z:=ad;clear ad;(try simp only[aH,ZA,ZB,ZC]);refine Zt 13 ⟨some 86,.move (.tmp 99),131, "second.go:274",#[⟨12,.data⟩],none⟩ ?_ rfl ?_ z ?_;rotate_left
         ·(intro W O;go_simp;first|done|with_reducible rfl)
         (try simp only[aH,ZA,ZB,ZC]);refine Zt 14 ⟨some 100,.extract (.tmp 86) 0,29, "second.go:274",#[⟨13,.data⟩],none⟩ ?_ rfl ?_ z ?_;rotate_left
         ·(intro W O;go_simp;first|done|with_reducible rfl)
         (try simp only[aH,ZA,ZB,ZC]);refine Zt 15 ⟨some 101,.extract (.tmp 86) 1,130, "second.go:274",#[⟨13,.data⟩,⟨18,.gcOnly .lateStores⟩],none⟩ ?_ rfl ?_ z ?_;rotate_left
         ·(intro W O;go_simp;first|done|with_reducible rfl)
         (try simp only[aH,ZA,ZB,ZC]);refine Zt 16 ⟨some 102,.extract (.tmp 86) 2,30, "second.go:274",#[⟨13,.data⟩,⟨19,.gcOnly .lateStores⟩],none⟩ ?_ rfl ?_ z ?_;rotate_left
         ·(intro W O;go_simp;first|done|with_reducible rfl)
         (try simp only[aH,ZA,ZB,ZC]);refine bJ (rs:=[17]) (by kernel_rfl) (by simp) ?_;refine AllReadyH.cons (o:=⟨some 23,.alloc 130,0, "second.go:274",#[],none⟩) rfl (λK hK=>?_) AllReadyH.nil;go_simp;obtain⟨WZ,ci⟩:=ZG (w6.alloc (dW #[F none 0 0] 130));rw[<-ci];obtain⟨qc,ar⟩:=ZG (w6.heap.size);have MZ:Hid (WZ.heap[qc]? = some (dW [F none 0 0].toArray 130 (0,0))):=(by show _=_;rw[ci,ar];exact aK _ _);have cj:ZD w6 WZ:=(by rw[ci];exact Zg _ _);have BZ:=Zb (Ze (Za av) cj);have db:=Zb ((Za eq).later cj);have dd:=Zb ((Za es).later cj);have ca:Hid (wr.heap.size<=qc):=(by show _<=_;rw[ar];exact (Za av).size);rw[<-ar];clear cj ci ar av eq es;refine hK.out _ _ ((Za KS) _ (Za BZ)) (λad=>?_);clear hK K z;have z:=ad;clear ad
        rotate_left
        focus
         go_simp;obtain⟨WA,bt⟩:=ZG (wr.drew.alloc (dW #[F none 0 0] 130))
         (first|rw[<-bt]|(rw[show (wr.alloc (dW #[F none 0 0] 130)).drew=WA from bt.symm]))
         have ez:ZD wr WA:=(by rw[bt];exact Ze (Zh wr) (Zg _ _));obtain⟨qc,ar⟩:=ZG (wr.heap.size);have MA:Hid (WA.heap[qc]? = some (dW [F none 0 0].toArray 130 (0,0))):=(by show _=_;rw[bt,ar];exact aK wr.drew _);have ca:Hid (wr.heap.size<=qc):=(by show _<=_;rw[ar];exact aE _);rw[<-ar];have cx:=Zb ez;clear bt ar ez;refine hK.out _ _ ((Za KS) _ (Za cx)) (λad=>?_);clear hK K z;have z:=ad;clear ad;(try simp only[aH,ZA,ZB,ZC]);refine bJ (rs:=[12]) (by kernel_rfl) (by simp) ?_;refine AllReadyH.cons (o:=⟨some 99,.call { callee:=Callee.value (.func 60),args:=#[.tmp 87,.tmp 92,.tmp 96,.tmp 98],argTypes:=#[29,52,3,3] },131, "second.go:274",#[⟨0,.data⟩,⟨5,.data⟩,⟨9,.data⟩,⟨11,.data⟩],none⟩) rfl (λK hK=>?_) AllReadyH.nil;refine Vj (by kernel_rfl) 60 #[F oa bc qd,.agg #[.int .i64 t1,F ai qe qf,F ao ag co],.int .i64 nm,.int .i64 ht] (by kernel_rfl) ((Za AP) _ z.1) ?_;rintro e WZ ⟨am,cl,qh,sa,qa,cs,rfl,br,bv,bs,bw,be⟩;refine⟨_,rfl,?_⟩;have BZ:=Zb (Ze (Za cx) be);have db:=Zb br;have dd:=Zb bs;have dg:=Zb bv;have dh:=Zb bw;have MZ:=Zb (ZE be (Za MA));clear br bs bv bw be MA cx;refine hK.out _ _ ((Za KS) _ (Za BZ)) (λad=>?_);clear hK K z;have z:=ad;clear ad;(try simp only[aH,ZA,ZB,ZC]);refine Zt 13 ⟨some 86,.move (.tmp 99),131, "second.go:274",#[⟨12,.data⟩],none⟩ ?_ rfl ?_ z ?_;rotate_left
         ·(intro W O;go_simp;first|done|with_reducible rfl)
         (try simp only[aH,ZA,ZB,ZC]);refine Zt 14 ⟨some 100,.extract (.tmp 86) 0,29, "second.go:274",#[⟨13,.data⟩],none⟩ ?_ rfl ?_ z ?_;rotate_left
         ·(intro W O;go_simp;first|done|with_reducible rfl)
         (try simp only[aH,ZA,ZB,ZC]);refine Zt 15 ⟨some 101,.extract (.tmp 86) 1,130, "second.go:274",#[⟨13,.data⟩,⟨18,.gcOnly .lateStores⟩],none⟩ ?_ rfl ?_ z ?_;rotate_left
         ·(intro W O;go_simp;first|done|with_reducible rfl)
         (try simp only[aH,ZA,ZB,ZC]);refine Zt 16 ⟨some 102,.extract (.tmp 86) 2,30, "second.go:274",#[⟨13,.data⟩,⟨19,.gcOnly .lateStores⟩],none⟩ ?_ rfl ?_ z ?_;rotate_left
         ·(intro W O;go_simp;first|done|with_reducible rfl)
        all_goals
         (try simp only[aH,ZA,ZB,ZC]);refine Zt 18 ⟨some 22,.assign (.tmp 100),29, "second.go:274",#[⟨14,.data⟩,⟨12,.chain⟩,⟨0,.phase⟩,⟨1,.phase⟩,⟨2,.phase⟩,⟨3,.phase⟩,⟨4,.phase⟩,⟨5,.phase⟩,⟨6,.phase⟩,⟨7,.phase⟩,⟨8,.phase⟩,⟨9,.phase⟩,⟨10,.phase⟩,⟨11,.phase⟩,⟨12,.phase⟩,⟨13,.phase⟩,⟨14,.phase⟩,⟨15,.textOnly .lateStores⟩,⟨16,.textOnly .lateStores⟩,⟨17,.phase⟩],none⟩ ?_ rfl ?_ z ?_;rotate_left
         ·(intro W O;go_simp;first|done|with_reducible rfl)
         (try simp only[aH,ZA,ZB,ZC]);have z6:=Zd (Za MZ) 0 _ rfl;have du:=Zi (Za MZ) 0;have dv:=aA (Za MZ);refine bJ (rs:=[19]) (by kernel_rfl) (by simp) ?_;refine AllReadyH.cons (o:=⟨none,.store 130 (.tmp 23) (.tmp 101),0, "second.go:274",#[⟨17,.data⟩,⟨15,.data⟩,⟨18,.chain⟩,⟨0,.phase⟩,⟨1,.phase⟩,⟨2,.phase⟩,⟨3,.phase⟩,⟨4,.phase⟩,⟨5,.phase⟩,⟨6,.phase⟩,⟨7,.phase⟩,⟨8,.phase⟩,⟨9,.phase⟩,⟨10,.phase⟩,⟨11,.phase⟩,⟨12,.phase⟩,⟨13,.phase⟩,⟨14,.phase⟩,⟨15,.phase⟩,⟨16,.textOnly .lateStores⟩,⟨17,.phase⟩,⟨18,.phase⟩],none⟩) rfl (λK hK=>?_) AllReadyH.nil;go_simp;refine hK.out _ _ ((Za KS) _ ((Za BZ).setCell (Za ca) _)) (λad=>?_);clear hK K z;have z:=ad;clear ad;(try simp only[aH,ZA,ZB,ZC]);refine Zt 20 ⟨some 24,.assign (.tmp 102),30, "second.go:274",#[⟨16,.data⟩,⟨19,.chain⟩,⟨0,.phase⟩,⟨1,.phase⟩,⟨2,.phase⟩,⟨3,.phase⟩,⟨4,.phase⟩,⟨5,.phase⟩,⟨6,.phase⟩,⟨7,.phase⟩,⟨8,.phase⟩,⟨9,.phase⟩,⟨10,.phase⟩,⟨11,.phase⟩,⟨12,.phase⟩,⟨13,.phase⟩,⟨14,.phase⟩,⟨15,.phase⟩,⟨16,.phase⟩,⟨17,.phase⟩,⟨18,.phase⟩,⟨19,.phase⟩],none⟩ ?_ rfl ?_ z ?_;rotate_left
         ·(intro W O;go_simp;first|done|with_reducible rfl)
         (try simp only[aH,ZA,ZB,ZC]);refine wpAnyH_done (by kernel_rfl) ?_ _;have CS:=Zb (Zbz (g0:=w1.heap.size) (Za BZ) (Za ca) (Za gi) (Za MZ) (Za db) (Za dg) (Za dd) (Za dh));obtain⟨Y,hY⟩:=ZG (WZ.setCell ⟨qc,0,none⟩ (F sa qa cs));rw[<-hY] at CS ⊢;have cb:=Zb ((Za KS) Y (Za CS).1);clear hY z KS AP z6 du dv BZ ca MZ db dg dd dh;by_cases ey:y=0
         ·subst ey;have cp:=Eb (Za dw);have gs:=Zb (D9 (Za dw)).2.1;have fd:ag<=6:=(by rw[<-(Za dx).1];exact (Y9 (Za bx)).2.1);have fz:qa<=6:=(by rw[<-(Za CS).2.2.2.1.1];exact cp.1);obtain⟨f,hf⟩:=ZF (Yg s - Ys qb)
          have nf : -6000000000<=f/\f<=6000000000:=by
           have q1:=Zjv cp.1 cp.2;have q2:=Es (Y9 (Za bx)).2.1 (Rl (Za bx));simp only at q2;omega
          have id:=Zgg (Za HF) ed io;have hw:IntKind.i64.wrap (bi+f)=bi+f:=by rw[bF];omega
          have fy:k+1=i:=by
           have e:=Za HI;by_cases q:k+1<pz
           ·rw[Nat.mod_eq_of_lt q] at e;exact e
           ·rw[show k+1=pz by omega,Nat.mod_self] at e;omega
          have gl:Hid (Q6 T (S.set i s) pz (k+1) (bi+f)):=by
           have q:=Zip (s:=s) (Za HF) (by omega) (Za ZT) (Za dy) (t:=(t1,I,qb)) (by rw[fy];exact Za gv) (by simp only;omega) (by simp only;omega);rw[fy] at q;simp only at q;rw[hf] at q;show Q6 _ _ _ _ _;rw[fy];exact q
          have gq:Hid (W6 ht r T N (pz - (k+1)) (k+1) M (S.set i s)=(x,C',S')):=by
           have e:=Za bj;rw[if_neg (λq=>dq q.1),if_neg (by decide)] at e;exact e
          have FE:Hid (∀ U,ZD Y U->Calls Tryz.prog 61 #[.agg #[.int .i64 t1,F ai qe qf,F ao ag co],F sa qa cs] U λe w'=>e = dX (.int .i64 f)/\ZD U w'):=λU hb=>
           Zfk sa qa cs s t1 ai ao qe qf ag co qb f U fz fd ((Za CS).2.2.2.1.later hb) ((Za fk).later (Ze (Za CS).1 hb)) cp.2 (Rl (Za bx)) hf
          have gy:Hid (∀ U,ZD Y U->ZD Y U/\U.cell? ⟨w.heap.size,4,none⟩=some (F (some ⟨tb,aj,none⟩) pz c)/\U.cell? ⟨tb,aj+i*3,none⟩=some (.int .i64 t1)/\U.cell? ⟨tb,aj+i*3+1,none⟩=some (F ai qe qf)/\U.cell? ⟨tb,aj+i*3+2,none⟩=some (F ao ag co)/\U.cell? ⟨qc,0,none⟩=some (F sa qa cs)):=λU hb=>
           ⟨hb,Zc hb (Za cb).2.2.1,Zc hb (Za cb).2.2.2.1,Zc hb (Za cb).2.2.2.2.1,Zc hb (Za cb).2.2.2.2.2.1,Zc hb (Zd (Za CS).2.2.2.2.2.2 0 _ rfl)⟩
          clear cp fz fd id nf fy bj hf;go_wp2_with fail;refine wp_region_held_drew (S:=λU=>ZD Y U/\U.cell? ⟨w.heap.size,4,none⟩=some (F (some ⟨tb,aj,none⟩) pz c)/\U.cell? ⟨tb,aj+i*3,none⟩=some (.int .i64 t1)/\U.cell? ⟨tb,aj+i*3+1,none⟩=some (F ai qe qf)/\U.cell? ⟨tb,aj+i*3+2,none⟩=some (F ao ag co)/\U.cell? ⟨qc,0,none⟩=some (F sa qa cs)) (by kernel_rfl) ((Za gy) _ (Zh _)) (λz=>?_);refine Zt 0 ⟨some 108,.move (.tmp 14),3, "second.go:279",#[],none⟩ ?_ rfl ?_ z ?_;rotate_left
          ·(intro W O;go_simp;first|done|with_reducible rfl)
          (try simp only[aH,ZA,ZB,ZC]);refine Zt 1 ⟨some 109,.fieldAddr 68 (.tmp 5) 4,0, "second.go:279",#[],none⟩ ?_ rfl ?_ z ?_;rotate_left
          ·(intro W O;go_simp;first|done|with_reducible rfl)
          (try simp only[aH,ZA,ZB,ZC]);refine Zt 2 ⟨some 110,.load 48 (.tmp 109),48, "second.go:279",#[⟨1,.data⟩],none⟩ ?_ rfl ?_ z ?_;rotate_left
          ·(intro W O;go_simp;first|done|with_reducible rfl)
          (try simp only[aH,ZA,ZB,ZC]);refine Zt 3 ⟨some 111,.move (.tmp 18),3, "second.go:279",#[],none⟩ ?_ rfl ?_ z ?_;rotate_left
          ·(intro W O;go_simp;first|done|with_reducible rfl)
          (try simp only[aH,ZA,ZB,ZC]);refine Zt 4 ⟨some 112,.indexAddr 48 (.tmp 110) (.tmp 111),0, "second.go:279",#[⟨2,.data⟩,⟨3,.data⟩],none⟩ ?_ rfl ?_ z ?_;rotate_left
          ·(intro W O;go_simp;first|done|with_reducible rfl)
          (try simp only[aH,ZA,ZB,ZC]);refine Zt 5 ⟨some 113,.load 52 (.tmp 112),52, "second.go:279",#[⟨4,.data⟩],none⟩ ?_ rfl ?_ z ?_;rotate_left
          ·(intro W O;go_simp;first|done|with_reducible rfl)
          (try simp only[aH,ZA,ZB,ZC]);refine Zt 6 ⟨some 114,.fieldAddr 130 (.tmp 23) 0,0, "second.go:279",#[],none⟩ ?_ rfl ?_ z ?_;rotate_left
          ·(intro W O;go_simp;first|done|with_reducible rfl)
          (try simp only[aH,ZA,ZB,ZC]);refine Zt 7 ⟨some 115,.load 29 (.tmp 114),29, "second.go:279",#[⟨6,.data⟩],none⟩ ?_ rfl ?_ z ?_;rotate_left
          ·(intro W O;go_simp;first|done|with_reducible rfl)
          (try simp only[aH,ZA,ZB,ZC]);refine bJ (rs:=[8]) (by kernel_rfl) (by simp) ?_;refine AllReadyH.cons (o:=⟨some 116,.call { callee:=Callee.value (.func 61),args:=#[.tmp 113,.tmp 115],argTypes:=#[52,29] },3, "second.go:279",#[⟨5,.data⟩,⟨7,.data⟩],none⟩) rfl (λK hK=>?_) AllReadyH.nil;refine Vj (by kernel_rfl) 61 #[.agg #[.int .i64 t1,F ai qe qf,F ao ag co],F sa qa cs] (by kernel_rfl) ((Za FE) _ z.1) ?_;rintro e Y2 ⟨rfl,be⟩;refine⟨_,rfl,?_⟩;have bn:=Zb (Ze z.1 be);clear be;refine hK.out _ _ ((Za gy) _ (Za bn)) (λad=>?_);clear hK K z;have z:=ad;clear ad;(try simp only[aH,ZA,ZB,ZC]);refine Zt 9 ⟨some 117,.binOp BinOp.add 3 (.tmp 108) (.tmp 116) 3,3, "second.go:279",#[⟨0,.data⟩,⟨8,.data⟩],none⟩ ?_ rfl ?_ z ?_;rotate_left
          ·(intro W O;go_simp;first|done|with_reducible rfl)
          (try simp only[aH,ZA,ZB,ZC]);refine Zt 10 ⟨some 14,.assign (.tmp 117),3, "second.go:279",#[⟨9,.data⟩,⟨8,.chain⟩,⟨0,.phase⟩,⟨1,.phase⟩,⟨2,.phase⟩,⟨3,.phase⟩,⟨4,.phase⟩,⟨5,.phase⟩,⟨6,.phase⟩,⟨7,.phase⟩,⟨8,.phase⟩,⟨9,.phase⟩],none⟩ ?_ rfl ?_ z ?_;rotate_left
          ·(intro W O;go_simp;first|done|with_reducible rfl)
          (try simp only[aH,ZA,ZB,ZC]);refine wpAnyH_done (by kernel_rfl) ?_ _;clear z gy FE;have cy:=Zb (Ze (Za CS).1 (Za bn));have eo:=Zb ((Za CS).2.1.later (Za bn));have er:=Zb ((Za CS).2.2.2.1.later (Za bn));have bq:=Zb ((Za gw).later (Za cy));have UO:Hid (UsOk 130 w1.heap.size pz Y2):=by have:=(Za bq).ok;rw[Za dy] at this;exact this
          have df:Hid (∀ U,Gr Y2 U (λq=>q=w1.heap.size)->UsOk 130 w1.heap.size pz U->Gr Y2 U (λq=>q=w1.heap.size)/\U.cell? ⟨qc,0,none⟩=some (F sa qa cs)/\UsOk 130 w1.heap.size pz U):=λU hg ho=>
           have hb:=((Za bn).block _ (aA (Za CS).2.2.2.2.2.2)).trans (Za CS).2.2.2.2.2.2
           ⟨hg,Zd ((hg.block qc (aA hb) (Za CS).2.2.2.2.2.1).trans hb) 0 _ rfl,ho⟩
          obtain⟨zz,z6⟩:=(Za UO).cell fb;have du:=(Za UO).free i;have dv:=(Za UO).lt;go_wp2_with fail;refine wp_region_held_drew (S:=λU=>Gr Y2 U (λq=>q=w1.heap.size)/\U.cell? ⟨qc,0,none⟩=some (F sa qa cs)/\UsOk 130 w1.heap.size pz U) (by kernel_rfl) ((Za df) _ (Gr.refl _ _).draw ((Za UO).later (Zh _))) (λz=>?_);refine Zt 0 ⟨some 118,.move (.tmp 13),79, "second.go:281",#[⟨4,.gcOnly .lateStores⟩],none⟩ ?_ rfl ?_ z ?_;rotate_left
          ·(intro W O;go_simp;first|done|with_reducible rfl)
          (try simp only[aH,ZA,ZB,ZC]);refine Zt 1 ⟨some 119,.move (.tmp 18),3, "second.go:281",#[⟨4,.gcOnly .lateStores⟩],none⟩ ?_ rfl ?_ z ?_;rotate_left
          ·(intro W O;go_simp;first|done|with_reducible rfl)
          (try simp only[aH,ZA,ZB,ZC]);refine Zt 2 ⟨some 120,.move (.tmp 22),29, "second.go:281",#[],none⟩ ?_ rfl ?_ z ?_;rotate_left
          ·(intro W O;go_simp;first|done|with_reducible rfl)
          (try simp only[aH,ZA,ZB,ZC]);refine Zt 3 ⟨some 121,.load 130 (.tmp 23),130, "second.go:281",#[⟨4,.gcOnly .lateStores⟩],none⟩ ?_ rfl ?_ z ?_;rotate_left
          ·(intro W O;go_simp;first|done|with_reducible rfl)
          (try simp only[aH,ZA,ZB,ZC]);refine Zt 4 ⟨some 1,.assign (.tmp 120),29, "second.go:281",#[⟨2,.data⟩,⟨0,.textOnly .lateStores⟩,⟨1,.textOnly .lateStores⟩,⟨2,.phase⟩,⟨3,.textOnly .lateStores⟩],none⟩ ?_ rfl ?_ z ?_;rotate_left
          ·(intro W O;go_simp;first|done|with_reducible rfl)
          (try simp only[aH,ZA,ZB,ZC]);refine Zt 5 ⟨some 122,.indexAddr 79 (.tmp 118) (.tmp 119),0, "second.go:281",#[⟨0,.data⟩,⟨1,.data⟩,⟨0,.phase⟩,⟨1,.phase⟩,⟨2,.phase⟩,⟨3,.phase⟩,⟨4,.phase⟩],none⟩ ?_ rfl ?_ z ?_;rotate_left
          ·(intro W O;go_simp;first|done|with_reducible rfl)
          (try simp only[aH,ZA,ZB,ZC]);refine bJ (rs:=[6]) (by kernel_rfl) (by simp) ?_;refine AllReadyH.cons (o:=⟨none,.store 130 (.tmp 122) (.tmp 121),0, "second.go:281",#[⟨5,.data⟩,⟨3,.data⟩,⟨4,.chain⟩,⟨0,.phase⟩,⟨1,.phase⟩,⟨2,.phase⟩,⟨3,.phase⟩,⟨4,.phase⟩],none⟩) rfl (λK hK=>?_) AllReadyH.nil;go_simp;refine hK.out _ _ ((Za df) _ ((Gr.refl Y2 (λq=>q=w1.heap.size)).draw.one w1.heap.size i (.inl rfl) _) (UsOk.put ((Za UO).later (Zh _)) i _ _ _)) (λad=>?_);clear hK K z;have z:=ad;clear ad;(try simp only[aH,ZA,ZB,ZC]);refine wpAnyH_done (by kernel_rfl) ?_ _;clear z df z6 du dv;have bo:=Zb (Zh Y2);have cn:=Zb (((Za bq).later (Za bo)).put i ((Za er).later (Za bo)) (Za CS).2.2.2.2.1);have ep:=Zb (W7 ((Za eo).later (Za bo)) ((Za UO).later (Za bo)) ((Gr.refl Y2.drew (λq=>q=w1.heap.size)).one w1.heap.size i (.inl rfl) (F sa qa cs)));have el:=Zb ((((Za en).trans (Gr.of (Za cy))).draw).one w1.heap.size i (.inl rfl) (F sa qa cs));have gu:Hid ((S.set i s).length=pz):=(by show _=_;rw[dB];exact Za dy);obtain⟨Q,hQ⟩:=ZG (Y2.drew.setCell ⟨w1.heap.size,i,none⟩ (F sa qa cs));rw[<-hQ] at ep cn el
          (first|rw[<-hQ]|(rw[show (Y2.setCell ⟨w1.heap.size,i,none⟩ (F sa qa cs)).drew=Q from hQ.symm]))
          have gz:=Zb (Za CS).2.2.1;clear hQ bo eo er bq UO CS cb cy bn;go_wp2;go_roundw
          case rel=>exact⟨k+1,am,cl,qh,M,S.set i s,bi+f,by omega,rfl,rfl,by go_num,(⟨Za ep,Za gz,Za gs⟩:CoinsAt Q am cl M/\SlOk am cl qh/\Zy M),cn,gu,gl,gq,el⟩
          case measure=>simp[intOf];omega
         ·have g:(y != 0)=true:=(by simp[ey]);have cm:Hid ((y,([]:List Zf),([]:List (List Zf)))=(x,C',S')):=(by have e:=Za bj;rw[if_neg (λq=>dq q.1),if_pos ey] at e;exact e);have de:=Zb (Ze (Za ej) (Ze ((Za fh) wr (Za en)) (Za CS).1));clear CS cb bj;go_wp2;(try simp only[aO,Exit.then]);refine aR (v:=dY #[F none 0 0,F none 0 0,.int .i64 y]) ?_ rfl (Rx (Za cm) (Za de));simp[results,Tryz.f41,go_sem]
     ·have nj:m=k:=(by omega);subst nj;have cm:Hid ((0,C,S)=(x,C',S')):=(by have e:=Za HQ;rw[Nat.sub_self] at e;exact e);have de:=Zb (Ze (Za ej) (Ze (Za fg) ((Za GB) wr (Za HG))));have kv:UndosAt wr (some ⟨w1.heap.size,0,none⟩) m S:=by have q:=(Za HU).undos;rw[Za dy] at q;exact q
      have ls:Hid (Znn w wr x C' S' (dX (dY #[F oa bc qd,F (some ⟨w1.heap.size,0,none⟩) m m,.int .i64 0]))):=by
       obtain⟨e1,e2⟩:=Prod.mk.inj (Za cm);obtain⟨e2,e3⟩:=Prod.mk.inj e2;subst e1 e2 e3;exact⟨oa,bc,qd,some ⟨w1.heap.size,0,none⟩,m,m,rfl,(Za HO).1,(Za HO).2.1,kv,⟨aE _,by unfold cD;omega,λh=>by cases h⟩,Za de,λqr e=>by cases e;exact aT (Za ej).size (Za fg).size⟩
      clear HQ ed kv cm;go_wp2;(try simp only[aO,Exit.then]);refine aR (v:=dY #[F oa bc qd,F (some ⟨w1.heap.size,0,none⟩) m m,.int .i64 0]) ?_ rfl (Za ls);simp[results,Tryz.f41,go_sem]
