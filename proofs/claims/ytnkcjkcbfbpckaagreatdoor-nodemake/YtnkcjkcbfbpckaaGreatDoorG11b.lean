import Derived.Test.YtnkcjkcbfbpckaaGreatDoorH
import Derived.Test.YtnkcjkcbfbpckaaGreatDoorG11
open Option renaming none->aD,some->dJ
open Go.Proofs.Tryz
open Bool renaming and_eq_true->aX
open Go renaming wp_loop_rounds->bC,rounds_succ->aU,heap_alloc_new->aM,maxLen->aS,info_parts->cB,TypeId->aZ,lt_of_block->aA,bodyPost_ret->aG,wp_region_held_drew->bH,wpAnyH_done->cJ
open Go.Addr renaming add_lit->cS
open Go.Ending renaming returned->dE
open Go.Exit renaming inBlock->aQ
open Go.IntKind renaming wrap_i64->aP,i64->J
open Go.Obj renaming cells->dC
open Go.Proofs.Tryz renaming prog->aB,underlying44->cL,underlying3->aN
open Go.Value renaming int->aV,int->E,slice->F,tuple->dF,bool->dH
open Go.World renaming block_lt_of_cell?->aC,cell?_alloc_at->bK,news_of_block->bU
open Go.World.ownsRow renaming cellAt->bI
open List renaming length_eq_zero_iff->aJ,length_map->cH,getElem_mem->aT,getElem?_eq_some_iff->cD,length_append->bF,map_append->bM,mem_singleton->cP,length_cons->bX,length_take->aW,mem_append->bN,getD_eq_getElem?_getD->cZ,mem_cons_self->cW
open Nat renaming zero_le->aH,lt_of_lt_of_le->aE,le_refl->aF,zero_add->bW,le_trans->aR
open Option.some renaming injEq->bA
open Prod.mk renaming inj->cC
set_option maxHeartbeats 12800000
set_option maxRecDepth 10000
namespace Go.Proofs.YtnkcjkcbfbpckaaGreatDoor
open Go.RowKit
open Go.RowKit Go.Lib
open Go.RowKit Go.Maps
set_option maxRecDepth 100000 in
theorem Zaj(be)(lens caps cap:Nat)(a)(Z:List Int)(h:Int)(w:World)(hR:RowAt w be lens Z)(hc:be=aD->caps=0)(hZ:Yd Z=true) : Calls aB 169 #[F a 0 cap,F be lens caps,E J h] w λe w'=>∃ a' ab,e = dE (dF #[F a' Z.length ab,dH true])/\RowAt w' a' Z.length Z/\ZD w w'/\(a'=aD->ab=0):=by have ay:lens<=16:=(by rw[<-hR.1];exact (Rw hZ).1);have⟨HR,HC,ac⟩:=kh3 hR hc ((Below.refl w.heap.size w).alloc (aF _) (dC #[] 3));have al:=Zb (HR.later ac);have ak:Hid ((w.alloc (dC #[] 3)).ownsRow w.heap.size 3 1 (F (dJ ⟨w.heap.size,0,aD⟩) 0 0) 0 []):=⟨rfl,.inr ⟨w.heap.size,0,#[],rfl,aF _,aM _ _,aF _,by decide,rfl,rfl⟩⟩;have az:=@run_makeMap aB;go_enter func169,ntmps169;(go_wp2_with (first | (at_builtin;refine Qy rfl _ _ rfl w.heap.size _ _ _ rfl ak be lens caps Z rfl HC al (by omega) ac.size ?_;intro v1 w1 av ar au;have ad:=Ai ac HR.1 av ar au) | (refine Qx _ rfl _ _ _ rfl _ _ _ _ _ _ ad rfl (by omega) _ _ rfl rfl (by decide) (by decide) ?_;intro w2 ax;have ad:=ax)));have af:=Zb (Pro.st ad);obtain⟨a',ab,rfl,aw,aq⟩:=af.rowAt;have⟨aj,am⟩:=kh2 aq aw;refine bC 1 ?_;rw[aU];go_wp2;go_ret2;exact⟨a',ab,rfl,Za am,af.bel,Za aj⟩
open Go.RowKit Go.Maps
theorem At{k c:Int}(h1:1<=k)(h2:k<=13)(aa:TakesD.atKey (.int .i64 k) (.lit (.int .i64 0)) = .lit (.int .i64 c)):c=Ja k:=by rw[Zmc k h1 h2] at aa;cases aa;rfl
theorem Zjt{k n:Int}(h:Xi (k,n)=0):(k=1\/k=2\/k=3\/k=4\/k=5\/k=6\/k=7\/k=8\/k=9\/k=10\/k=11\/k=12\/k=13)/\-1000000<=n/\n<=1000000:=by simp only[Xi] at h;split at h;{cases h};split at h;{cases h};rename_i h1 h2;simp only[not_or,Bool.not_eq_false] at h2;have:=(Xv n).1 h2.2;omega
theorem Tp{h:Int}{l:List (Int×Int)}{Z L}{k:Nat}{q:Int×Int}(hk:k<l.length)(hq:q=l[k])(hr:Xb h (l.take k) Z=dJ L):Xb h (l.take (k+1)) Z=Yk h q.1 q.2 L:=by rw[List.take_succ_eq_append_getElem hk,Uo,hr,<-hq];simp only[Option.bind,Xb];cases Yk h q.1 q.2 L <;> rfl
theorem Qf{h:Int}{l:List (Int×Int)}{Z L}{k:Nat}{q:Int×Int}(hk:k<l.length)(hq:q=l[k])(hr:Xb h (l.take k) Z=dJ L)(hs:Yk h q.1 q.2 L=aD):Xb h l Z=aD:=by rw[<-List.take_append_drop (k+1) l,Uo,Tp hk hq hr,hs];rfl
theorem Zuw(a d:Int):(a*d != 0)=(a != 0 && d != 0):=by by_cases h1:a=0;{simp[h1]};by_cases h2:d=0;{simp[h2]};have h3:a*d≠0:=Int.mul_ne_zero h1 h2;rw[bne_iff_ne.2 h3,bne_iff_ne.2 h1,bne_iff_ne.2 h2];rfl
theorem Zux{a d:Int}(ha : -1000000<=a/\a<=1000000)(hd : -1000000<=d/\d<=1000000) : -1000000000000<=a*d/\a*d<=1000000000000:=by have h1:=Int.mul_nonneg (show 0<=1000000 - a by omega) (show 0<=1000000+d by omega);have h2:=Int.mul_nonneg (show 0<=1000000+a by omega) (show 0<=1000000 - d by omega);have h3:=Int.mul_nonneg (show 0<=1000000 - a by omega) (show 0<=1000000 - d by omega);have h4:=Int.mul_nonneg (show 0<=1000000+a by omega) (show 0<=1000000+d by omega);simp only[Int.sub_mul,Int.add_mul,Int.mul_sub,Int.mul_add] at h1 h2 h3 h4;omega
theorem L4(w:World)(o:Obj):ZD w (w.alloc o):=(Below.refl _ _).alloc (aF _) _
theorem Zpz(w:World)(x)(t:aZ)(j:Nat)(u)(h:[x][j]? = dJ u):(w.alloc (dC #[x] t)).cell? ((⟨w.heap.size,0,aD⟩:Addr).add j)=dJ u:=by
 have aa:(⟨w.heap.size,0,aD⟩:Addr).add j=⟨w.heap.size,j,aD⟩:=by unfold Addr.add;split <;> simp_all
 rw[aa,bK _ _ _ _ rfl];simpa using h
theorem St.lt{W}{bm g n cap:Nat}{L}{w:World}(h:St W bm (F (dJ ⟨g,0,aD⟩) n cap) L w):g<w.heap.size:=by obtain⟨_,h0|⟨g',c,ac,hv,_,hh,_⟩⟩:=h.own;{exact absurd h0.1 (by simp)};simp only[Value.slice.injEq,bA,Addr.mk.injEq] at hv;obtain⟨⟨rfl,_⟩,_⟩:=hv;exact aA hh
theorem St.drewN{W}{bm:Nat}{v L}{w:World}(h:St W bm v L w)(n:Nat):St W bm v L (w.drewN n):=⟨h.row,h.own,h.map,⟨h.bel.os,h.bel.tape,h.bel.output,h.bel.size,h.bel.block⟩⟩
theorem Vv{w0:World}{x:Int}{ops rest}{o:Oper}{a:Act}{Q:Exit->Act->World->Prop}(ae:o.guard=aD)(s y:Operand) (ho:o.op = .call { callee:=.builtin .append,args:=#[s,y],argTypes:=#[25,25] }) (W) (bm:Nat) (v:Value) (L:List Int) (hs:a.eval s=v) (hL:L.length<=16) (aj:St W bm v L w0) (ar:Nat) (ad:ar=w0.heap.size) (hx:a.eval y = F (dJ ⟨ar,0,aD⟩) 1 1) (h:∀ v' w',St W bm v' (L++[x]) w'->(w0.alloc (dC #[E J x] 3)).grownBy w' v.ownBlock->wpList aB ops Q rest (a.put o.dst v') w') : wpList aB ops Q (o :: rest) a (w0.alloc (dC #[E J x] 3)):=by have⟨i0,hi,al,am,an⟩:=cB Tryz.info3;subst ad;have aa:=aj.keep (L4 w0 (dC #[E J x] 3));refine wpList_append_own _ ae s y 25 ho W.heap.size 3 i0 (E J 0) 1 8 underlying25 hi al am an rfl (by decide) v L.length (L.map (aV .i64)) hs aa.own ⟨w0.heap.size,0,aD⟩ 1 1 [E J x] hx rfl (λj u hj=>Zpz w0 _ 3 j u hj) (λu hu=>?_) (by unfold aS;omega) (by omega) aa.bel.size λv' w' h1 h2 h3=>h v' w' (aa.app h1 h2 h3) h2;simp only[cP] at hu;subst hu;rfl
def Zqv(gb:Nat)(W:World)(v:Value)(P:List Int):Prop:=
 (P=[]/\v = F aD 0 0)\/(∃ x p,P=[x]/\v = F (dJ ⟨p,0,aD⟩) 1 1/\W.cell? ⟨p,0,aD⟩=dJ (E J x)/\gb<p/\p<W.heap.size) \/
  ∃ x y p,P=[x,y]/\(fit x=true/\fit y=true)/\v = F (dJ ⟨p,0,aD⟩) 2 2/\W.cell? ⟨p,0,aD⟩=dJ (E J x)/\W.cell? ⟨p,1,aD⟩=dJ (E J y)/\gb<p/\p<W.heap.size
theorem Cf{gb:Nat}{W:World}(h:gb<W.heap.size)(x:Int):Zqv gb (W.alloc (dC #[E J x] 3)) (F (dJ ⟨W.heap.size,0,aD⟩) 1 1) [x]:=.inr (.inl ⟨x,_,rfl,rfl,by rw[bK _ _ _ _ rfl];rfl,h,by simp⟩)
theorem Zhe{gb:Nat}{W:World}(h:gb<W.heap.size){x y:Int}(hx:fit x=true)(hy:fit y=true):Zqv gb (W.alloc (dC #[E J x,E J y] 3)) (F (dJ ⟨W.heap.size,0,aD⟩) 2 2) [x,y]:=.inr (.inr ⟨x,y,_,rfl,⟨hx,hy⟩,rfl,by rw[bK _ _ _ _ rfl];rfl,by rw[bK _ _ _ _ rfl];rfl,h,by simp⟩)
theorem Zmp(h n:Int){k:Int}(hk:1<=k/\k<=13)(M)(a d:Int) : Yk h k n (M++if Ja k=0 then [] else if Ja k=1 then [a] else [a,d])=if k=11/\a=0 then aD else Ye M (Ce h k n a d):=by have h:k=1\/k=2\/k=3\/k=4\/k=5\/k=6\/k=7\/k=8\/k=9\/k=10\/k=11\/k=12\/k=13:=(by omega);rcases h with rfl|rfl|rfl|rfl|rfl|rfl|rfl|rfl|rfl|rfl|rfl|rfl|rfl;all_goals simp[Ja,Ce,g1,g2,Ziq,Zab,Zmn,Zit,Zmk,Zmm,Zaa,Zio,Zmq,Zmi,Zip,Zis,Zmo,Ye]
theorem Zlh(w:World)(n:Nat):ZD w (w.drewN n):=have b:=Below.refl w.heap.size w;⟨b.os,b.tape,b.output,b.size,b.block⟩
set_option maxRecDepth 100000 in
theorem Zai(b off len cap:Nat)(l:List (Int×Int))(az)(lens caps:Nat)(Z)(h:Int)(w:World)(h16:len<=16)(dg:Ud l=0)(hz:l.length=len) (hc:∀ i,i<len->w.cell? ⟨b,off+i*2,aD⟩=dJ (.int .i64 (l.getD i (0,0)).1)/\w.cell? ⟨b,off+i*2+1,aD⟩=dJ (.int .i64 (l.getD i (0,0)).2)) (hl:b<w.heap.size) (hR:RowAt w az lens Z) (dh:az=aD->caps=0) (hZ:Yd Z=true) (hh:hOk h=true) : Calls aB 169 #[F (dJ ⟨b,off,aD⟩) len cap,F az lens caps,.int .i64 h] w λe w'=>∃ a' cc,e = dE (.tuple #[.slice a' ((Xb h l Z).getD []).length cc,.bool (Xb h l Z).isSome])/\RowAt w' a' ((Xb h l Z).getD []).length ((Xb h l Z).getD [])/\ZD w w'/\(a'=aD->cc=0):=by have bs:lens<=16:=(by rw[<-hR.1];exact (Rw hZ).1);have⟨HH,HC,HZ,HK,ee,HR,dw⟩:=kh7 hh hc hz (Te dg) hZ hR dh;clear hR hc hZ hh hz dg dh;have bv:=Zb ((Below.refl w.heap.size w).alloc (aF _) (dC #[] 3));have ed:=Zb (HR.later bv);have eb:Hid ((w.alloc (dC #[] 3)).ownsRow w.heap.size 3 1 (F (dJ ⟨w.heap.size,0,aD⟩) 0 0) 0 []):=⟨rfl,.inr ⟨w.heap.size,0,#[],rfl,aF _,aM _ _,aF _,by decide,rfl,rfl⟩⟩;have fe:=@run_makeMap aB;go_enter func169,ntmps169;(go_wp2_with (first | (at_builtin;refine Qy rfl _ _ rfl w.heap.size _ _ _ rfl eb az lens caps Z rfl dw ed (by omega) bv.size ?_;intro v1 w1 fh ey cn;have ag:=Ai bv HR.1 fh ey cn) | (refine Qx _ rfl _ _ _ rfl _ _ _ _ _ _ ag rfl (by omega) _ _ rfl rfl (by decide) (by decide) ?_;intro w2 fj;clear ag;have ag:=fj)));have cx:=Zb (Pro.st ag);have⟨bm,de⟩:=ZG (w1.heap.size);rw[<-de] at cx ⊢;clear ag fe de;go_loopw [1,26] (λv i wr=>∃ (k:Nat) (L:List Int),k<=len/\i = .int .i64 k/\Xb h (l.take k) Z=dJ L/\St w bm v L wr) (λ_ i _=>len - (intOf i).toNat);{exact⟨0,Z,aH _,rfl,rfl,Za cx⟩};obtain⟨k,L,hk,rfl,cp,ag⟩:=hrel;have⟨gc,dc⟩:=Rw (Lv ee cp);have⟨ct,ae,bi⟩:=kh3 dc cp ag;obtain⟨g,gy,rfl,gh,eu⟩:=ag.row;unfold aS at eu;clear dc cp;by_cases cl:k<len;{have⟨c1,c2⟩:=HC k cl;rw[<-ag.bel.cell (p:=⟨b,off+k*2,aD⟩) hl] at c1;rw[<-ag.bel.cell (p:=⟨b,off+k*2+1,aD⟩) hl] at c2;have⟨q,hq⟩:=ZG (l.getD k (0,0));rw[<-hq] at c1 c2;have ac:k<l.length:=(by rw[Za HZ];exact cl);have dq:q=l[k]:=(by rw[hq];simp[ac]);have⟨cj,cn,fg⟩:=Zjt (k:=q.1) (n:=q.2) (by rw[dq];exact HK k ac);have HQ:=Zb dq;have⟨q1,q2⟩:=q;simp only at c1 c2 cj cn fg;have am:=Zb (bi.keep (L4 wr (dC #[.int .i64 q1,.int .i64 q2] 66)));have dr:(Lit.int .i64 q1).wf=true:=(by simp[Lit.wf,IntKind.min,IntKind.max,IntKind.signed,IntKind.bits];omega);have bg:1<=q1/\q1<=13:=(by omega);have⟨n,hn⟩:=ZG (Ja q1);have dn:n=0\/n=1\/n=2:=(by rw[hn];unfold Ja;split;exact .inl rfl;split;exact .inr (.inl rfl);exact .inr (.inr rfl));have HN:=Zb hn;clear hn;by_cases hs:(L.length:Int)<n;{have ea:Hid (Yk h q1 q2 L=aD):=(by have e:=Za HN;unfold Ja at e;show _=_;by_cases h0:L.length=0;{rw[aJ.1 h0];exact Zml h q1 q2 (λe=>by subst e;simp at e;omega) (λe=>by subst e;simp at e;omega)};obtain⟨M,a,rfl⟩:=Gf (L:=L) (by omega);rw[bF] at hs;have e2:n=2:=(by simp at hs;omega);have e3:M=[]:=aJ.1 (by simp at hs;omega);subst e3;exact Zmj h q1 q2 a (by rw[e2] at e;split at e;cases e;split at e;cases e;omega));go_wp2_with (at_lookup;refine wpList_lookup_own_int _ rfl _ _ 126 rfl 3 3 .i64 Zfe underlying126 aN (Fx _) bm 11 _ rfl am.map _ _ rfl (keyOf_int_mk aN dr) ?_;intro c bf _;obtain rfl:n=c:=HN.trans (At bg.1 bg.2 bf).symm;clear bf);go_ret2;rw[Qf ac HQ ae ea];exact⟨aD,0,rfl,RowAt.nil _ _,am.bel,λ_=>rfl⟩};go_upto_if 39 with (at_lookup;refine wpList_lookup_own_int _ rfl _ _ 126 rfl 3 3 .i64 Zfe underlying126 aN (Fx _) bm 11 _ rfl am.map _ _ rfl (keyOf_int_mk aN dr) ?_;intro c bf _;obtain rfl:n=c:=HN.trans (At bg.1 bg.2 bf).symm;clear bf);go_cut [13] from 39 to 45 (λav W=>∃ a:Int,av = .int .i64 a/\(wr.alloc (dC #[.int .i64 q1,.int .i64 q2] 66))=W/\Hid (n=1->∃ M,L=M++[a]));(case first=>by_cases h1:n=1;{subst h1;have⟨M,a,af⟩:=Gf (L:=L) (by omega);have bs:L.length=M.length+1:=(by rw[af];simp);have ca:(wr.alloc (dC #[.int .i64 q1,.int .i64 q2] 66)).cell? ⟨g,M.length,aD⟩=dJ (.int .i64 a):=(by have:=am.cell M.length (by omega);simpa[af] using this);have fk:IntKind.i64.wrap ((L.length:Int) - 1)=(M.length:Int):=(by rw[aP];omega);have fd:(M.length:Int)<(L.length:Int):=(by omega);have bw:=Zb af;clear bs af;go_wp2_with fail;go_meet;exact⟨a,rfl,rfl,λ_=>⟨M,Za bw⟩⟩};have ga:=dU h1;go_wp2_with fail;go_meet;exact⟨0,rfl,rfl,λq=>absurd q h1⟩);obtain⟨a1,rfl,rfl,du⟩:=hcut;go_upto_if 47 with fail;go_cut [13,14] from 47 to 59 (λav ia W=>∃ (M:List Int) (a d:Int),av = .int .i64 a/\ia = .int .i64 d/\Hid (L=M++if n=0 then [] else if n=1 then [a] else [a,d])/\Hid (Below (wr.alloc (dC #[.int .i64 q1,.int .i64 q2] 66)).heap.size (wr.alloc (dC #[.int .i64 q1,.int .i64 q2] 66)) W));(case first=>by_cases h2:n=2;{subst h2;have⟨M,a,d,af⟩:=Znw (L:=L) (by omega);have bs:L.length=M.length+2:=(by rw[af];simp);have⟨m1,cm⟩:=ZG (M.length+1);have ca:(wr.alloc (dC #[.int .i64 q1,.int .i64 q2] 66)).cell? ⟨g,M.length,aD⟩=dJ (.int .i64 a):=(by have:=am.cell M.length (by omega);simpa[af] using this);have cd:(wr.alloc (dC #[.int .i64 q1,.int .i64 q2] 66)).cell? ⟨g,m1,aD⟩=dJ (.int .i64 d):=(by have:=am.cell m1 (by omega);simpa[af,cm] using this);have fk:IntKind.i64.wrap ((L.length:Int) - 1)=(m1:Int):=(by rw[aP];omega);have gq:IntKind.i64.wrap ((L.length:Int) - 2)=(M.length:Int):=(by rw[aP];omega);have fd:(M.length:Int)<(L.length:Int):=(by omega);have gn:(m1:Int)<(L.length:Int):=(by omega);have bw:=Zb af;clear bs af cm;go_wp2;go_quiet (fail);go_wp2;go_meet;exact⟨M,a,d,rfl,rfl,Za bw,Zlh _ _⟩};have gb:=dU h2;go_wp2_with fail;go_meet;by_cases h1:n=1;{have⟨M,e⟩:=du h1;exact⟨M,a1,0,rfl,rfl,by show _=_;rw[e,if_neg (by omega),if_pos h1],Below.refl _ _⟩};exact⟨L,a1,0,rfl,rfl,by show _=_;rw[if_pos (by omega),List.append_nil],Below.refl _ _⟩);obtain⟨M,a,d,rfl,rfl,dy,bh⟩:=hcut;obtain⟨W2,rfl⟩:=ZG (wc);have aw:=Za dy;have fc:(L.length:Int) - n=(M.length:Int):=(by have:=congrArg List.length aw;rw[bF] at this;rcases dn with e|e|e <;> rw[e] at this ⊢ <;> simp at this <;> omega);have SP:Hid (Yk h q1 q2 L=if q1=11/\a=0 then aD else Ye M (Ce h q1 q2 a d)):=(by show _=_;rw[aw,Za HN];exact Zmp h q2 bg M a d);have gv:1<=n->fit a=true:=λq=>ct a (by rw[aw,if_neg (by omega)];split <;> simp);have gw:n=2->fit d=true:=λq=>ct d (by rw[aw,if_neg (by omega),if_neg (by omega)];simp);have eg:=Zb (Za am |>.keep bh);have bo:Hid (St w bm (F (dJ ⟨g,0,aD⟩) M.length gy) M W2):=(by have e:=Za eg;rw[aw] at e;exact e.cut);have gx:wr.heap.size<W2.heap.size:=aE (by simp) bh.size;have o0:W2.cell? ⟨wr.heap.size,0,aD⟩=dJ (.int .i64 q1):=(bh.cell (p:=⟨wr.heap.size,0,aD⟩) (by simp)).trans (by rw[bK _ _ _ _ rfl];rfl);have o1:W2.cell? ⟨wr.heap.size,1,aD⟩=dJ (.int .i64 q2):=(bh.cell (p:=⟨wr.heap.size,1,aD⟩) (by simp)).trans (by rw[bK _ _ _ _ rfl];rfl);have fl:IntKind.i64.wrap ((L.length:Int) - n)=(M.length:Int):=(by rw[aP];omega);have gg:M.length<=gy:=(by omega);have gf:M.length<=16:=(by omega);have gi:g<wr.heap.size:=bi.lt;have⟨FA,FD⟩:=kh2 gv gw;clear aw gv gw;go_upto_block 2 with fail;go_cut [15,16] from 68 to 144 (λpv xv W=>∃ P:List Int,Hid (Zqv wr.heap.size W pv P)/\Hid (Yk h q1 q2 L=Ye M P)/\Hid (St w bm (F (dJ ⟨g,0,aD⟩) M.length gy) M W));(case first=>have ay:=λ(o:Obj)=>Zb (bo.keep (L4 W2 o));by_cases hv:q1=11;{subst hv;by_cases h0:a=0;{subst h0;go_wp2;go_ret2;rw[Qf ac HQ ae (SP.trans (if_pos (by simp)))];exact⟨aD,0,rfl,RowAt.nil _ _,bo.bel,λ_=>rfl⟩};have fz:=dU h0;go_wp2;go_meet;exact⟨[],.inl ⟨rfl,rfl⟩,SP.trans (if_neg λq=>h0 q.2),Za bo⟩};have SQ:Hid (Yk h q1 q2 L=Ye M (Ce h q1 q2 a d)):=SP.trans (if_neg λq=>hv q.1);by_cases hx:q1=13;{subst hx;have ha:=FA (by rw[Za HN];decide);have gv:=(Xv a).1 ha;have et:=Zb (Zho a ha);go_wp2;go_loop [16,135] (λr i=>∃ j:Nat,j<=3/\i = .int .i64 j/\r = .int .i64 (Lm a j)) (λ_ i=>3 - (intOf i).toNat);(case atStart=>exact⟨0,aH _,rfl,rfl⟩);obtain⟨j,hj,rfl,rfl⟩:=hrel;have⟨b1,b2⟩:=et j;have⟨m,hm⟩:=ZG (Lm a j);rw[<-hm] at b1 b2 ⊢;have HM:=Zb hm;clear hm;by_cases gl:j<3;{go_wp2;go_round;{refine⟨j+1,by omega,by go_num,?_⟩;have:=Za HM;simp only[Lm,<-this,Int.mul_comm m 7919]};simp[intOf];omega};have fa:j=3:=(by omega);have ff:Zbu a=m % 1000001:=(by unfold Zbu;rw[Za HM,fa]);have dz:=Zb ff;go_wp2;go_meet;exact⟨_,Cf gx _,SQ.trans (by rw[<-Za dz];rfl),Za (ay _)⟩};have hk:q1=1\/q1=2\/q1=3\/q1=4\/q1=5\/q1=6\/q1=7\/q1=8\/q1=9\/q1=10\/q1=12:=(by omega);have gp:=Zuw a d;clear cj hv hx;rcases hk with rfl|rfl|rfl|rfl|rfl|rfl|rfl|rfl|rfl|rfl|rfl;{go_wp2;go_meet;exact⟨_,Cf gx _,Za SQ,Za (ay _)⟩};{go_wp2;go_meet;exact⟨_,Zhe gx (FA (by rw[Za HN];decide)) (FA (by rw[Za HN];decide)),Za SQ,Za (ay _)⟩};{go_wp2;go_meet;exact⟨_,Zhe gx (FD (by rw[Za HN];decide)) (FA (by rw[Za HN];decide)),Za SQ,Za (ay _)⟩};{go_wp2;go_meet;exact⟨[],.inl ⟨rfl,rfl⟩,Za SQ,Za bo⟩};all_goals(have gv:=FA;have gw:=FD;rw[Za HN] at gv gw;have eo:=λq=>(Xv a).1 (gv q);have eq:=λq=>(Xv d).1 (gw q);(try have ep:=eo (by decide));(try have er:=eq (by decide));(try have cm:=Zux ep er);go_wp2_with (go_at_call 210;refine (Zvg _ _).mono ?_;rintro e w' ⟨rfl,rfl⟩);go_meet;exact⟨_,Cf gx _,Za SQ,Za (ay _)⟩));have⟨P,ec,al,ar⟩:=hcut;obtain⟨W3,rfl⟩:=ZG (wc);clear FA FD o0 o1 fl fc dn cj;rcases Za ec with ⟨rfl,rfl⟩|⟨x,p,rfl,rfl,p0,ez,pl⟩|⟨x,y,p,rfl,⟨hx,hy⟩,rfl,p0,p1,ez,pl⟩;{go_wp2;refine bC 1 ?_;rw[aU];go_wp2;go_roundw;{exact⟨k+1,M,by omega,by go_num,(Tp ac HQ ae).trans al,Za ar⟩};simp[intOf];omega};{go_wp2;by_cases hm:M.length=16;{have gz:(16:Int)<=(M.length:Int):=(by omega);refine bC 1 ?_;rw[aU];go_wp2;go_ret2;rw[Qf ac HQ ae (al.trans (Sy hm))];exact⟨aD,0,rfl,RowAt.nil _ _,ar.bel,λ_=>rfl⟩};have gz:¬(16:Int)<=(M.length:Int):=(by omega);have br:M.length<16:=(by omega);cases hx:fit x with|false=>have HX:=Zb hx;clear hx;refine bC 1 ?_;rw[aU];go_wp2_with (go_at_call 211;refine (Gc x false _ HX.symm).mono ?_;rintro e w' ⟨rfl,rfl⟩);go_ret2;rw[Qf ac HQ ae (al.trans (Zay HX))];exact⟨aD,0,rfl,RowAt.nil _ _,ar.bel,λ_=>rfl⟩|true=>(have HX:=Zb hx;refine bC 2 ?_;rw[aU];go_wp2_with (first|(go_at_call 211;refine (Gc x true _ HX.symm).mono ?_;rintro e w' ⟨rfl,rfl⟩)|(at_builtin;refine Vv rfl _ _ rfl w bm _ M rfl (by omega) ar _ rfl rfl ?_;intro v3 w3 ap _;have bj:=Zb ap;clear ap));rw[aU];go_wp2;go_roundw;{exact⟨k+1,M++[x],by omega,by go_num,(Tp ac HQ ae).trans (al.trans (Ah br HX)),Za bj⟩};simp[intOf];omega)};have⟨HX,HY⟩:=kh2 hx hy;have CY:=Zb (λ(z:Int) (w3:World) (hg:(W3.alloc (dC #[.int .i64 z] 3)).grownBy w3 (dJ g))=>hg.cell (a:=⟨p,1,aD⟩) (((L4 W3 (dC #[.int .i64 z] 3)).cell (p:=⟨p,1,aD⟩) pl).trans p1) (by simp;omega));by_cases hm:M.length=16;{have gz:(16:Int)<=(M.length:Int):=(by omega);go_wp2;refine bC 1 ?_;rw[aU];go_wp2;go_ret2;rw[Qf ac HQ ae (al.trans (Sy hm))];exact⟨aD,0,rfl,RowAt.nil _ _,ar.bel,λ_=>rfl⟩};have gz:¬(16:Int)<=(M.length:Int):=(by omega);have br:M.length<16:=(by omega);have fb:(M++[x]).length=M.length+1:=(by simp);go_wp2;refine bC 3 ?_;rw[aU];go_wp2_with (first|(go_at_call 211;refine (Gc x true _ HX.symm).mono ?_;rintro e w' ⟨rfl,rfl⟩)|(at_builtin;refine Vv rfl _ _ rfl w bm _ M rfl (by omega) ar _ rfl rfl ?_;intro v3 w3 ap di;have cy:=CY _ _ di;obtain⟨g3,fw,rfl,_,_⟩:=ap.row;rw[fb] at ap;have bj:=Zb ap;clear ap di));by_cases gm:M.length=15;{have es:(16:Int)<=(M.length:Int)+1:=(by omega);rw[aU];go_wp2;go_ret2;rw[Qf ac HQ ae (al.trans ((Zax br HX).trans (Sy (by simp;omega))))];exact⟨aD,0,rfl,RowAt.nil _ _,bj.bel,λ_=>rfl⟩};have es:¬(16:Int)<=(M.length:Int)+1:=(by omega);rw[aU];go_wp2_with (first|(go_at_call 211;refine (Gc y true _ HY.symm).mono ?_;rintro e w' ⟨rfl,rfl⟩)|(at_builtin;refine Vv rfl _ _ rfl w bm _ _ rfl (by simp;omega) bj _ rfl rfl ?_;intro v5 w5 fs _;have ef:=Zb fs));rw[aU];go_wp2;go_roundw;{exact⟨k+1,_,by omega,by go_num,(Tp ac HQ ae).trans (al.trans ((Zax br HX).trans (Ah (by simp;omega) HY))),Za ef⟩};simp[intOf];omega};have e:k=len:=(by omega);subst e;clear cl;go_wp2;go_ret2;have h1:=Za ae;rw[<-Za HZ,List.take_length] at h1;rw[h1];have⟨a',cc,hv,fi,ev⟩:=bi.rowAt;simp only[Option.getD_some,Option.isSome_some];exact⟨_,_,rfl,(by cases hv;exact fi),bi.bel,(by cases hv;exact ev)⟩
open Go.RowKit Go.Maps
theorem Mk(a len cap l az)(lens caps:Nat)(Z)(h:Int)(w:World)(hO:OpsAt w a len l)(ab:chk l=0) (hR:RowAt w az lens Z) (ag:az=aD->caps=0) (hZ:Yd Z=true) (hh:hOk h=true) : Calls aB 169 #[F a len cap,F az lens caps,E J h] w λe w'=>∃ a' ac,e = dE (dF #[.slice a' ((Xb h l Z).getD []).length ac,dH (Xb h l Z).isSome])/\RowAt w' a' ((Xb h l Z).getD []).length ((Xb h l Z).getD [])/\ZD w w'/\(a'=aD->ac=0):=by have⟨hz,hc⟩:=hO;have h16:len<=16/\Ud l=0:=(by unfold chk at ab;split at ab;{cases ab};exact⟨by omega,ab⟩);by_cases h0:len=0;{subst h0;have e:l=[]:=aJ.1 hz;subst e;exact Zaj az lens caps cap a Z h w hR ag hZ};obtain⟨b,off,rfl,af⟩:=hc (by omega);exact Zai b off len cap l az lens caps Z h w h16.1 h16.2 hz af (aC _ _ (af 0 (by omega)).1) hR ag hZ hh
open Go.RowKit Go.Maps
def Ui(l k:List (Int×Int))(h:Int):Bool:=match (Xb h k []).bind (Xb h l) with|some L=>Gj L|none=>false
theorem Zet(a b ap au aq av l k)(h:Int)(w:World)(hO:OpsAt w a ap l)(hK:OpsAt w b aq k)(bg:chk l=0)(bf:chk k=0)(hh:hOk h=true) : ZH 127 #[F a ap au,F b aq av,E J h] w (dH (Ui l k h)):=by have r1:=Mk b aq av k aD 0 0 [] h w hK bf (RowAt.nil _ _) (λ_=>rfl) rfl hh;cases h1:Xb h k [] with|none=>rw[h1] at r1;simp only[Option.getD_none,Option.isSome_none,List.length_nil] at r1;have R1:=Zb r1;have e:Ui l k h=false:=(by unfold Ui;rw[h1];rfl);rw[e];go_enter func127,ntmps127;go_wp2_with fail;refine R1.mono ?_;rintro e w1 ⟨a',ad,rfl,_,hb,_⟩;have HB:=Zb hb;go_wp2;go_ret;exact⟨rfl,Za HB⟩|some S=>(rw[h1] at r1;simp only[Option.getD_some,Option.isSome_some] at r1;have R1:=Zb r1;have r2:∀ (a':Option Addr) (ad:Nat) (w1:World),RowAt w1 a' S.length S->ZD w w1->(a'=aD->ad=0)->_:=λa' ad w1 hr hb hc=>Mk a ap au l a' S.length ad S h w1 (hO.later hb) bg hr hc (Lv (L:=[]) rfl h1) hh;cases h2:Xb h l S with|none=>rw[h2] at r2;simp only[Option.getD_none,Option.isSome_none,List.length_nil] at r2;have R2:=Zb r2;have e:Ui l k h=false:=(by unfold Ui;rw[h1];simp only[Option.bind_some];rw[h2]);rw[e];go_enter func127,ntmps127;go_wp2_with fail;refine R1.mono ?_;rintro e w1 ⟨a',ad,rfl,hr,hb,hc⟩;have⟨C2,HB⟩:=kh2 (R2 a' ad w1 hr hb hc) hb;go_wp2_with fail;refine C2.mono ?_;rintro e w2 ⟨a2,cap2,rfl,_,an,_⟩;have ak:=Zb (HB.trans (an.mono HB.size));go_wp2;go_ret;exact⟨rfl,Za ak⟩|some L=>rw[h2] at r2;simp only[Option.getD_some,Option.isSome_some] at r2;have R2:=Zb r2;have e:Ui l k h=Gj L:=(by unfold Ui;rw[h1];simp only[Option.bind_some];rw[h2]);rw[e];by_cases h3:L.length=1;{obtain⟨x,rfl⟩:=List.length_eq_one_iff.1 h3;have e:Gj [x]=(x != 0):=(by simp[Gj,Jy]);rw[e];go_enter func127,ntmps127;go_wp2_with fail;refine R1.mono ?_;rintro e w1 ⟨a',ad,rfl,hr,hb,hc⟩;have⟨C2,HB⟩:=kh2 (R2 a' ad w1 hr hb hc) hb;go_wp2_with fail;refine C2.mono ?_;rintro e w2 ⟨a2,cap2,rfl,bh,an,_⟩;obtain⟨b2,bi,rfl,be⟩:=bh.2.2 (Nat.zero_lt_one);have c2:=be 0 (Nat.zero_lt_one);have c3:dV w2 b2 bi (E J x):=c2;have ak:=Zb (HB.trans (an.mono HB.size));simp only[bX,List.length_nil];go_wp2;go_ret;exact⟨rfl,Za ak⟩};have e:Gj L=false:=(by simp[Gj,h3]);rw[e];have⟨n,hn⟩:=ZF (L.length);rw[hn] at R2 h3;have h4:((n:Int) == 1)=false:=(by simp;omega);go_enter func127,ntmps127;go_wp2_with fail;refine R1.mono ?_;rintro e w1 ⟨a',ad,rfl,hr,hb,hc⟩;have⟨C2,HB⟩:=kh2 (R2 a' ad w1 hr hb hc) hb;go_wp2_with fail;refine C2.mono ?_;rintro e w2 ⟨a2,cap2,rfl,_,an,_⟩;have ak:=Zb (HB.trans (an.mono HB.size));go_wp2;go_ret;exact⟨rfl,Za ak⟩)
theorem Zgj(e:Int)(w:World):Calls aB 124 #[E J e] w λr w'=>r = dE (dF #[F aD 0 0,.agg #[F aD 0 0],E J e])/\ZD w w':=by go_enter func124,ntmps124;go_wp2;(try simp only[aQ,Exit.then]);refine aG (v:=dF #[F aD 0 0,.agg #[F aD 0 0],E J e]) ?_ rfl ?_;{rw[Z9 rfl];go_simp};exact⟨rfl,Zh _ _⟩
theorem Hu{L t}(aa:Zv L)(ab:Zq t=0):Vs L t=0:=by unfold Vs;rw[(Z5 L).2 aa,if_neg (by decide)];exact ab
theorem Zli{L t}{name ht x:Int}{M S}(ab:Zv L)(ac:Zq t=0)(hb:(okN name && okH ht)=false)(hx:apD L t name ht=(x,M,S)):(x,M,S)=((3:Int),([]:List Zi),([]:List Zi)):=by have e:Xw L t name ht=3:=(by unfold Xw;rw[Hu ab ac,if_neg (by decide),if_pos hb]);rw[<-hx];unfold apD;rw[e,if_pos (by decide)]
theorem Zqn{L}{t:TxD}{name ht x:Int}{M S}(ab:Zv L)(ac:Zq t=0)(hb:(okN name && okH ht)=true)(hr:isR t=true/\t.1≠ht)(hx:apD L t name ht=(x,M,S)):(x,M,S)=((4:Int),([]:List Zi),([]:List Zi)):=by have e:Xw L t name ht=4:=(by unfold Xw;rw[Hu ab ac,if_neg (by decide),if_neg (by rw[hb];decide),if_pos hr]);rw[<-hx];unfold apD;rw[e,if_pos (by decide)]
theorem Zgd{L}{t:TxD}{name ht:Int}(ab:Zv L)(ac:Zq t=0)(hb:(okN name && okH ht)=true)(hr:¬(isR t=true/\t.1≠ht)):Xw L t name ht=0:=by unfold Xw;rw[Hu ab ac,if_neg (by decide),if_neg (by rw[hb];decide),if_neg hr]
structure ApS(w Y:World)(ub:Nat)(wr:World)(v sv:Value)(K SK:List CV):Prop where
 rest:wr.ownsRow Y.heap.size 63 6 v K.length (Zl K)
 box:wr.heap[ub]? = dJ (dC #[sv] 143 (0,0))
 spent:wr.ownsRow Y.heap.size 63 6 sv SK.length (Zl SK)
 lks:∀ x,x∈K\/x∈SK->LkAt w x/\ck1 x.1=0
 srt:Srt (K.map (·.1))
 gr:Gr Y wr (λq=>q=ub)
 apart:∀ b,v.ownBlock=dJ b->sv.ownBlock≠dJ b
structure A2(w w5:World)(B:Nat)(wr:World)(v:Value)(K:List CV):Prop where
 own:wr.ownsRow B 63 6 v K.length (Zl K)
 lks:∀ x∈K,LkAt w x
 bel:ZD w5 wr
def SAo(W2:World)(b:Nat)(ov:Int)(la:Option Addr)(ln lc:Nat)(name:Int)(j:Nat)(W:World):Prop:=
 W.cell? ⟨b,0,aD⟩=dJ (E J ov)/\W.cell? ⟨b,1,aD⟩=dJ (F la ln lc)/\W.cell? ⟨b+1,0,aD⟩=dJ (E J name)/\W.cell? ⟨b+1,1,aD⟩=dJ (E J j)/\b+1<W.heap.size/\ZD W2 W
theorem Wc{w:World}{base:Nat}{e:aZ}{size:Nat}{v:Value}{n:Nat}{xs}(h:w.ownsRow base e size v n xs){k:Nat}{cs}{t:aZ}(hk:w.heap[k]? = dJ (dC cs t (0,0)))(ht:t≠e):v.ownBlock≠dJ k:=by intro e1;obtain⟨_,⟨rfl,_⟩|⟨g,cap,af,rfl,_,hh,_⟩⟩:=h;{cases e1};have e2:g=k:=(by injection e1);subst e2;rw[hh] at hk;injection hk with hk;injection hk with _ hk;exact ht hk.symm
theorem Zdf{W:World}{base g cap:Nat}{K:List CV}(ho:W.ownsRow base 63 6 (F (dJ ⟨g,0,aD⟩) K.length cap) K.length (Zl K))(j rc:Nat)(hj:j+1<=K.length)(hr:K.length<=rc)(ya:Addr)(hy:rc≠j+1->ya=⟨g,(j+1)*6,aD⟩) : (∀ i u,(Zl (K.take j))[i]? = dJ u->W.cell? ((⟨g,0,aD⟩:Addr).add i)=dJ u)/\(∀ i u,(Zl (K.drop (j+1)))[i]? = dJ u->W.cell? (ya.add i)=dJ u):=by constructor;{intro i u h;have hi:i<j*6:=(by have:=(cD.1 h).1;rw[Ya,aW] at this;omega);rw[<-Ua,List.getElem?_take_of_lt hi] at h;rw[cS,bW,bI ho i (by omega)];exact h};intro i u h;have hi:=(cD.1 h).1;rw[Ya,List.length_drop] at hi;rw[<-Ub,List.getElem?_drop] at h;rw[hy (by omega),cS,bI ho _ (by omega)];exact h
theorem Zbj{l k}{h:Int}(h1:chk l=0)(h2:chk k=0)(h3:hOk h=true):Ui l k h=Xf l k h:=by unfold Xf Ui Vn;rw[if_pos h1,if_pos h2,if_pos h3,decide_eq_true rfl,Bool.true_and];rfl
theorem Zvl{h:Int}(h1:¬h<1)(h2:¬1000<h):hOk h=true:=by unfold hOk;simp only[aX,decide_eq_true_eq];omega
theorem Zhr:∀ {pre I:List InD},Yb pre I=0->∀ x∈I,chk x.2.2=0
 | _,[],_=>λx hx=>by cases hx
 | pre,y :: r,h=>λx hx=>by
  unfold Yb at h;split at h
  ·rename_i q
   rcases List.mem_cons.1 hx with rfl|hx
   ·unfold Wv at q;split at q
    ·cases q
    split at q
    ·rename_i q3;exact absurd q q3
    rename_i q3;simpa using q3
   exact Zhr h x hx
  rename_i q;exact absurd h q
theorem Vm{w W:World}{x:Int}{M S}(y:Int)(ac:W.heap[w.heap.size+1]? = dJ (dC [F aD 0 0].toArray 143 (0,0)))(hb:ZD w W)(h:(x,M,S)=(y,([]:List Zi),([]:List Zi))) :
  Calls aB 124 #[E J y] W λr wf=>r = dE (dF #[F aD 0 0,.agg #[F aD 0 0],E J y])/\dV wf (w.heap.size+1) 0 (F aD 0 0)/\wf.frozen? ⟨w.heap.size+1,0,aD⟩=false/\w.heap.size+1<wf.heap.size/\∀ v,ApR w (wf.setCell ⟨w.heap.size+1,0,aD⟩ v) x M S (dE (dF #[F aD 0 0,.agg #[F aD 0 0],E J y])):=
 (Zgj y W).mono λ_ _ ⟨e,aa⟩=>
  have B:=ZE aa ac
  ⟨e,Zd B 0 _ rfl,Zg B 0,aA B,λ_=>(Hx ⟨h,Nat.le_succ _⟩ (Ze hb aa)).plain⟩
theorem Tg(a n c L)(h:Int)(ai ao ni ci no co I O)(name ht:Int)(x:Int)(M S w)(hL:CoinsAt w a n L)(sL:SlOk a n c)(hI:InsAt w ai ni I)(hO:OutsAt w ao no O)(de:Zv L)(df:Zq (h,I,O)=0)(hx:apD L (h,I,O) name ht=(x,M,S)) :
  Calls aB 78 #[F a n c,.agg #[E J h,F ai ni ci,F ao no co],E J name,E J ht] w λe w'=>ApR w w' x M S e:=by
 have⟨X0,dg⟩:=ZG ((w.alloc (dC #[E J h,F ai ni ci,F ao no co] 35)).alloc (dC #[F aD 0 0] 143));have eo:ZD w X0:=by rw[dg];exact Ze (Zh _ _) (Zh _ _)
 have ii:X0.heap[w.heap.size]? = dJ (dC [E J h,F ai ni ci,F ao no co].toArray 35 (0,0)):=by
  rw[dg,Below.heap_alloc _ _ _ (by simp)];exact Zp _ _ _ _ _
 have ij:X0.heap[w.heap.size+1]? = dJ (dC [F aD 0 0].toArray 143 (0,0)):=by
  rw[dg];have:=aM (w.alloc (dC #[E J h,F ai ni ci,F ao no co] 35)) (dC #[F aD 0 0] 143);rw[show (w.alloc (dC #[E J h,F ai ni ci,F ao no co] 35)).heap.size=w.heap.size+1 by simp] at this;exact this
 have⟨wm,ja⟩:=ZG (decide (ni=0));have⟨bd,er⟩:=ZG (decide (name<1\/120<name\/ht<1\/1000<ht));have hR:isR (h,I,O)=wm:=by unfold isR;rw[hI.1,ja]
 have AR:Hid (bd=true->(x,M,S)=((3:Int),([]:List Zi),([]:List Zi))):=λq=>Zli de df (by rw[er] at q;unfold okN okH;simp only[Bool.and_eq_false_iff,decide_eq_false_iff_not];simp only[decide_eq_true_eq] at q;omega) hx;have ok:bd=false->(okN name && okH ht)=true:=λq=>by rw[er] at q;unfold okN okH;simp only[aX,decide_eq_true_eq];simp only[decide_eq_false_iff_not] at q;omega
 have AF:Hid (bd=false->(wm && h != ht)=true->(x,M,S)=((4:Int),([]:List Zi),([]:List Zi))):=λq q2=>Zqn de df (ok q) (by rw[hR];simp at q2;exact q2) hx;have⟨⟨x2,S2,M2⟩,h2⟩:=ZF (Zs ht I [] L);have⟨x3,h3⟩:=ZF (Fo S2 (h,I,O));have⟨⟨x4,M4⟩,h4⟩:=ZF (Yn name ht wm 0 O M2);have⟨x5,h5⟩:=ZF (Zz M4)
 have rj:Hid (bd=false->(wm && h != ht)=false->(if x2≠0 then (x2,([]:List Zi),([]:List Zi)) else if x3≠0 then (x3,[],[]) else if x4≠0 then (x4,[],[]) else if x5≠0 then (x5,[],[]) else (0,M4,S2))=(x,M,S)):=λq q2=>by
  rw[Zgl (Zgd de df (ok q) (by rw[hR];intro e;simp[e.1] at q2;exact e.2 q2)) h2 h3 (by rw[hR];exact h4) h5,if_neg (by decide)] at hx;exact hx
 have qs:Hid (bd=false->hOk ht=true):=λq=>by rw[er] at q;simp only[decide_eq_false_iff_not] at q;exact Zvl (by omega) (by omega)
 have fd:=Zb er;have⟨t1,t2,t3,_,tI,_⟩:=Xh df;have vz:ni<=6:=by rw[<-hI.1];exact t1
 have sr:no<=6:=by rw[<-hO.1];exact t2
 have hn:n<=720:=by rw[<-hL.1];exact de.len
 have⟨qz,rd,qu⟩:=kh3 (J9 df) hR (Zhr tI);have⟨Y,hY⟩:=ZG (X0.alloc (dC #[F aD 0 0] 143));have di:ZD X0 Y:=by rw[hY];exact Zh _ _
 have ik:Y.heap[X0.heap.size]? = dJ (dC #[F aD 0 0] 143 (0,0)):=by rw[hY];exact aM _ _
 have nb:X0.heap.size=w.heap.size+1+1:=by rw[dg];simp
 have nf:Y.heap.size=w.heap.size+1+1+1:=by rw[hY];simp[nb]
 rw[nb] at ik;have C1:=Zb (Ee a n c L w Y (Ze eo di) (by omega) hL sL);have HI:=Zb (λw' (hb:ZD X0 w')=>(hI.later eo).later hb);have HO:=Zb (λw' (hb:ZD X0 w')=>(hO.later eo).later hb);have⟨ra,gi,ki,rk,an,rn,H2,H3⟩:=kh8 hO eo di ii ij ik h2 h3;have⟨H4,H5,gs,kx,ky,vl⟩:=kh6 h4 h5 de hI.1 hO.1 hL.1;have⟨pp,pr,pu,xl⟩:=kc3 ii;have vr:w.heap.size+1<X0.heap.size:=aA ij;have va:=Zf di pp;have pw:=Zf di pr;have vb:=Zf di pu;have g0:((ni:Int) == 0)=wm:=by rw[ja,Bool.eq_iff_iff];simp
 clear ja er ok hL sL hI hO de df hx ii ij eo di ik h2 h3 h4 h5 hR t1 t2 t3 tI;go_enter func78,ntmps78
 go_upto_region 2 with fail
 rw[<-dg];clear dg
 go_cut [36] from 23 to 36 (λws W=>ws = dH bd/\X0=W)
 case first=>
  by_cases n1:name<1
  ·obtain rfl:bd=true:=fd.trans (by simp[n1]);go_wp2_with fail;go_meet
   exact⟨rfl,rfl⟩
  by_cases n2:120<name
  ·obtain rfl:bd=true:=fd.trans (by simp[n2]);go_wp2_with fail;go_meet
   exact⟨rfl,rfl⟩
  by_cases n3:ht<1
  ·obtain rfl:bd=true:=fd.trans (by simp[n3]);go_wp2_with fail;go_meet
   exact⟨rfl,rfl⟩
  obtain rfl:bd=decide (1000<ht):=fd.trans (by simp[n1,n2,n3]);go_wp2_with fail;go_meet
  exact⟨rfl,rfl⟩
 obtain⟨rfl,rfl⟩:=hcut;cases bd with
 | true=>
  have aq:=Zb (AR rfl);go_wp2_with fail;refine (Vm 3 an gi aq).mono ?_;rintro e wf ⟨rfl,ct,cu,cw,hE⟩;go_wp2;(try simp only[aQ,Exit.then]);refine aG (v:=dF #[F aD 0 0,.agg #[F aD 0 0],E J 3]) ?_ rfl (hE _);rw[Z9 rfl];go_simp
 | false=>
 have kq:=Zb (qs rfl);have sw:∃ fb,fb=(wm && h != ht):=⟨_,rfl⟩;have⟨fb,nx⟩:=sw;have fe:=Zb nx;clear nx
 go_upto_region 5 with fail
 go_cut [52] from 46 to 52 (λws W=>ws = dH fb/\X0=W)
 case first=>
  cases wm with
  | true=>
   obtain rfl:fb=(h != ht):=Za fe;go_wp2_with fail;go_meet
   exact⟨rfl,rfl⟩
  | false=>
   obtain rfl:fb=false:=Za fe;go_wp2_with fail;go_meet
   exact⟨rfl,rfl⟩
 obtain⟨rfl,rfl⟩:=hcut;cases fb with
 | true=>
  have aq:=Zb (AF rfl fe.symm);go_wp2_with fail;refine (Vm 4 an gi aq).mono ?_;rintro e wf ⟨rfl,ct,cu,cw,hE⟩;go_wp2;(try simp only[aQ,Exit.then]);refine aG (v:=dF #[F aD 0 0,.agg #[F aD 0 0],E J 4]) ?_ rfl (hE _);rw[Z9 rfl];go_simp
 | false=>
 have HX:=Zb (rj rfl fe.symm);go_wp2_with fail;rw[<-hY];clear hY;refine C1.mono ?_;rintro e w2 ⟨v,K,rfl,eg,bv,ho,aw⟩;have xb:=Zf aw pw;have tz:=aC _ _ xb
 have ST:Hid (ApS w Y (w.heap.size+1+1) w2 v (F aD 0 0) K []):=by
  refine⟨ho,(aw.block _ (by omega)).trans rn,⟨rfl,.inl ⟨rfl,rfl⟩⟩,λx hx=>?_,by rw[eg];exact gs.srt,Gr.of aw,λ_ _ e=>by cases e⟩
  rcases hx with hx|hx
  ·exact⟨bv x hx,gs.one x.1 (by rw[<-eg];exact List.mem_map_of_mem hx)⟩
  cases hx
 have EQ:Hid (Zs ht (I.drop 0) (([]:List CV).map (·.1)) (K.map (·.1))=(x2,S2,M2)):=by show _=_;rw[eg];exact Za H2
 have LN:Hid (K.length<=720):=by show _<=_;rw[<-cH (f:=λ(x:CV)=>x.1),eg];exact gs.len
 clear eg bv ho aw va pw vb pp pr pu;go_wp2
 go_loopw [14,63] (λrv i wr=>∃ (k:Nat) (K SK:List CV) (sv:Value),k<=ni/\i = E J k/\Hid (SK.length=k)/\Hid (K.length<=720)/\Hid (ApS w Y (w.heap.size+1+1) wr rv sv K SK)/\Hid (Zs ht (I.drop k) (SK.map (·.1)) (K.map (·.1))=(x2,S2,M2))) (λ_ i _=>ni - (intOf i).toNat)
 ·exact⟨0,K,[],_,aH _,rfl,rfl,LN,ST,EQ⟩
 clear xb tz;obtain⟨k,K,SK,sv,hk,rfl,gp,dw,HS,HE⟩:=hrel;have dd:ZD X0 wr:=HS.gr.below ki ki.size (λq e=>by omega);have⟨vi,dt,BU,BT⟩:=kh4 dd (Ze gi dd) (ZE dd an) (ZE dd rk);by_cases fv:k<ni
 ·have bv:k<I.length:=(by rw[Za kx];exact fv);obtain⟨wy,xe,rfl,_,nt⟩:=(HI wr dd).2 (by omega);have nz:=nt k bv;have⟨q,hq⟩:=ZF (I[k]);have SN:=Zb (λcm=>P5 ht I k bv (SK.map (·.1)) (K.map (·.1)) cm);have ou:q∈I:=hq ▸ aT bv;have iz:=qu q ou;rw[hq] at nz SN;have⟨p1,p2,pk⟩:=q;have⟨i0,i1,ka,kn,kc,i2,pd,wd⟩:=nz;simp only at i0 i1 i2 pd SN iz;have fw:∀ x∈K,LkAt wr x:=λx hx=>(HS.lks x (.inl hx)).1.later dt;obtain⟨wq,rc,rfl,cj,ow⟩:=Yq HS.rest fw;have⟨W1,br⟩:=ZG (wr.alloc (dC #[E J p1,E J p2,F ka kn kc] 133));have cf:ZD wr W1:=(by rw[br];exact Zh _ _);have⟨z,hz⟩:=ZF (plc (p1,p2) (K.map (·.1)) 0);have⟨CP,gj,vj⟩:=kh3 (Ms wq K.length rc (K.map (·.1)) (p1,p2) z W1 (by have:=Za dw;omega) (cj.later cf) hz) cf cj;have xd:wy<wr.heap.size:=aC _ _ i0;clear cf cj nt ou;go_wp2_with fail;rw[<-br];go_wp2_with fail;refine dQ CP λW2 aw=>?_;have bo:=Zb (Ze gj aw);have⟨kg,fa⟩:=kh2 (Ze dt bo) (ZE bo BU)
  have IB:Hid (W2.heap[wr.heap.size]? = dJ (dC [E J p1,E J p2,F ka kn kc].toArray 133 (0,0))):=by
   show _=_;have e:W1.heap[wr.heap.size]? = dJ (dC [E J p1,E J p2,F ka kn kc].toArray 133 (0,0)):=(by rw[br];exact Zp _ _ _ _ _);exact ZE aw e
  clear aw CP br i0 i1 i2
  rcases M6 (p1,p2) (K.map (·.1)) 0 with ⟨am,be⟩|⟨j,hj,am,be,fx⟩
  ·obtain rfl:z = -1:=hz.symm.trans am
   have aq:Hid ((x,M,S)=((7:Int),([]:List Zi),([]:List Zi))):=by
    have e:=SN (Zmd be);rw[Za HE] at e;obtain⟨rfl,_⟩:=cC e;exact HX.symm.trans (if_pos (by decide))
   clear hz am be;go_wp2_with fail;refine (Vm 7 fa kg aq).mono ?_;rintro e wf ⟨rfl,ct,cu,cw,hE⟩;go_wp2;(try simp only[aQ,Exit.then]);refine aG (v:=dF #[F aD 0 0,.agg #[F aD 0 0],E J 7]) ?_ rfl (hE _);rw[Z9 rfl];go_simp
  have iu:z=(j:Int):=(by rw[<-hz,am];simp);subst iu;clear hz am fx;have oa:j<K.length:=(by simpa using hj);have TK:=Zb (F9 HS.srt j hj be);have⟨cx,io⟩:=ZF (K[j]);have nw:cx∈K:=io ▸ aT oa
  obtain⟨g,rfl⟩:∃ g,wq=dJ ⟨g,0,aD⟩:=by
   rcases HS.rest.2 with ⟨e,q⟩|⟨g,cap,vn,e,_⟩
   ·omega
   exact⟨g,by injection e⟩
  have fk:=Zb ((Gr.of (S:=λ_=>False) bo).own HS.rest (λ_ _ q=>q));have⟨f0,f1,f2,f3,f4,f5⟩:=Jq K j oa;have cc:=λu (hu:u<6)=>bI fk (j*6+u) (by omega);have m0:=(cc 0 (by decide)).trans f0;rw[Nat.add_zero] at m0;have m1:=(cc 1 (by decide)).trans f1;have m2:=(cc 2 (by decide)).trans f2;have m3:=(cc 3 (by decide)).trans f3;have m4:=(cc 4 (by decide)).trans f4;have m5:=(cc 5 (by decide)).trans f5;have nu:=HS.lks cx (.inl nw);have SL:=Zb (λM1 c1 cm hl=>P7 ht I k bv (SK.map (·.1)) (K.map (·.1)) M1 c1 cm hl);have SY:=Zb (λM1 c1 cm hl ho=>Hy ht I k bv (SK.map (·.1)) (K.map (·.1)) M1 c1 cm hl ho);have SO:=Zb (λM1 c1 cm hl ho=>Mi ht I k bv (SK.map (·.1)) (K.map (·.1)) M1 c1 cm hl ho);rw[List.getElem_map,io] at TK;rw[io] at m0 m1 m2 m3 m4 m5;have qq:=Zb nu;have⟨⟨c1,c2,wo,lk,hg,rr⟩,la,ln,lc⟩:=cx;simp only[cv,ch,cr] at m0 m1 m2 m3 m4 m5;have⟨W3,ft⟩:=ZG (W2.alloc (dC #[E J c1,E J c2,E J wo,F la ln lc,E J hg,dH rr] 63));have ep:ZD W2 W3:=(by rw[ft];exact Zh _ _);have CB:Hid (W3.heap[W2.heap.size]? = dJ (dC [E J c1,E J c2,E J wo,F la ln lc,E J hg,dH rr].toArray 63 (0,0))):=(by show _=_;rw[ft];exact aM _ _);have⟨kd,gm,jp,ro⟩:=kh4 (Ze bo ep) (Ze kg ep) (ZE ep fa) (ZE ep IB);have⟨⟨lO,lS⟩,nr⟩:=nu;simp only[ck] at lO lS;have am:=Yj nr;simp only[cv,ch,ck] at am;have⟨LO,KO⟩:=kh2 (lO.later gm) (pd.later kd);have xc:g<W2.heap.size:=aC _ _ m0
  have vw:(j:Int)<(K.length:Int):=(by omega);have nv:=am.2.2.2.2.2.2.2.2;have vu:1<=hg/\hg<=1000:=⟨am.2.2.2.2.2.2.1,am.2.2.2.2.2.2.2.1⟩;clear ep f0 f1 f2 f3 f4 f5 cc nw lO am nr be;have⟨lt,oe⟩:=ZG ((rr && decide (ht<hg+2)));have ff:=Zb oe;clear oe;obtain⟨-,-,-,-,q4,q5,ql⟩:=kc6 CB
  go_upto_region 16 with fail
  rw[<-ft];clear ft
  go_cut [90] from 82 to 90 (λws W=>ws = dH lt/\W3=W)
  case first=>
   cases rr with
   | true=>
    obtain rfl:lt=decide (ht<hg+2):=Za ff;go_wp2_with fail;go_meet
    exact⟨rfl,rfl⟩
   | false=>
    obtain rfl:lt=false:=Za ff;go_wp2_with fail;go_meet
    exact⟨rfl,rfl⟩
  obtain⟨rfl,rfl⟩:=hcut;clear q4 q5 ql;cases lt;rotate_left
  ·have od:=Za ff
   have aq:Hid ((x,M,S)=((10:Int),([]:List Zi),([]:List Zi))):=by
    have e:=SL _ _ (by rw[hq];exact Za TK) (by have:=od.symm;rw[aX,decide_eq_true_eq] at this;exact this);rw[Za HE] at e;obtain⟨rfl,_⟩:=cC e;exact HX.symm.trans (if_pos (by decide))
   clear od;go_wp2_with fail;refine (Vm 10 jp gm aq).mono ?_;rintro e wf ⟨rfl,ct,cu,cw,hE⟩;go_wp2;(try simp only[aQ,Exit.then]);refine aG (v:=dF #[F aD 0 0,.agg #[F aD 0 0],E J 10]) ?_ rfl (hE _);rw[Z9 rfl];go_simp
  have NL:Hid (¬(cr ((c1,c2,wo,lk,hg,rr):Zi)=true/\ht<ch ((c1,c2,wo,lk,hg,rr):Zi)+2)):=λq=>by have h2:=Za ff;have⟨q1,q2⟩:=q;have q1:rr=true:=q1;have q2:ht<hg+2:=q2;simp[q1,q2] at h2
  have OB:∃ wt,Ui lk pk ht=wt:=⟨_,rfl⟩;have⟨wt,iy⟩:=OB;have C5:=Zb (Zet la ka ln lc kn kc lk pk ht W3 LO KO nv iz kq);rw[iy] at C5;have kt:Hid (Xf lk pk ht=wt):=(by show _=_;rw[<-Zbj nv iz kq];exact iy);clear iy;have⟨q0,q1,q2,q3,q4,q5,ql⟩:=kc6 CB;obtain⟨r0,-,r2,wx⟩:=kc3 ro;obtain⟨-,-,s2,wz⟩:=kc3 IB;go_wp2_with fail;refine dQ C5 λW4 eq=>?_;have⟨ds,qp,qa,qd⟩:=kh4 (Ze kd eq) (Ze gm eq) (ZE eq jp) (ZE eq CB);clear eq q0 q1 q2 q3 q4 q5 ql r0 r2 wx s2 wz m0 m1 m2 m3 m4 m5 LO KO;cases wt with
  | false=>
   have aq:Hid ((x,M,S)=((8:Int),([]:List Zi),([]:List Zi))):=by
    have e:=SY _ _ (by rw[hq];exact Za TK) NL (by rw[hq];exact Za kt);rw[Za HE] at e;obtain⟨rfl,_⟩:=cC e;exact HX.symm.trans (if_pos (by decide))
   go_wp2_with fail;refine (Vm 8 qa qp aq).mono ?_;rintro e wf ⟨rfl,ct,cu,cw,hE⟩;go_wp2;(try simp only[aQ,Exit.then]);refine aG (v:=dF #[F aD 0 0,.agg #[F aD 0 0],E J 8]) ?_ rfl (hE _);rw[Z9 rfl];go_simp
  | true=>
   have jt:=Zb (ZE ds HS.box);have lp:=(Gr.of (S:=λ_=>False) ds).own HS.spent (λ_ _ q=>q);have lh:=Zb ((Gr.of (S:=λ_=>False) ds).own HS.rest (λ_ _ q=>q));have dj:=Zh W4 (dC #[E J c1,E J c2,E J wo,F la ln lc,E J hg,dH rr] 63);have⟨fl,li,gf,lf,bu⟩:=kh5 ((Gr.of (S:=λ_=>False) dj).own lp (λ_ _ q=>q)) ((Gr.of (S:=λ_=>False) dj).own lh (λ_ _ q=>q)) (ZE dj jt) (bU (aM W4 (dC #[E J c1,E J c2,E J wo,F la ln lc,E J hg,dH rr] 63))) (Ze ds dj);have YS:Y.heap.size<=(W4.alloc (dC #[E J c1,E J c2,E J wo,F la ln lc,E J hg,dH rr] 63)).heap.size:=aR HS.gr.size (aR ds.size dj.size);have vm:SK.length<=6:=(by have:=Za gp;omega);have⟨i0,hi,jc,am,be⟩:=cB Tryz.infoCoin;have⟨u0,ul⟩:=kc1 jt;have⟨v0,v1,v2,v3,v4,v5,xa⟩:=kc6 qd;clear dj lp
   go_wp2_with (at_builtin;refine wpList_append_lies _ rfl _ _ 44 rfl Y.heap.size 63 i0 zeroC 6 64 cL hi jc am be rfl (by decide) _ _ _ rfl fl ⟨W4.heap.size,0,aD⟩ 1 1 [E J c1,E J c2,E J wo,F la ln lc,E J hg,dH rr] rfl rfl lf (λu hu=>by simp at hu;rcases hu with rfl|rfl|rfl|rfl|rfl|rfl <;> rfl) (by decide) (by unfold aS;omega) (by omega) YS _ rfl ?_;intro g7 id w7 om ir su _;have et:=(ir.block (w.heap.size+1+1) (aA gf) (λe=>Wc fl gf (by decide) e.symm)).trans gf;have gw:=Zb et;have ks:=Zb om;have ko:=Zb ir;have vc:=Zd et 0 _ rfl;have ve:=aA et;have vd:=Zg et 0;clear et om ir su)
   have⟨W8,ej⟩:=ZG (w7.setCell ⟨w.heap.size+1+1,0,aD⟩ (F (dJ ⟨g7,0,aD⟩) (SK.length+1) id));have G7:Gr (W4.alloc (dC #[E J c1,E J c2,E J wo,F la ln lc,E J hg,dH rr] 63)) w7 (λq=>sv.ownBlock=dJ q):=(Gr.refl _ _).grown ko (λq e=>.inl e);have gy:=G7.own li (λq e=>HS.apart q e);have G8:Gr w7 W8 (λq=>q=w.heap.size+1+1):=(by rw[ej];exact (Gr.refl w7 (λq=>q=w.heap.size+1+1)).set (p:=⟨w.heap.size+1+1,0,aD⟩) (.inl rfl) _);have⟨lj,lq⟩:=kh2 (G8.own gy (λq e e2=>Wc gy gw (by decide) (by rw[<-e2];exact e))) (G8.own ks (λq e e2=>Wc ks gw (by decide) (by rw[<-e2];exact e)));have qb:Hid (W8.heap[w.heap.size+1+1]? = dJ (dC #[F (dJ ⟨g7,0,aD⟩) (SK.length+1) id] 143 (0,0))):=by show _=_;rw[ej];exact Uj gw
   have kb:Hid (Gr Y W8 (λq=>q=w.heap.size+1+1)):=by
    have e1:=((HS.gr.on bu).grown ko (λq e=>.inr (Wb fl q e)));show Gr _ _ _;rw[ej];exact e1.set (p:=⟨w.heap.size+1+1,0,aD⟩) (.inl rfl) _
   have vh:Hid (g<W8.heap.size):=lj.lt g rfl |>.2;have sg:K.length<=rc:=ow.1;rw[<-ej];clear ej G7 gy G8 fl li lh lf vc ve vd u0 ul v0 v1 v2 v3 v4 v5 xa;have vk:=Zb (Zj W8);have vx:j<=rc:=(by omega);have wa:IntKind.i64.wrap ((j:Int)+1)=((j+1:Nat):Int):=(by have:=Za dw;rw[aP];omega);have sq:j+1<=K.length:=(by omega);have vv:j+1<=rc:=by omega
   obtain⟨ya,oy,oz⟩:∃ ya:Addr,(if rc=j+1 then dJ (⟨g,0,aD⟩:Addr) else dJ ⟨g,(j+1)*6,aD⟩)=dJ ya/\(rc≠j+1->ya=⟨g,(j+1)*6,aD⟩):=by
    by_cases e:rc=j+1
    ·exact⟨⟨g,0,aD⟩,if_pos e,λq=>absurd e q⟩
    exact⟨⟨g,(j+1)*6,aD⟩,if_neg e,λ_=>rfl⟩
   have⟨rl,rm⟩:=kh2 oy oz;clear oy oz;refine bH (S:=λW=>ZD W8 W) (by kernel_rfl) (Zj _) (λae=>?_);refine tkL 0 ?_;refine tkL 1 ?_;refine tkL 2 (v:=F (dJ ⟨g,0,aD⟩) j rc) ?_;refine tkL 3 ?_;refine tkL 4 ?_;refine tkL 5 ?_;refine tkL 6 (v:=F (dJ ya) (K.length - (j+1)) (rc - (j+1))) (hy:=by intro W vq;go_simp;rw[if_pos ⟨by omega,by omega⟩,Za rl]) ?_;have⟨W9,ek⟩:=ZG ((W8.alloc (dC #[F (dJ ⟨g,0,aD⟩) j rc,F (dJ ya) (K.length - (j+1)) (rc - (j+1))] 44)).drew);have im:ZD W8 W9:=(by rw[ek];exact Ze (Zh W8 _) (Zj _));have wv:W9.heap[W8.heap.size]? = dJ (dC [F (dJ ⟨g,0,aD⟩) j rc,F (dJ ya) (K.length - (j+1)) (rc - (j+1))].toArray 44 (0,0)):=(by rw[ek];exact aM _ _);have lm:=(Gr.of (S:=λ_=>False) im).own lj (λ_ _ q=>q);have⟨cl1,cl2⟩:=Zdf lm j rc sq sg ya rm;have⟨CC,gl⟩:=kh2 (Zct W8.heap.size ⟨g,0,aD⟩ ya j rc (K.length - (j+1)) (rc - (j+1)) (K.take j) (K.drop (j+1)) W9 (by have:=Za dw;omega) (by rw[aW];omega) (by rw[List.length_drop]) cl1 cl2 (Zd wv 0 _ rfl) (Zd wv 1 _ rfl)) im;clear cl1 cl2 lm wv im;refine rdY 7 rfl (λK0 hK=>?_);go_simp
   (first|rw[<-ek]|(rw[show (W8.drew).alloc (dC #[F (dJ ⟨g,0,aD⟩) j rc,F (dJ ya) (K.length - (j+1)) (rc - (j+1))] 44)=W9 from ek.symm]))
   refine hK.out _ _ gl (λhHeld2=>?_);clear hK K0 ae ek;have ae:=hHeld2;clear hHeld2;(try simp only[Act.put,ZA,ZB,ZC]);refine rdY 8 rfl (λK0 hK=>?_);refine Yo (by kernel_rfl) 128 #[F (dJ ⟨W8.heap.size,0,aD⟩) 2 2] (by kernel_rfl) CC ?_;rintro e ry ⟨tv,rfl,oh,nh⟩;refine⟨_,rfl,?_⟩;have⟨fc,kr⟩:=kh2 (Ze gl nh) oh;have S9:=gl.size;clear CC oh nh;refine hK.out _ _ fc (λhHeld2=>?_);clear hK K0 ae;have ae:=hHeld2;clear hHeld2;refine tkL 9 ?_;refine cJ (by kernel_rfl) ?_ _;clear ae;have iw:∀ (A:List CV),(A.take j++A.drop (j+1)).map (·.1)=(A.map (·.1)).take j++(A.map (·.1)).drop (j+1):=λA=>by rw[bM,List.map_take,List.map_drop]
   have ix:(K.take j++K.drop (j+1)).length=j+(K.length - (j+1)):=by rw[bF,aW,List.length_drop];omega
   have AS:Hid (ApS w Y (w.heap.size+1+1) ry tv (F (dJ ⟨g7,0,aD⟩) (SK.length+1) id) (K.take j++K.drop (j+1)) (SK++[(((c1,c2,wo,lk,hg,rr):Zi),la,ln,lc)])):=by
    have sy:=(Gr.of (S:=λ_=>False) fc).own lq (λ_ _ q=>q);refine⟨?_,ZE fc qb,?_,λx hx=>?_,?_,kb.on fc,λb e e2=>?_⟩
    ·rw[ix];exact Na kr (aR kb.size S9)
    ·rw[bF,Yh];exact sy
    ·rcases hx with hx|hx
     ·rcases bN.1 hx with hx|hx
      ·exact HS.lks x (.inl (List.mem_of_mem_take hx))
      exact HS.lks x (.inl (List.mem_of_mem_drop hx))
     rcases bN.1 hx with hx|hx
     ·exact HS.lks x (.inr hx)
     rw[cP.1 hx];exact Za qq
    ·rw[iw];exact F7 TK HS.srt
    have q1:=Wb kr b e;have q2:=(lq.lt g7 rfl).2;have q3:g7=b:=(by injection e2);omega
   have kj:Hid (Zs ht (I.drop (k+1)) ((SK++[(((c1,c2,wo,lk,hg,rr):Zi),la,ln,lc)]).map (·.1)) ((K.take j++K.drop (j+1)).map (·.1))=(x2,S2,M2)):=by
    have e:=SO _ _ (by rw[hq];exact Za TK) NL (by rw[hq];exact Za kt);rw[Za HE] at e;show _=_;rw[iw,bM];exact e.symm
   have L2:Hid ((SK++[(((c1,c2,wo,lk,hg,rr):Zi),la,ln,lc)]).length=k+1):=(by show _=_;rw[bF,Za gp];rfl);have L3:Hid ((K.take j++K.drop (j+1)).length<=720):=(by show _<=_;rw[ix];have:=Za dw;omega);clear iw ix;go_wp2;go_roundw
   ·first|exact⟨k+1,_,_,_,by omega,by go_num,L2,L3,AS,kj⟩|((repeat apply Exists.intro);refine⟨?_,rfl⟩;exact⟨k+1,_,_,_,by omega,by go_num,L2,L3,AS,kj⟩)
   simp[intOf];omega
 obtain rfl:k=ni:=(by omega);have e:=Za HE;rw[Hz ht I k (by rw[Za kx];exact aF _)] at e;have⟨e0,e2⟩:=cC e;have⟨e3,e4⟩:=cC e2;subst e0 e3 e4;have an:=Za HX;rw[if_neg (by decide)] at an;have ku:=Zb an;clear an e e2;have oc:∀ x∈SK,LkAt wr x:=λx hx=>(HS.lks x (.inr hx)).1.later dt;obtain⟨wu,sc,rfl,ov,te⟩:=Yq HS.spent oc;have jo:=Za BT;have⟨t0,t1,t2,tl⟩:=kc3 jo;have u0:=Zd HS.box 0 _ rfl;have ul:=aA HS.box;have⟨d,hd⟩:=ZF (Zn (SK.map (·.1)) - Yi O)
 have qe:=Zb (B9 wu SK.length sc (SK.map (·.1)) h ai ao k ci no co O d wr (by have:=Za gp;omega) sr ov (HO wr dd) (λc hc=>by
  obtain⟨y,hy,rfl⟩:=List.mem_map.1 hc;have q:=Yj (HS.lks y (.inr hy)).2;exact⟨by omega,by omega⟩) qz hd)
 have du:Hid (x3=if d<0/\wm=false then 9 else 0):=by
  show _=_;rw[<-Za H3];unfold Fo;simp only[hd,Za rd]
 clear jo ov te oc fv hd
 go_upto_region 23 with fail
 go_cut [133] from 125 to 133 (λws W=>∃ b:Bool,ws = dH b/\Hid (x3=if b=true then 9 else 0)/\Hid (ZD wr W))
 case first=>
  cases wm with
  | true=>
   go_wp2_with fail;go_meet
   exact⟨false,rfl,du.trans (by simp),Below.refl _ _⟩
  | false=>
   go_wp2_with fail;refine dQ qe λw5 si=>?_;go_wp2_with fail;go_meet
   exact⟨decide (d<0),rfl,du.trans (by simp),si⟩
 obtain⟨b,rfl,du,bu⟩:=hcut;obtain⟨w5,rfl⟩:=ZG (wc);clear t0 t1 t2 tl u0 ul;have⟨kh,jq,pz⟩:=kh3 (Ze dt bu) (ZE bu BU) (ZE bu BT);by_cases og:b=true
 ·subst og
  have aq:Hid ((x,M,S)=((9:Int),([]:List Zi),([]:List Zi))):=by
   have e:=Za du;rw[if_pos rfl] at e;subst e;exact ku.symm.trans (if_pos (by decide))
  go_wp2_with fail;refine (Vm 9 jq kh aq).mono ?_;rintro e wf ⟨rfl,ct,cu,cw,hE⟩;go_wp2;(try simp only[aQ,Exit.then]);refine aG (v:=dF #[F aD 0 0,.agg #[F aD 0 0],E J 9]) ?_ rfl (hE _);rw[Z9 rfl];go_simp
 obtain rfl:b=false:=(by simpa using og);have e:=Za du;rw[if_neg (by decide)] at e;subst e;have an:=Za ku;rw[if_neg (by decide)] at an;have kv:=Zb an;clear an;obtain⟨-,-,t2,tl⟩:=kc3 pz;go_wp2_with fail;have ob:∀ x∈K,LkAt wr x:=λx hx=>(HS.lks x (.inl hx)).1.later dt;obtain⟨wq,rc,rfl,_,_⟩:=Yq HS.rest ob;have HA:Hid (A2 w w5 Y.heap.size w5 (F wq K.length rc) K):=⟨(Gr.of (S:=λ_=>False) bu).own HS.rest (λ_ _ q=>q),λx hx=>(HS.lks x (.inl hx)).1,Below.refl _ _⟩;have gq:Hid ((K.map (·.1)).Perm (K.map (·.1))/\Srt (K.map (·.1))):=⟨List.Perm.refl _,HS.srt⟩;have⟨rf,rh⟩:=kh2 ((Gr.of (S:=λ_=>False) bu).own HS.spent (λ_ _ q=>q)) (ZE bu HS.box);have re:Hid (∀ x∈SK,LkAt w x):=λx hx=>(HS.lks x (.inr hx)).1;have qr:Hid (Yn name ht wm 0 (O.drop 0) (K.map (·.1))=(x4,M4)):=Za H4;have qv:Hid (K.length<=720+0):=Za dw;have vs:w.heap.size+1+1+1<=w5.heap.size:=(by rw[<-nf];exact aR HS.gr.size bu.size);clear ob BU BT t2 tl
 go_loopw [14,142] (λrv i wr=>∃ (j:Nat) (K2:List CV) (G:List Zi),j<=no/\i = E J j/\Hid (K2.length<=720+j)/\Hid (A2 w w5 Y.heap.size wr rv K2)/\Hid ((K2.map (·.1)).Perm G/\Srt G)/\Hid (Yn name ht wm j (O.drop j) G=(x4,M4))) (λ_ i _=>no - (intOf i).toNat)
 ·exact⟨0,K,K.map (·.1),aH _,rfl,qv,HA,gq,qr⟩
 obtain⟨j,K2,G,hj,rfl,cb,ax,HP,gn⟩:=hrel;have⟨da,js⟩:=kh2 (Ze kh ax.bel) (ZE ax.bel jq);have fw:∀ x∈K2,LkAt wr x:=λx hx=>(ax.lks x hx).later da;obtain⟨wq,rc,rfl,cj,ow⟩:=Yq ax.own fw;by_cases fv:j<no
 ·have iv:j<O.length:=(by rw[Za ky];exact fv);obtain⟨wt,xg,rfl,_,oj⟩:=ra.2 (by omega);have ol:=oj j iv;have⟨q,hq⟩:=ZF (O[j]);have GA:=Zb (λL hf=>Ba (name:=name) (h:=ht) (r:=wm) iv L hf);have GN:=Zb (λL hf=>A9 (name:=name) (h:=ht) (r:=wm) iv L hf);rw[hq] at ol GA;have⟨wn,cq⟩:=q;have⟨g0,la,ln,lc,g1,lO,lS⟩:=ol;simp only at g0 g1 lO;have e0:=Zf da g0;have e1:=Zf da g1;have xf:=aC _ _ e0;have LK:Hid (LkAt w (((name,(j:Int),wn,cq,ht,wm):Zi),la,ln,lc)):=⟨lO,lS⟩;have⟨W1,br⟩:=ZG ((wr.alloc (dC #[E J wn,F la ln lc] 61)).alloc (dC #[E J name,E J j] 59));have cf:ZD wr W1:=(by rw[br];exact Ze (Zh _ _) (Zh _ _));have⟨z,hz⟩:=ZF (plc (name,(j:Int)) (K2.map (·.1)) 0);have CP:=Zb (Ms wq K2.length rc (K2.map (·.1)) (name,(j:Int)) z W1 (by have:=Za cb;omega) (cj.later cf) hz)
  have p0:W1.heap[wr.heap.size+1]? = dJ (dC [E J name,E J j].toArray 59 (0,0)):=by
   rw[br];have:=aM (wr.alloc (dC #[E J wn,F la ln lc] 61)) (dC #[E J name,E J j] 59);rw[show (wr.alloc (dC #[E J wn,F la ln lc] 61)).heap.size=wr.heap.size+1 by simp] at this;exact this
  have p1:W1.heap[wr.heap.size]? = dJ (dC [E J wn,F la ln lc].toArray 61 (0,0)):=by
   rw[br,Below.heap_alloc _ _ _ (by simp)];exact aM _ _
  have⟨tg,ti,pl⟩:=kc2 p0;have⟨gj,gq,rb⟩:=kh3 cf p0 p1;clear cf oj lO g0 g1 p0 p1 cj;go_wp2_with fail;rw[<-br];(try go_wp2_with fail);refine dQ CP λW2 aw=>?_;have bo:=Zb (Ze gj aw);have⟨ri,fa,PB,OB⟩:=kh4 (Ze da bo) (ZE bo js) (ZE aw gq) (ZE aw rb);clear aw br tg ti pl e0 e1
  rcases M6 (name,(j:Int)) (K2.map (·.1)) 0 with ⟨am,be⟩|⟨i2,so,am,be,fx⟩
  ·obtain rfl:z = -1:=hz.symm.trans am;have HF:Hid (We (name,(j:Int)) G=false):=(by show _=_;rw[<-A8 HP.1];exact be);have fk:=Zb ((Gr.of (S:=λ_=>False) bo).own ax.own (λ_ _ q=>q));have KS:Hid (∀ W,ZD W2 W->SAo W2 wr.heap.size wn la ln lc name j W):=λW hb=>⟨Zf hb (Zd OB 0 _ rfl),Zf hb (Zd OB 1 _ rfl),Zf hb (Zd PB 0 _ rfl),Zf hb (Zd PB 1 _ rfl),aE (aA PB) hb.size,hb⟩;have⟨i0,hi,jc,vf,vg⟩:=cB Tryz.infoCoin;clear hz am be;go_wp2_with fail;refine bH (S:=SAo W2 wr.heap.size wn la ln lc name j) (by kernel_rfl) (KS _ (Zj _)) (λae=>?_);refine tkL 0 ?_;refine tkL 2 ?_;refine tkL 3 ?_;refine tkL 4 ?_;refine tkL 5 ?_;refine tkL 6 ?_;refine wpAnyH_ready (rs:=[1,7]) (by kernel_rfl) (by simp) ?_;refine rdC rfl (λK0 hK=>?_) (rdC rfl (λK0 hK=>?_) AllReadyH.nil)
   focus
    refine Yo (by kernel_rfl) 125 #[F wq K2.length rc] (by kernel_rfl) (Jh (F wq K2.length rc) K2 W2.drew (by have:=Za cb;omega) ((Gr.of (S:=λ_=>False) (Zj W2)).own fk (λ_ _ q=>q))) ?_;rintro e WA ⟨ww,rfl,oi,dh⟩;refine⟨_,rfl,?_⟩;have cy:Hid (ZD W2 WA):=Ze (Zj W2) dh;have qy:Hid (WA.ownsRow W2.heap.size 63 6 ww K2.length (Zl K2)):=oi;clear oi dh;refine hK.out _ _ (KS _ cy) (λhHeld2=>?_);clear hK K0 ae;have ae:=hHeld2;clear hHeld2;(try simp only[Act.put,ZA,ZB,ZC]);refine rdY 7 rfl (λK0 hK=>?_);go_simp;have⟨WZ,fu⟩:=ZG (WA.alloc (dC #[E J name,E J j,E J wn,F la ln lc,E J ht,dH wm] 63));rw[<-fu];have⟨mz,cl⟩:=ZG (WA.heap.size);have MZ:Hid (WZ.heap[mz]? = dJ (dC #[E J name,E J j,E J wn,F la ln lc,E J ht,dH wm] 63 (0,0))):=(by show _=_;rw[fu,cl];exact aM _ _);have cg:ZD WA WZ:=(by rw[fu];exact Zh _ _);have⟨OZ,BZ⟩:=kh2 ((Gr.of (S:=λ_=>False) cg).own qy (λ_ _ q=>q)) (Ze cy cg);rw[<-cl];clear cg fu cl
   rotate_left
   focus
    go_simp;have⟨WA,el⟩:=ZG (W2.drew.alloc (dC #[E J name,E J j,E J wn,F la ln lc,E J ht,dH wm] 63))
    (first|rw[<-el]|(rw[show (W2.alloc (dC #[E J name,E J j,E J wn,F la ln lc,E J ht,dH wm] 63)).drew=WA from el.symm]))
    have dh:ZD W2 WA:=(by rw[el];exact Ze (Zj W2) (Zh _ _));have⟨mz,cl⟩:=ZG (W2.heap.size);have ma:WA.heap[mz]? = dJ (dC #[E J name,E J j,E J wn,F la ln lc,E J ht,dH wm] 63 (0,0)):=(by rw[el,cl];exact aM W2.drew _);rw[<-cl];have lr:=(Gr.of (S:=λ_=>False) dh).own fk (λ_ _ q=>q);have⟨MA,cy⟩:=kh2 ma dh;clear el cl ma dh;refine hK.out _ _ (KS _ cy) (λhHeld2=>?_);clear hK K0 ae;have ae:=hHeld2;clear hHeld2;(try simp only[Act.put,ZA,ZB,ZC]);refine rdY 1 rfl (λK0 hK=>?_);refine Yo (by kernel_rfl) 125 #[F wq K2.length rc] (by kernel_rfl) (Jh (F wq K2.length rc) K2 WA (by have:=Za cb;omega) lr) ?_;rintro e WZ ⟨ww,rfl,oq,cg⟩;refine⟨_,rfl,?_⟩;have⟨BZ,OZ,MZ⟩:=kh3 (Ze cy cg) (Na oq cy.size) (ZE cg MA);clear oq cg lr MA
   all_goals
    refine hK.out _ _ (KS _ BZ) (λhHeld2=>?_);clear hK K0 ae;have ae:=hHeld2;clear hHeld2;(try simp only[Act.put,ZA,ZB,ZC]);refine rdY 8 rfl (λK0 hK=>?_);refine step_append_lies _ (by rfl) _ _ _ (by rfl) W2.heap.size 63 i0 zeroC 6 64 cL hi jc vf vg rfl (by decide) ww K2.length (Zl K2) (by rfl) OZ ⟨mz,0,aD⟩ 1 1 [E J name,E J j,E J wn,F la ln lc,E J ht,dH wm] (by rfl) (by rfl) (bU (cs:=#[E J name,E J j,E J wn,F la ln lc,E J ht,dH wm]) MZ) (λu hu=>by simp at hu;rcases hu with rfl|rfl|rfl|rfl|rfl|rfl <;> rfl) (by decide) (by have:=Za cb;unfold aS;omega) (by have:=Za cb;omega) BZ.size _ rfl ?_;intro g8 sa w8 oo ny _ _;have kf:Hid (ZD W2 w8):=BZ.grown ny BZ.size (Wb OZ);have qx:=Zb oo;clear oo ny OZ MZ BZ;refine hK.out _ _ (KS _ kf) (λhHeld2=>?_);clear hK K0 ae;have ae:=hHeld2;clear hHeld2;refine tkL 9 ?_;refine cJ (by kernel_rfl) ?_ _;clear ae
    have AS:Hid (A2 w w5 Y.heap.size w8 (F (dJ ⟨g8,0,aD⟩) (K2.length+1) sa) (K2++[(((name,(j:Int),wn,cq,ht,wm):Zi),la,ln,lc)])):=by
     refine⟨?_,λx hx=>?_,Ze (Ze ax.bel bo) kf⟩
     ·rw[bF,Yh];exact Na qx (by have:=bo.size;have:=ax.bel.size;rw[nf];omega)
     rcases bN.1 hx with hx|hx
     ·exact ax.lks x hx
     rw[cP.1 hx];exact Za LK
    have L3:Hid ((K2++[(((name,(j:Int),wn,cq,ht,wm):Zi),la,ln,lc)]).length<=720+(j+1)):=by show _<=_;rw[bF];have:=Za cb;simp;omega
    have P3:Hid (((K2++[(((name,(j:Int),wn,cq,ht,wm):Zi),la,ln,lc)]).map (·.1)).Perm (Rs (Sa name j (wn,cq) ht wm) G)/\Srt (Rs (Sa name j (wn,cq) ht wm) G)):=by
     refine⟨?_,R0 HP.2⟩;rw[bM];exact Zjk HP.1 HF
    have E3:Hid (Yn name ht wm (j+1) (O.drop (j+1)) (Rs (Sa name j (wn,cq) ht wm) G)=(x4,M4)):=(GA G HF).symm.trans gn;go_wp2;go_roundw
    ·first|exact⟨j+1,_,_,by omega,by go_num,L3,AS,P3,E3⟩|((repeat apply Exists.intro);refine⟨?_,rfl⟩;exact⟨j+1,_,_,by omega,by go_num,L3,AS,P3,E3⟩)
    simp[intOf];omega
  have iu:z=(i2:Int):=(by rw[<-hz,am];simp);subst iu
  have aq:Hid ((x,M,S)=((6:Int),([]:List Zi),([]:List Zi))):=by
   have e:=GN G (by rw[<-A8 HP.1];exact fx);rw[Za gn] at e;obtain⟨rfl,_⟩:=cC e;exact kv.symm.trans (if_pos (by decide))
  have vt:¬((i2:Int)<0):=(by omega);clear hz am be fx so;go_wp2_with fail;refine (Vm 6 fa ri aq).mono ?_;rintro e wf ⟨rfl,ct,cu,cw,hE⟩;go_wp2;(try simp only[aQ,Exit.then]);refine aG (v:=dF #[F aD 0 0,.agg #[F aD 0 0],E J 6]) ?_ rfl (hE _);rw[Z9 rfl];go_simp
 obtain rfl:j=no:=(by omega);have e:=Za gn;rw[Da (by rw[Za ky];exact aF _)] at e;have⟨e0,e1⟩:=cC e;subst e0 e1;clear e;have an:=Za kv;rw[if_neg (by decide)] at an;have kw:=Zb an;clear an;have qf:=Zb (Zdv wq K2.length rc K2 w wr (by have:=Za cb;omega) rfl ax.own ax.lks da);clear cj fw;go_wp2_with fail;refine qf.mono ?_;rintro e w6 ⟨a6,c6,L6,rfl,jb,sx,ot,ox,nj⟩;have e6:L6=G:=Zif ox (ot.trans HP.1) HP.2;subst e6;have ns:CoinsAt w6 a6 K2.length L6:=jb w6 (Gr.refl _ _);have⟨jw,rg,qn⟩:=kh3 (Mw a6 K2.length c6 L6 x5 w6 ns H5) jb nj;clear jb ot ox nj ns;go_wp2_with fail;refine dQ jw λw7 il=>?_;have⟨qo,gv⟩:=kh2 il (Ze qn il);have⟨gu,jr⟩:=kh2 (Ze da gv) (ZE gv js);clear il jw;by_cases e5:x5=0
 ·subst e5;have an:=Za kw;rw[if_neg (by decide)] at an;obtain⟨rfl,e2⟩:=cC an;obtain⟨rfl,rfl⟩:=cC e2;have ke:=Zb (Ze ax.bel gv);have⟨lu,ib⟩:=kh2 (ZE ke rh) ((Gr.of (S:=λ_=>False) ke).own rf (λ_ _ q=>q))
  have kk:Hid (∀ W,Gr w7 W (λq=>q=w.heap.size+1)->ApR w W 0 L6 (SK.map (·.1)) (dE (dF #[F a6 K2.length c6,.agg #[F wu SK.length sc],E J 0]))):=by
   intro W hg;have nk:ZD w W:=hg.below gu gu.size (λk q=>by omega);have wb:=ax.bel.size;have td:=hg.own ib (λk q e=>by have:=Wb ib k q;omega);have⟨tq,tr,e,sl,tb⟩:=Yq td (λx hx=>(re x hx).later nk);obtain⟨rfl,rfl⟩:wu=tq/\sc=tr:=(by injection e with e1 e2 e3;exact⟨e1,e3⟩);exact⟨a6,K2.length,c6,wu,SK.length,sc,rfl,rg W ((Gr.of qo).trans (hg.mono (λk _ q=>⟨by omega,by omega⟩))),sx,sl,tb,nk⟩
  have⟨u0,ul⟩:=kc1 lu;have⟨r0,xh,wx⟩:=kf1 jr;clear e2 ib lu;go_wp2
  go_region
  go_wp2;(try simp only[aQ,Exit.then])
  all_goals (refine aG (v:=dF #[F a6 K2.length c6,.agg #[F wu SK.length sc],E J 0]) ?_ rfl ?_)
  ·rw[Z9 rfl];go_simp
  first|exact kk _ (((Gr.refl w7 (λq=>q=w.heap.size+1)).draw).set (p:=⟨w.heap.size+1,0,aD⟩) (.inl rfl) _)|exact kk _ (((Gr.refl w7 (λq=>q=w.heap.size+1)).set (p:=⟨w.heap.size+1,0,aD⟩) (.inl rfl) _).draw)
 have aq:Hid ((x,M,S)=((x5:Int),([]:List Zi),([]:List Zi))):=kw.symm.trans (if_pos e5);have g9:=dS e5;go_wp2_with fail;refine (Vm x5 jr gu aq).mono ?_;rintro e wf ⟨rfl,ct,cu,cw,hE⟩;go_wp2;(try simp only[aQ,Exit.then]);refine aG (v:=dF #[F aD 0 0,.agg #[F aD 0 0],E J x5]) ?_ rfl (hE _);rw[Z9 rfl];go_simp
theorem Zkg(r:Int)(T S)(k:Nat):Xa r T S k=r+Xa 0 T S k:=by unfold Xa;omega
theorem Zkf{r:Int}{T}{S:List (List Zi)}{k j:Nat}(s)(h:k<=j):Xa r T (S.set j s) k=Xa r T S k:=by unfold Xa;rw[List.take_set_of_le h]
def Uz(T:List TxD)(S:List (List Zi))(m k:Nat)(aa:Int):Prop:=
 k<m->S.getD 0 []=[]/\aa=Xa 0 T S (k+1)+Yi (T.getD 0 U4).2.2/\-(6000000000*(k:Int))<=aa/\aa<=6000000000*(k:Int)
theorem Zfn{T:List TxD}{m:Nat}(hT:T.length=m):Uz T (List.replicate m []) m 0 0:=by intro h;refine⟨by simp[List.getD,h],?_,by omega,by omega⟩;rw[Pc 0 T _ 0 (by omega) (by simp;omega),Nu];simp[Zn,List.getD,hT,h];omega
theorem Zko{T:List TxD}{S:List (List Zi)}{m k:Nat}{aa:Int}{s}(hF:Uz T S m k aa)(hk:k+1<m)(hT:T.length=m)(hS:S.length=m){t:TxD}(ht:T.getD (k+1) U4=t)(b1 : -6000000000<=Zn s - Yi t.2.2)(b2:Zn s - Yi t.2.2<=6000000000):Uz T (S.set (k+1) s) m (k+1) (aa+(Zn s - Yi t.2.2)):=by intro _;have⟨h0,h1,h2,h3⟩:=hF (by omega);refine⟨?_,?_,by omega,by omega⟩;{rw[cZ,List.getElem?_set_ne (by omega),<-cZ];exact h0};rw[Pc 0 T _ (k+1) (by omega) (by rw[List.length_set];omega),Zkf s (aF _)];have e1:(S.set (k+1) s)[k+1]'(by rw[List.length_set];omega)=s:=(by simp);have e2:T[k+1]'(by omega)=t:=(by rw[<-ht,cZ,List.getElem?_eq_getElem (by omega)];rfl);rw[e1,e2];omega
theorem Zpi{T:List TxD}{S}{m k:Nat}{aa r:Int}(hF:Uz T S m k aa)(hk:k+1=m):Xa r T S m<0↔r+aa<Yi (T.getD 0 U4).2.2:=by have⟨_,h1,_,_⟩:=hF (by omega);rw[Zkg,<-hk];omega
theorem Zkp{T S}{m:Nat}{aa:Int}:Uz T S m m aa:=λh=>absurd h (Nat.lt_irrefl _)
theorem Zhw{T S}{m k:Nat}{aa:Int}(hF:Uz T S m k aa)(hk:k<m)(hm:m<=4) : -24000000000<=aa/\aa<=24000000000:=by have⟨_,_,h2,h3⟩:=hF hk;omega
theorem E9{O:List Z0}(h:O.length<=6)(hb:∀ x∈O,0<=x.1/\x.1<=1000000000):0<=Yi O/\Yi O<=6000000000:=by have:∀ (O:List Z0),(∀ x∈O,0<=x.1/\x.1<=1000000000)->0<=Yi O/\Yi O<=1000000000*(O.length:Int):=(by intro O;induction O with|nil=>intro _;simp[Yi]|cons a t ih=>intro hb;have h1:=hb a (cW ..);have h2:=ih (λx hx=>hb x (List.mem_cons_of_mem _ hx));have e:Yi (a :: t)=a.1+Yi t:=(by simp[Yi]);rw[e,bX];omega);have:=this O hb;omega
theorem Zmh{S:List Zi}(h:S.length<=6)(hb:∀ x∈S,0<=cv x/\cv x<=1000000000):0<=Zn S/\Zn S<=6000000000:=by have:∀ (O:List Zi),(∀ x∈O,0<=cv x/\cv x<=1000000000)->0<=Zn O/\Zn O<=1000000000*(O.length:Int):=(by intro O;induction O with|nil=>intro _;simp[Zn]|cons a t ih=>intro hb;have h1:=hb a (cW ..);have h2:=ih (λx hx=>hb x (List.mem_cons_of_mem _ hx));have e:Zn (a :: t)=cv a+Zn t:=(by simp[Zn]);rw[e,bX];omega);have:=this S hb;omega
def CoS(g0:Nat)(W Y:World)(bx:Nat)(am:Option Addr)(nm cm:Nat)(M:List Zi)(sa:Option Addr)(ns cs:Nat)(s:List Zi):Prop:=
 ZD W Y/\CoinsAt Y am nm M/\SlOk am nm cm/\CoinsAt Y sa ns s/\SlOk sa ns cs/\bx≠g0/\Y.heap[bx]? = dJ (dC [F sa ns cs].toArray 143 (0,0))
theorem Zpu{g0:Nat}{W w6:World}{bx:Nat}{am nm cm M sa ns cs s}(hb:ZD W w6)(al:W.heap.size<=bx)(aq:g0<W.heap.size)(ag:w6.heap[bx]? = dJ (dC [F aD 0 0].toArray 143 (0,0)))(hM:CoinsAt w6 am nm M)(sM:SlOk am nm cm)(hS:CoinsAt w6 sa ns s)(sS:SlOk sa ns cs):CoS g0 W (w6.setCell ⟨bx,0,aD⟩ (F sa ns cs)) bx am nm cm M sa ns cs s:=by have ok:UsOk 143 bx 1 w6:=⟨[F aD 0 0],ag,rfl,λv hv=>by rw[cP.1 hv];exact⟨_,_,_,rfl⟩⟩;have g:=(Gr.refl w6 (λq=>q=bx)).one bx 0 (.inl rfl) (F sa ns cs);exact⟨hb.setCell al _,Uu hM ok g,sM,Uu hS ok g,sS,by omega,Zdq ag 0 _⟩
