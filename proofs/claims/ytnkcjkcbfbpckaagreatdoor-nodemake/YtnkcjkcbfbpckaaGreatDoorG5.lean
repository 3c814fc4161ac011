import Derived.Test.YtnkcjkcbfbpckaaGreatDoorH
import Derived.Test.YtnkcjkcbfbpckaaGreatDoorG4
import Derived.Lib.OwnKind
open Option renaming none->aD,some->dJ
open Go.Proofs.Tryz
open Bool renaming and_eq_true->aX
open Decidable renaming not_not->bE
open Go renaming TypeId->aZ,heap_alloc_new->aM,lt_of_block->aA,bodyPost_ret->aG,maxLen->aS,info_parts->cB
open Go.Addr renaming add_lit->cS
open Go.Ending renaming returned->dE
open Go.Exit renaming inBlock->aQ
open Go.IntKind renaming i64->J
open Go.Lib renaming run_eql_slice_nil->cN
open Go.Obj renaming cells->dC
open Go.Proofs.Tryz renaming prog->aB
open Go.RowKit.Below renaming heap_alloc->bJ
open Go.Value renaming slice->cF,int->aV,int->E,slice->F,tuple->dF,bool->dH
open Go.World renaming block_lt_of_cell?->aC,frozen?_of_block->bR,cell?_of_block->bO
open Go.World.ownsRow renaming cellAt->bI
open List renaming replicate->cA,mem_append->bN,mem_singleton->cP,getElem?_eq_getElem->bQ,length_cons->bX,mem_cons->aY,length_eq_zero_iff->aJ,drop_of_length_le->bB,drop_eq_getElem_cons->aL,mem_cons_self->cW,getElem_mem->aT,take_succ_eq_append_getElem->aI,length_take->aW,getElem?_eq_some_iff->cD
open Nat renaming le_refl->aF,zero_le->aH,lt_of_lt_of_le->aE,zero_add->bW,le_trans->aR
set_option maxHeartbeats 12800000
set_option maxRecDepth 10000
namespace Go.Proofs.YtnkcjkcbfbpckaaGreatDoor
open Go.RowKit
theorem Z9{fn:Func}{p u v:Tmp}{ty:aZ}(h:fn.results=#[.tmp u,.cell p ty,.tmp v])(tmps:Array Value)(P:Program)(w) : (results fn tmps).run P w = ((asAddr (tmps.getD p undef)).run P w).andThen λa w₁=>((loadVar ty a).run P w₁).andThen λx w₂=>.ok (dF #[tmps.getD u undef,x,tmps.getD v undef]) w₂:=by simp only[results,h];simp[Sem.run_bind,Result.andThen]
def ApR(w w':World)(x:Int)(M S:List Zi)(e:Ending):Prop:=
 ∃ am nm cm sa ns cs,e = dE (dF #[F am nm cm,.agg #[F sa ns cs],E J x])/\CoinsAt w' am nm M/\SlOk am nm cm/\CoinsAt w' sa ns S/\SlOk sa ns cs/\ZD w w'
def ApF(w w':World)(x:Int)(M S:List Zi)(e:Ending):Prop:=
 ∃ am nm cm sa ns cs,e = dE (dF #[F am nm cm,.agg #[F sa ns cs],E J x])/\Fresh w.heap.size w' (λw2=>CoinsAt w2 am nm M)/\SlOk am nm cm/\CoinsAt w' sa ns S/\SlOk sa ns cs/\ZD w w'
theorem ApF.plain{w w'}{x:Int}{M S e}(h:ApF w w' x M S e):ApR w w' x M S e:=by have⟨am,nm,cm,sa,ns,cs,h1,h2,h3⟩:=h;exact⟨am,nm,cm,sa,ns,cs,h1,h2 _ (Gr.refl _ _),h3⟩
theorem Zw:SlOk aD 0 0:=⟨aF _,aH _,λ_=>⟨rfl,rfl⟩⟩
theorem Hx{w w':World}{x y:Int}{M S}{b:Nat}{v}(h:(x,M,S)=((y:Int),([]:List Zi),([]:List Zi))/\w.heap.size<=b)(hb:ZD w w'):ApF w (w'.setCell ⟨b,0,aD⟩ v) x M S (dE (dF #[F aD 0 0,.agg #[F aD 0 0],E J y])):=by have⟨h1,h2⟩:=h;injection h1 with h1 h3;injection h3 with h3 h4;subst h1 h3 h4;exact⟨aD,0,0,aD,0,0,rfl,λ_ _=>RowsAt.nil _ _,Zw,RowsAt.nil _ _,Zw,hb.setCell (p:=⟨b,0,aD⟩) h2 _⟩
theorem Lh(a n c L)(h:Int)(ai ao ni ci no co I O)(name ht:Int)(x:Int)(M S w)(hL:CoinsAt w a n L)(sL:SlOk a n c)(hI:InsAt w ai ni I)(hO:OutsAt w ao no O)(sI:SlOk ai ni ci)(hx:apD L (h,I,O) name ht=(x,M,S)) : Calls aB 136 #[F a n c,.agg #[E J h,F ai ni ci,F ao no co],E J name,E J ht] w λe w'=>ApF w w' x M S e:=by have⟨X0,ap⟩:=ZG ((w.alloc (dC #[E J h,F ai ni ci,F ao no co] 35)).alloc (dC #[F aD 0 0] 143));have ak:ZD w X0:=(by rw[ap];exact Ze (Zh _ _) (Zh _ _));have am:X0.heap[w.heap.size]? = dJ (dC [E J h,F ai ni ci,F ao no co].toArray 35 (0,0)):=(by rw[ap,bJ _ _ _ (by simp)];exact Zp _ _ _ _ _);have bj:X0.heap[w.heap.size+1]? = dJ (dC [F aD 0 0].toArray 143 (0,0)):=(by rw[ap];have:=aM (w.alloc (dC #[E J h,F ai ni ci,F ao no co] 35)) (dC #[F aD 0 0] 143);rw[show (w.alloc (dC #[E J h,F ai ni ci,F ao no co] 35)).heap.size=w.heap.size+1 by simp] at this;exact this);have⟨x1,h1⟩:=ZF (Xw L (h,I,O) name ht);have⟨⟨x2,S2,M2⟩,h2⟩:=ZF (Zs ht I [] L);have⟨x3,h3⟩:=ZF (Fo S2 (h,I,O));have⟨⟨x4,M4⟩,h4⟩:=ZF (Yn name ht (isR (h,I,O)) 0 O M2);have⟨x5,h5⟩:=ZF (Zz M4);rw[Zgl h1 h2 h3 h4 h5] at hx;have hR:isR (h,I,O)=decide (ni=0):=(by unfold isR;rw[<-hI.1]);have⟨C1,iw,et,ej⟩:=kh4 (Fv a n c L h ai ao ni ci no co I O name ht x1 X0 (hL.later ak) (hI.later ak) (hO.later ak) sI h1) am bj ak;by_cases e1:x1=0;{subst e1;rw[if_neg (by decide)] at hx;have⟨de,df,jd,jc,_⟩:=Ws h1;have⟨t1,t2,t3,_⟩:=Xh df;have fp:ni<=6:=(by rw[<-hI.1];exact t1);have fq:no<=6:=(by rw[<-hO.1];exact t2);have hn:n<=720:=(by rw[<-hL.1];exact de.len);have fs:=J9 df;have fa:=Zb (λw' (hb:ZD X0 w')=>Zlu a n c L w' (by omega) ((hL.later ak).later hb) sL);have HI:=Zb (λw' (hb:ZD X0 w')=>(hI.later ak).later hb);have HO:=Zb (λw' (hb:ZD X0 w')=>(hO.later ak).later hb);have⟨er,ik,H2,H3,H4,H5,HR,HX⟩:=kh8 de fs h2 h3 h4 h5 hR hx;have ix:=Zb hL.1;have jq:w.heap.size+1<X0.heap.size:=aA bj;obtain⟨x0,x1,-⟩:=kc2 am;have eg:=Zd am 2 _ rfl;clear hL sL hI hO sI h1 am bj ak de df jd jc t1 t2 t3 fs h2 h3 h4 h5 hR hx;go_enter func136,ntmps136;go_wp2_with fail;rw[<-ap];clear ap;refine dQ C1 λw2 af=>?_;have⟨ez,ii,en⟩:=kh3 (fa w2 af) (HI w2 af) (HO w2 af);have fl:=ZE af iw;have bs:=ZE af et;have⟨bw,bz,bf⟩:=kh3 fl bs (Ze ej af);clear af fl bs x0 x1 eg fa C1;go_wp2_with fail;refine ez.mono ?_;rintro e w3 ⟨p,v,K,rfl,hK,dc⟩;have cj:K.length=n:=(by rw[<-Za ix,<-hK,List.length_map]);have fy:Srt (K.map (·.1)):=(by rw[hK];exact er.srt);have dp:∀ z∈K,ck1 z.1=0:=λz hz=>er.one z.1 (by rw[<-hK];exact List.mem_map_of_mem hz);have SP:=Zb (Zmt w2 w3 p v K ai ni ci I ht x2 S2 M2 dc fy (by omega) dp ii fp (by rw[hK];exact Za H2));have fm:=ZE dc.bel bw;obtain⟨-,c1,jg⟩:=kc2 fm;have⟨eo,el⟩:=kh2 dp cj;have ki:w.heap.size+1<w2.heap.size:=aA bz;clear hK dc cj fy dp fm ez;go_wp2_with fail;refine SP.mono ?_;rintro e w4 ⟨sa,ns,cs,rfl,aq,ds⟩;have dm:=ZE aq bw;have dt:=ZE aq bz;obtain⟨d0,d1,d2,-⟩:=kc3 dm;obtain⟨u4,f4,-⟩:=kf1 dt;have jh:=aA dm;have ji:=aA dt;have ib:=Zb aq;clear dm dt c1 jg;by_cases e2:x2=0;{subst e2;have⟨v4,K4,T4,q1,q2,q3,q4,q5,q6,q7,q8,q9,dy,ga,s4,gb,gc,gf⟩:=ds rfl;have hx:=Za HX;rw[if_neg (by decide)] at hx;have eu:=Zb hx;have fi:∀ z∈T4,LkAt w4 z:=λz hz=>(q8 z hz).later aq;have dq:w4.ownsRow w2.heap.size 63 6 (F sa ns cs) T4.length (Zl T4):=(by have h:=q7;rw[q5] at h ⊢;exact h);have⟨ed,db,e,di,jp⟩:=Yq dq fi;have e2:sa=ed/\ns=T4.length/\cs=db:=(by injection e with e1 e2 e3;exact⟨e1,e2,e3⟩);obtain⟨rfl,-,rfl⟩:=e2;rw[q1,<-q5] at di;have jo:ns<=6:=(by rw[q5,q6];exact fp);have fh:∀ z∈S2,0<=cv z/\cv z<=1000000000:=λz hz=>(by rw[<-q1] at hz;obtain⟨y,hy,rfl⟩:=List.mem_map.1 hz;have:=Yj (eo y (dy y hy));omega);have⟨eh,il,im,iv⟩:=kh4 (Zkw sa ns cs S2 h ai ao ni ci no co O x3 w4 jo fq di (en.later aq) fh ik (by have:=Za H3;unfold Fo at this;rw[Za HR] at this;exact this)) ga dq q8;have HQ:Hid (T4.map (·.1)=S2/\K4.map (·.1)=M2/\Srt M2/\K4.length<=K.length/\ns=T4.length/\(cF sa ns cs).ownBlock=dJ s4/\v4.ownBlock≠dJ s4/\s4≠p):=⟨q1,q2,q3,q4,q5,gb,gc,gf⟩;have iu:=Zb dy;clear ds q1 q2 q3 q4 q5 q6 q7 q8 q9 dy ga gb gc gf hx fi dq di jp fh e aq;go_wp2_with fail;refine dQ eh λw5 dh=>?_;have cl:=il.kept dh;have dn:=ZE cl.bel bw;have du:=ZE cl.bel bz;obtain⟨g0,g1,g2,-⟩:=kc3 dn;obtain⟨u5,f5,-⟩:=kf1 du;have jj:=aA dn;have jk:=aA du;have⟨ep,io⟩:=kh2 cl ((Gr.of (S:=λ_=>False) dh).own im (λ_ _ q=>q));clear dh cl dn du d0 d1 d2 u4 f4 jh ji eh;by_cases e3:x3=0;{subst e3;have hx:=Za eu;rw[if_neg (by decide)] at hx;have ev:=Zb hx;have hq:=Za HQ;have cj:=Za el;have GV:=Zb (Zsz w2 w5 p v4 K4 h ai ao ni ci no co O name ht (decide (ni=0)) x4 M4 ep (by rw[hq.2.1];exact hq.2.2.1) (by omega) en fq rfl (by rw[hq.2.1,<-Za HR];exact Za H4));clear hx hq cj;go_wp2_with fail;refine GV.mono ?_;rintro e w6 ⟨rfl,cm,dl⟩;have jf:=ZE cm bw;have dv:=ZE cm bz;obtain⟨u6,f6,-⟩:=kf1 dv;have jl:=aA dv;have cw:=Zb cm;clear jf dv g0 g1 g2 u5 f5 jj jk;by_cases e4:x4=0;{subst e4;have⟨v6,K6,r1,r2,r3,r4,r5⟩:=dl rfl;have hx:=Za ev;rw[if_neg (by decide)] at hx;have ew:=Zb hx;obtain⟨a6,c6,rfl,cp,fv⟩:=r4.coins;have ff:K6.length<=726:=(by have:=HQ.2.2.2.1;have:=Za el;omega);have⟨n6,br⟩:=ZF (K6.length);rw[r1,br] at cp;have cn:=r4.box;rw[br] at cn;have p6:=Zd (X:=[F a6 n6 c6]) cn 0 _ rfl;have kg:=aA cn;have CK:=Zb (Vy a6 n6 c6 M4 x5 w6 cp H5);have hq:=Za HQ;have fo:¬PuS p v4 s4:=(by rintro (e|e);{exact hq.2.2.2.2.2.2.2 e};exact hq.2.2.2.2.2.2.1 e);have ft:=r5.own io (λk hk=>by rw[show (cF sa ns cs).ownBlock=dJ s4 from hq.2.2.2.2.2.1] at hk;cases hk;exact fo);have⟨ip,ic⟩:=kh2 ft cp;have ir:Hid (SlOk a6 n6 c6):=(by rw[<-br];exact fv);have kd:n6<=726:=(by rw[<-br];exact ff);clear dl hx r1 r2 r3 r4 r5 cp fv ff br cn hq fo ft cm;go_wp2_with fail;refine dQ CK λw7 ar=>?_;have p7:=Zf ar p6;have kh:=aC _ _ p7;have dw:=Zf ar u6;have jm:=aC _ _ dw;have f7:w7.frozen? ⟨w.heap.size+1,0,aD⟩=false:=(bR (w:=w6) (a:=⟨w.heap.size+1,0,aD⟩) (ar.block _ jl)).trans f6;have cx:Hid (ZD w2 w7):=cw.trans (ar.mono cw.size);have⟨id,iq⟩:=kh2 (ic.later ar) ((Gr.of (S:=λ_=>False) ar).own ip (λ_ _ q=>q));clear ar p6 u6 f6;by_cases e5:x5=0;{subst e5;have hx:=Za ew;rw[if_neg (by decide)] at hx;have jr:x=0:=(by injection hx with hx _;exact hx.symm);have js:M=M4:=(by injection hx with _ hx;injection hx with hx _;exact hx.symm);have jt:S=S2:=(by injection hx with _ hx;injection hx with _ hx;exact hx.symm);subst jr js jt;have fg:=(Z5 M).1 H5;have gv:=Zb (Rj a6 n6 c6 M w7 (by omega) id ir (λz hz=>by have:=Gw (Yj (fg.one z hz)).2.2.2.2.2.2.2.2;omega));clear hx fg;go_wp2_with fail;refine gv.mono ?_;rintro e w8 ⟨a8,c8,rfl,fj,fw,bd⟩;have fu:=(Gr.of (S:=λ_=>False) bd).own iq (λ_ _ q=>q);have dg:ZD w2 w8:=cx.trans (bd.mono cx.size);have hq:=Za HQ;have⟨ed,db,e,dj,dr⟩:=Yq fu (λz hz=>(iv z hz).later dg);have e2:sa=ed/\cs=db:=(by injection e with e1 e2 e3;exact⟨e1,e3⟩);obtain⟨rfl,rfl⟩:=e2;rw[hq.1,<-hq.2.2.2.2.1] at dj;rw[<-hq.2.2.2.2.1] at dr;have gw:=Zb (Rj sa ns cs S w8 (by omega) dj dr (λz hz=>by rw[<-hq.1] at hz;obtain⟨y,hy,rfl⟩:=List.mem_map.1 hz;have:=Gw (Yj (eo y (iu y hy))).2.2.2.2.2.2.2.2;omega));have u8:=Zf bd dw;have jn:=aC _ _ u8;have f8:w8.frozen? ⟨w.heap.size+1,0,aD⟩=false:=(bR (w:=w7) (a:=⟨w.heap.size+1,0,aD⟩) (bd.block _ jm)).trans f7;have⟨ig,it,ek⟩:=kh3 fj fw dg;have ke:w7.heap.size<=w8.heap.size:=bd.size;clear fj fw bd fu dg hq dj dr e p7 dw f7;go_wp2_with fail;refine gw.mono ?_;rintro e w9 ⟨a9,c9,rfl,fk,fx,bq⟩;have u9:=Zf bq u8;have kf:=aC _ _ u9;have f9:w9.frozen? ⟨w.heap.size+1,0,aD⟩=false:=(bR (w:=w8) (a:=⟨w.heap.size+1,0,aD⟩) (bq.block _ jn)).trans f8;have ie:Hid (ApF w (w9.setCell ⟨w.heap.size+1,0,aD⟩ (F a9 ns c9)) 0 M S (dE (dF #[F a8 n6 c8,.agg #[F a9 ns c9],E J 0]))):=(by refine⟨a8,n6,c8,a9,ns,c9,rfl,?_,Za it,?_,fx,?_⟩;{exact λw2 g2=>ig w2 (((Gr.of bq).one (w.heap.size+1) 0 (.inl (by show w.heap.size+1<w7.heap.size;omega)) _).trans (g2.mono (λ_ _ hk=>aE hk (by omega))))};{exact fk _ ((Gr.refl w9 (λk=>k<w8.heap.size)).one (w.heap.size+1) 0 (.inl (by show w.heap.size+1<w8.heap.size;omega)) _)};have je:ZD w2 w9:=ek.trans (bq.mono ek.size);exact (Ze bf je).setCell (p:=⟨w.heap.size+1,0,aD⟩) (Nat.le_succ _) _);clear fk fx bq u8 f8;go_wp2;(try simp only[aQ,Exit.then]);refine aG (v:=dF #[F a8 n6 c8,.agg #[F a9 ns c9],E J 0]) ?_ rfl ie;rw[Z9 rfl];go_simp};have g:=dS e5;have HE:Hid ((x,M,S)=((x5:Int),([]:List Zi),([]:List Zi))/\w.heap.size<=w.heap.size+1):=⟨by have:=Za ew;rw[if_pos e5] at this;exact this.symm,Nat.le_succ _⟩;have ag:=Zb (Ze bf cx);clear e5 p7;go_wp2;(try simp only[aQ,Exit.then]);refine aG (v:=dF #[F aD 0 0,.agg #[F aD 0 0],E J x5]) ?_ rfl ?_;{rw[Z9 rfl];go_simp};exact Hx HE ag};have g:=dU e4;have g':=dS e4;have HE:Hid ((x,M,S)=((x4:Int),([]:List Zi),([]:List Zi))/\w.heap.size<=w.heap.size+1):=⟨by have:=Za ev;rw[if_pos e4] at this;exact this.symm,Nat.le_succ _⟩;have ag:=Zb (Ze bf cw);clear e4 dl;go_wp2;(try simp only[aQ,Exit.then]);refine aG (v:=dF #[F aD 0 0,.agg #[F aD 0 0],E J x4]) ?_ rfl ?_;{rw[Z9 rfl];go_simp};exact Hx HE ag};have g:=dU e3;have g':=dS e3;have HE:Hid ((x,M,S)=((x3:Int),([]:List Zi),([]:List Zi))/\w.heap.size<=w.heap.size+1):=⟨by have:=Za eu;rw[if_pos e3] at this;exact this.symm,Nat.le_succ _⟩;have ag:=Zb (Ze bf ep.bel);clear e3;go_wp2;(try simp only[aQ,Exit.then]);refine aG (v:=dF #[F aD 0 0,.agg #[F aD 0 0],E J x3]) ?_ rfl ?_;{rw[Z9 rfl];go_simp};exact Hx HE ag};have g:=dU e2;have g':=dS e2;have HE:Hid ((x,M,S)=((x2:Int),([]:List Zi),([]:List Zi))/\w.heap.size<=w.heap.size+1):=⟨by have:=Za HX;rw[if_pos e2] at this;exact this.symm,Nat.le_succ _⟩;have ag:=Zb (Ze bf ib);clear e2 ds aq;go_wp2;(try simp only[aQ,Exit.then]);refine aG (v:=dF #[F aD 0 0,.agg #[F aD 0 0],E J x2]) ?_ rfl ?_;{rw[Z9 rfl];go_simp};exact Hx HE ag};have g:=dS e1;have HE:Hid ((x,M,S)=((x1:Int),([]:List Zi),([]:List Zi))/\w.heap.size<=w.heap.size+1):=⟨by rw[if_pos e1] at hx;exact hx.symm,Nat.le_succ _⟩;have x0:=Zd am 0 _ rfl;have jy:=Zd am 1 _ rfl;have eg:=Zd am 2 _ rfl;have jq:w.heap.size+1<X0.heap.size:=aA bj;clear hL sL hI hO sI h1 am bj ak h2 h3 h4 h5 hR hx e1;go_enter func136,ntmps136;go_wp2_with fail;rw[<-ap];clear ap;refine dQ C1 λw2 af=>?_;have bs:=ZE af et;obtain⟨u2,f2,-⟩:=kf1 bs;have ag:=Zb (Ze ej af);clear af bs x0 jy eg;go_wp2;(try simp only[aQ,Exit.then]);refine aG (v:=dF #[F aD 0 0,.agg #[F aD 0 0],E J x1]) ?_ rfl ?_;{rw[Z9 rfl];go_simp};exact Hx HE ag
theorem Zqm(a n c L)(h:Int)(ai ao ni ci no co I O)(name ht:Int)(x:Int)(M S w)(hL:CoinsAt w a n L)(sL:SlOk a n c)(hI:InsAt w ai ni I)(hO:OutsAt w ao no O)(sI:SlOk ai ni ci)(hx:apD L (h,I,O) name ht=(x,M,S)) : Calls aB 136 #[F a n c,.agg #[E J h,F ai ni ci,F ao no co],E J name,E J ht] w λe w'=>ApR w w' x M S e:=(Lh a n c L h ai ao ni ci no co I O name ht x M S w hL sL hI hO sI hx).mono λ_ _ q=>q.plain
theorem Zir{P:Program}{w:World}{ops}{o:Oper}{a:Act}{K:Act->World->Prop}{Q:Exit->Act->World->Prop}{aa:Prop} (hg:o.guard=aD) (l c:Operand) (t:aZ) (al:o.op=Op.makeSlice t l c) (base:Nat) (e:aZ) (i:TypeInfo) (z:Value) (size:Nat) (h1:P.underlying t=dJ (.slice e)) (h2:P.info? e=dJ i) (h3:i.zero=dJ z) (h4:i.size=size) (kl kc:IntKind) (L C:Int) (n:Nat) (hl:a.eval l = .int kl L) (hc:a.eval c = .int kc C) (hL:L=(n:Int)) (hC:C=(n:Int)) (b2:i.bytes*n<=281474976710656) (b3:n<=aS) (b4:base<=w.heap.size) (H:Nat) (hH:w.heap.size=H) (hK:∀ w',w'.ownsRow base e size (F (dJ ⟨H,0,aD⟩) n n) n (madeCells z.cells (n*size)).toList->w.grownBy w' aD->K (a.put o.dst (F (dJ ⟨H,0,aD⟩) n n)) w') : if Region.wanted o (yielded ops a.tmps)=true then Oper.wp P o a w K Q else aa:=by rw[if_pos (by simp[Region.wanted,hg])];subst hH;have⟨w',am,r1,r2⟩:=run_make_full (P:=P) w base t e i z size h1 h2 h3 h4 kl kc n b2 b3 b4;subst hL;subst hC;unfold Oper.wp;simp[execOp,al,hl,hc,am,Result.andThen];exact hK w' r1 r2
def U4:TxD:=(0,[],[])
def Wu(h r:Int)(T:List TxD)(N:List Int):Nat->Nat->List Zi->List (List Zi)->Int×List Zi×List (List Zi)
 | 0,_,C,S=>(0,C,S)
 | q+1,k,C,S=>
  if (k+1) % T.length=0/\Xa r T S T.length<0 then (9,[],[])
  else if (apD C (T.getD ((k+1) % T.length) U4) (N.getD ((k+1) % T.length) 0) h).1≠0 then ((apD C (T.getD ((k+1) % T.length) U4) (N.getD ((k+1) % T.length) 0) h).1,[],[])
  else Wu h r T N q (k+1) (apD C (T.getD ((k+1) % T.length) U4) (N.getD ((k+1) % T.length) 0) h).2.1 (S.set ((k+1) % T.length) (apD C (T.getD ((k+1) % T.length) U4) (N.getD ((k+1) % T.length) 0) h).2.2)
def Xk(K:List ByteArray)(C:List Zi)(b:Zk):Int×List Zi×List (List Zi):=
 if (nfD K C b).2≠0 then ((nfD K C b).2,[],[]) else Wu b.2.1 (rwD b.2.1).1 b.2.2.2.2 (nfD K C b).1 b.2.2.2.2.length 0 C (cA b.2.2.2.2.length [])
theorem Dk{h r:Int}{T:List TxD}{N:List Int}{q k i:Nat}{C}{S:List (List Zi)}(hi:(k+1) % T.length=i){t}(ht:T.getD i U4=t){nm:Int}(hn:N.getD i 0=nm){y:Int}{M s}(ha:apD C t nm h=(y,M,s)) : Wu h r T N (q+1) k C S=if i=0/\Xa r T S T.length<0 then (9,[],[]) else if y≠0 then (y,[],[]) else Wu h r T N q (k+1) M (S.set i s):=by rw[Wu,hi,ht,hn,ha]
theorem Ac(h:Int):∀ (I:List InD) (S L S' M:List Zi),Zs h I S L=(0,S',M)->S'.length=S.length+I.length/\∀ c∈S',c∈S\/c∈L
 | [],S,L,S',M,e=>by
  simp only[Zs,Prod.mk.injEq] at e;obtain⟨_,rfl,rfl⟩:=e;exact⟨by simp,λc hc=>.inl hc⟩
 | x :: I,S,L,S',M,e=>by
  rw[Zs] at e;split at e
  ·simp at e
  next c L' hT=>
  split at e
  ·simp at e
  split at e
  ·simp at e
  have⟨h1,h2⟩:=Ac h I (S++[c]) L' S' M e;refine⟨by rw[h1];simp;omega,λz hz=>?_⟩;have⟨q1,_,q2⟩:=Ss hT
  rcases h2 z hz with q|q
  ·rcases bN.1 q with q|q
   ·exact .inl q
   rw[cP.1 q];exact .inr q1
  rw[q2] at q;exact .inr (List.mem_filter.1 q).1
theorem En{L t}{name h:Int}{M S:List Zi}(e:apD L t name h=(0,M,S)):S.length<=6/\∀ c∈S,0<=cv c/\cv c<=1000000000:=by
 unfold apD at e;split at e
 ·next q=>simp at e;exact absurd e.1 q
 next q=>
 split at e
 ·next q=>simp at e;exact absurd e.1 q
 next q2=>
 split at e
 ·next q=>simp at e;exact absurd e.1 q
 split at e
 ·next q=>simp at e;exact absurd e.1 q
 split at e
 ·next q=>simp at e;exact absurd e.1 q
 have q:=bE.1 q;have q2:=bE.1 q2;have⟨hR,hT,_⟩:=Ws q;simp only[Prod.mk.injEq] at e;obtain⟨_,_,rfl⟩:=e;obtain⟨x,S',M',hs⟩:∃ x S' M',Zs h t.2.1 [] L=(x,S',M'):=⟨_,_,_,rfl⟩;rw[hs] at q2 ⊢;simp only at q2;subst q2;have⟨h1,h2⟩:=Ac h t.2.1 [] L S' M' hs;have h6:=(Xh hT).1;refine⟨by simp at h1;simp only;omega,λc hc=>?_⟩
 rcases h2 c hc with q|q
 ·cases q
 have:=Yj (hR.one c q);omega
theorem Zdq{w:World}{b:Nat}{X:List Value}{t:aZ}(h:w.heap[b]? = dJ (dC X.toArray t (0,0)))(j:Nat)(u):(w.setCell ⟨b,j,aD⟩ u).heap[b]? = dJ (dC (X.set j u).toArray t (0,0)):=by rw[setCell_eq_setRow w b j X.toArray t (0,0) u h];have:=setRow_heap w b _ (X.toArray.setIfInBounds j u) t _ h;simpa using this
def UsOk(ty:aZ)(g m:Nat)(w:World):Prop:=∃ cs:List Value,w.heap[g]? = dJ (dC cs.toArray ty (0,0))/\cs.length=m/\∀ v∈cs,∃ a n c,v = F a n c
def UsAt(ty:aZ)(g:Nat)(S:List (List Zi))(w:World):Prop:=∃ cs:List Value,w.heap[g]? = dJ (dC cs.toArray ty (0,0))/\cs.length=S.length/\∀ i (h:i<S.length),∃ a n c,cs[i]? = dJ (F a n c)/\CoinsAt w a n S[i]/\SlOk a n c
section
section
variable {ty : TypeId} {g m : Nat} {w w' : World} {S : List (List Zi)}
theorem UsAt.ok(h:UsAt ty g S w):UsOk ty g S.length w:=by have⟨cs,h1,h2,h3⟩:=h;refine⟨cs,h1,h2,λv hv=>?_⟩;obtain⟨i,hi,rfl⟩:=List.getElem_of_mem hv;have⟨a,n,c,h4,_⟩:=h3 i (by omega);rw[bQ hi] at h4;exact⟨a,n,c,Option.some.inj h4⟩
theorem UsOk.lt(h:UsOk ty g m w):g<w.heap.size:=by have⟨cs,h1,_⟩:=h;exact aA h1
theorem UsOk.later(h:UsOk ty g m w)(hb:ZD w w'):UsOk ty g m w':=by have⟨cs,h1,h2,h3⟩:=h;exact⟨cs,(hb.block g (aA h1)).trans h1,h2,h3⟩
theorem UsOk.cell(h:UsOk ty g m w){i:Nat}(hi:i<m):∃ z,dV w g i z:=by have⟨cs,h1,h2,_⟩:=h;exact⟨cs[i]'(by omega),Zd h1 i _ (bQ (by omega))⟩
theorem UsOk.free(h:UsOk ty g m w)(i:Nat):w.frozen? ⟨g,i,aD⟩=false:=by have⟨cs,h1,_⟩:=h;exact Zg h1 i
theorem UsOk.put(h:UsOk ty g m w)(i:Nat)(a n c):UsOk ty g m (w.setCell ⟨g,i,aD⟩ (F a n c)):=by have⟨cs,h1,h2,h3⟩:=h;refine⟨cs.set i (F a n c),Zdq h1 i _,by simpa using h2,λv hv=>?_⟩;rcases List.mem_or_eq_of_mem_set hv with q|rfl;{exact h3 v q};exact⟨a,n,c,rfl⟩
theorem UsOk.other(h:UsOk ty g m w){b o:Nat}{k:IntKind}{x:Int}(hc:w.cell? ⟨b,o,aD⟩=dJ (.int k x)):b≠g:=by rintro rfl;have⟨cs,h1,_,h3⟩:=h;have:cs[o]? = dJ (.int k x):=(by rw[cell_of_row w b o cs.toArray ty (0,0) h1] at hc;simpa using hc);have⟨a,n,c,e⟩:=h3 _ (List.mem_of_getElem? this);cases e
theorem Zuj{a n l}(h:OpsAt w a n l)(ho:UsOk ty g m w)(hg:Gr w w' (λq=>q=g)):OpsAt w' a n l:=by refine⟨h.1,λh0=>?_⟩;obtain⟨b,off,rfl,hc⟩:=h.2 h0;refine⟨b,off,rfl,λi hi=>?_⟩;have⟨c0,c1⟩:=hc i hi;have hb:=hg.block b (aC _ _ c0) (ho.other c0);exact⟨(bO (a:=⟨b,off+i*2,aD⟩) hb).trans c0,(bO (a:=⟨b,off+i*2+1,aD⟩) hb).trans c1⟩
theorem Uu{a n L}(h:CoinsAt w a n L)(ho:UsOk ty g m w)(hg:Gr w w' (λq=>q=g)):CoinsAt w' a n L:=by refine⟨h.1,λh0=>?_⟩;obtain⟨b,off,rfl,hl,hc⟩:=h.2 h0;refine⟨b,off,rfl,aE hl hg.size,λi hi=>?_⟩;have⟨c0,c1,c2,⟨la,ln,lc,c3,h5,h6⟩,c4,c5⟩:=hc i hi;have hb:=hg.block b hl (ho.other c0);have k:=λ(o:Nat)=>bO (a:=⟨b,o,aD⟩) hb;exact⟨(k _).trans c0,(k _).trans c1,(k _).trans c2,⟨la,ln,lc,(k _).trans c3,Zuj h5 ho hg,h6⟩,(k _).trans c4,(k _).trans c5⟩
theorem UsAt.later(h:UsAt ty g S w)(hb:ZD w w'):UsAt ty g S w':=by have⟨cs,h1,h2,h3⟩:=h;refine⟨cs,(hb.block g (aA h1)).trans h1,h2,λi hi=>?_⟩;have⟨a,n,c,q1,q2,q3⟩:=h3 i hi;exact⟨a,n,c,q1,q2.later hb,q3⟩
theorem UsAt.put(h:UsAt ty g S w)(i:Nat){a n c s}(hs:CoinsAt w a n s)(sl:SlOk a n c):UsAt ty g (S.set i s) (w.setCell ⟨g,i,aD⟩ (F a n c)):=by have ho:=h.ok;have hg:=(Gr.refl w (λq=>q=g)).one g i (.inl rfl) (F a n c);have⟨cs,h1,h2,h3⟩:=h;refine⟨cs.set i (F a n c),Zdq h1 i _,by simpa using h2,λj hj=>?_⟩;have ae:j<S.length:=(by simpa using hj);by_cases e:i=j;{subst e;refine⟨a,n,c,by rw[List.getElem?_set_self (by omega)],?_,sl⟩;rw[List.getElem_set_self];exact Uu hs ho hg};have⟨a',n',c',q1,q2,q3⟩:=h3 j ae;refine⟨a',n',c',by rw[List.getElem?_set_ne e];exact q1,?_,q3⟩;rw[List.getElem_set_ne e];exact Uu q2 ho hg
theorem UsAt.undo(h:UsAt ty g S w)(i:Nat)(hi:i<S.length):UndoAt w g (0+i) S[i]:=by have⟨cs,h1,h2,h3⟩:=h;have⟨a,n,c,q1,q2,q3⟩:=h3 i hi;exact⟨a,n,c,by rw[bW];exact Zd h1 i _ q1,q2,q3⟩
theorem Zls{base:Nat}(h:w.ownsRow base ty 1 (F (dJ ⟨g,0,aD⟩) m m) m (cA m (F aD 0 0))):UsAt ty g (cA m []) w:=by rcases h.2 with ⟨e,_⟩|⟨g',ad,aa,e,hg,hh,h1,h2,h3,h4⟩;{cases e};cases e;refine⟨aa.toList,by simpa using hh,?_,λi hi=>?_⟩;{simp;omega};have ac:i<m:=(by simpa using hi);refine⟨aD,0,0,?_,?_,Zw⟩;{have h5:(aa.toList.take (m*1))[i]? = (cA m (cF aD 0 0))[i]?:=(by rw[h4]);rw[List.getElem?_take,if_pos (by omega)] at h5;rw[h5];simp[ac]};rw[List.getElem_replicate];exact⟨rfl,λh=>absurd h (by omega)⟩
end
def UndosAt(w:World)(a:Option Addr)(n:Nat)(S:List (List Zi)):Prop:=S.length=n/\(0<n->∃ b off,a=dJ ⟨b,off,aD⟩/\b<w.heap.size/\∀ i (h:i<S.length),UndoAt w b (off+i) S[i])
theorem UndosAt.later{w w':World}{a n S}(h:UndosAt w a n S)(hb:ZD w w'):UndosAt w' a n S:=by refine⟨h.1,λh0=>?_⟩;have⟨b,off,e,hl,hc⟩:=h.2 h0;exact⟨b,off,e,aE hl hb.size,λi hi=>(hc i hi).kept hb⟩
theorem UsAt.undos{ty:aZ}{g}{S:List (List Zi)}{w}(h:UsAt ty g S w):UndosAt w (dJ ⟨g,0,aD⟩) S.length S:=⟨rfl,λ_=>⟨g,0,rfl,h.ok.lt,λi hi=>h.undo i hi⟩⟩
def Zll(w w':World)(x:Int)(C:List Zi)(S:List (List Zi))(e:Ending):Prop:=
 ∃ a n c ua un uc,e = dE (dF #[F a n c,F ua un uc,E J x])/\CoinsAt w' a n C/\SlOk a n c/\UndosAt w' ua un S/\SlOk ua un uc/\ZD w w'/\∀ ad,ua=dJ ad->w.heap.size<=ad.block
theorem Tw{w w':World}{x y:Int}{C S}(h:((y:Int),([]:List Zi),([]:List (List Zi)))=(x,C,S))(hb:ZD w w'):Zll w w' x C S (dE (dF #[F aD 0 0,F aD 0 0,E J y])):=by injection h with h1 h2;injection h2 with h2 h3;subst h1 h2 h3;exact⟨aD,0,0,aD,0,0,rfl,⟨rfl,λh=>absurd h (by omega)⟩,Zw,⟨rfl,λh=>absurd h (by omega)⟩,Zw,hb,λad e=>by cases e⟩
end
theorem Zsa(w a):OpsAt w a 0 []:=⟨rfl,λh=>absurd h (by omega)⟩
def flat:List (Int×Int)->List Value
 | []=>[]
 | o :: r=>E J o.1 :: E J o.2 :: flat r
theorem W7:∀ l:List (Int×Int),(flat l).length=l.length*2
 | []=>rfl
 | _ :: r=>by simp only[flat,bX,W7 r];omega
theorem Kx:∀ l m:List (Int×Int),flat (l++m)=flat l++flat m
 | [],_=>rfl
 | _ :: r,m=>by simp only[List.cons_append,flat,Kx r m]
theorem Rg:∀ (l:List (Int×Int)) (i:Nat),i<l.length->(flat l)[i*2]? = dJ (E J (l.getD i (0,0)).1)/\(flat l)[i*2+1]? = dJ (E J (l.getD i (0,0)).2)
 | [],i,h=>absurd h (by simp)
 | o :: r,0,_=>⟨rfl,rfl⟩
 | o :: r,i+1,h=>by
  have:=Rg r i (by simpa using h);have e:(i+1)*2=i*2+2:=by omega
  rw[e];exact this
theorem flat_one:∀ (l:List (Int×Int)) (u:Value),u∈flat l->u.oneCell'=true
 | [],_,h=>by cases h
 | o :: r,u,h=>by
  simp only[flat,aY] at h
  rcases h with rfl|rfl|h
  ·rfl
  ·rfl
  exact flat_one r u h
theorem OpsAt.flat{w:World}{x:Addr}{len:Nat}{l}(h:OpsAt w (dJ x) len l)(j:Nat)(u)(hj:(flat l)[j]? = dJ u):w.cell? (x.add j)=dJ u:=by have ad:j<(YtnkcjkcbfbpckaaGreatDoor.flat l).length:=(by rcases Nat.lt_or_ge j (YtnkcjkcbfbpckaaGreatDoor.flat l).length with h|h;{exact h};rw[List.getElem?_eq_none h] at hj;cases hj);rw[W7] at ad;have hz:=h.1;have⟨b,off,hx,hc⟩:=h.2 (by omega);cases hx;have ac:(⟨b,off,aD⟩:Addr).add j=⟨b,off+j,aD⟩:=(by unfold Addr.add;split <;> simp_all);rw[ac];obtain⟨i,hi|hi⟩:∃ i,j=i*2\/j=i*2+1:=⟨j / 2,by omega⟩;{subst hi;have f:=(Rg l i (by omega)).1;rw[f] at hj;rw[(hc i (by omega)).1];exact hj};subst hi;have f:=(Rg l i (by omega)).2;rw[f] at hj;rw[<-Nat.add_assoc,(hc i (by omega)).2];exact hj
theorem Nf{w:World}{base:Nat}{e:aZ}{v}{n:Nat}{l}(h:w.ownsRow base e 2 v n (flat l)):∃ a cap,v = F a n cap/\OpsAt w a n l:=by have hl:l.length=n:=(by have:=h.1;rw[W7] at this;omega);rcases h.2 with ⟨rfl,rfl⟩|⟨g,cap,ab,rfl,_,_,_,_,_,_⟩;{have e:l=[]:=aJ.1 hl;subst e;exact⟨aD,0,rfl,Zsa _ _⟩};refine⟨_,cap,rfl,hl,λ_=>⟨g,0,rfl,λi hi=>?_⟩⟩;have f:=Rg l i (by omega);rw[bW,bI h (i*2) (by omega),bI h (i*2+1) (by omega)];exact f
theorem Qq{w:World}{base:Nat}{e:aZ}{size:Nat}{v:Value}{n:Nat}{xs}(h:w.ownsRow base e size v n xs)(k:Nat)(hk:v.ownBlock=dJ k):base<=k:=by rcases h.2 with ⟨rfl,_⟩|⟨g,cap,ac,rfl,hg,_⟩;{cases hk};cases hk;exact hg
theorem Xm{w w':World}{base:Nat}{e:aZ}{size:Nat}{v}{n:Nat}{xs}(h:w.ownsRow base e size v n xs)(hb:ZD w w'):w'.ownsRow base e size v n xs:=by obtain⟨hl,h0|⟨g,cap,ac,hv,hg,hh,r⟩⟩:=h;{exact⟨hl,.inl h0⟩};exact⟨hl,.inr ⟨g,cap,ac,hv,hg,(hb.block g (aA hh)).trans hh,r⟩⟩
theorem Na{w:World}{base aa:Nat}{e:aZ}{size:Nat}{v}{n:Nat}{xs}(h:w.ownsRow base e size v n xs)(hb:aa<=base):w.ownsRow aa e size v n xs:=by obtain⟨hl,h0|⟨g,cap,ac,hv,hg,hh,r⟩⟩:=h;{exact⟨hl,.inl h0⟩};exact⟨hl,.inr ⟨g,cap,ac,hv,aR hb hg,hh,r⟩⟩
def Zhs:List (InD×Value)->List Value
 | []=>[]
 | x :: r=>E J x.1.1 :: E J x.1.2.1 :: x.2 :: Zhs r
def Zbh:List (Z0×Value)->List Value
 | []=>[]
 | x :: r=>E J x.1.1 :: x.2 :: Zbh r
theorem Wy{w w':World}{base:Nat}{e:aZ}{size:Nat}{v}{n:Nat}{xs}(h:w.ownsRow base e size v n xs)(hk:∀ (k:Nat) (cs:Array Value),w.heap[k]? = dJ (dC cs e (0,0))->w'.heap[k]? = w.heap[k]?):w'.ownsRow base e size v n xs:=by obtain⟨hl,h0|⟨g,cap,aa,hv,hg,hh,r⟩⟩:=h;{exact⟨hl,.inl h0⟩};exact⟨hl,.inr ⟨g,cap,aa,hv,hg,(hk g aa hh).trans hh,r⟩⟩
structure PL(w:World)(q p lb:Nat)(A:Array Value)(h:Int)(wr:World)(v1 v2:Value)(L1:List (InD×Value))(L2:List (Z0×Value)):Prop where
 box:wr.heap[p]? = dJ (dC #[E J h,v1,v2] 35 (0,0))
 res:wr.heap[q]? = dJ (dC #[E J 0,F aD 0 0,F aD 0 0] 35 (0,0))
 pq:p≠q
 lin:wr.heap[lb]? = dJ (dC A 9 (0,0))
 own1:wr.ownsRow w.heap.size 133 3 v1 L1.length (Zhs L1)
 own2:wr.ownsRow w.heap.size 61 2 v2 L2.length (Zbh L2)
 keys1:∀ x∈L1,wr.ownsRow w.heap.size 66 2 x.2 x.1.2.2.length (flat x.1.2.2)
 keys2:∀ x∈L2,wr.ownsRow w.heap.size 66 2 x.2 x.1.2.length (flat x.1.2)
 bel:ZD w wr
 pge:w.heap.size<=p
theorem PL.later{w}{q p lb:Nat}{A}{h:Int}{wr w':World}{v1 v2 L1 L2}(s:PL w q p lb A h wr v1 v2 L1 L2)(hb:ZD wr w'):PL w q p lb A h w' v1 v2 L1 L2 where
 box:=ZE hb s.box
 res:=ZE hb s.res
 pq:=s.pq
 lin:=ZE hb s.lin
 own1:=Xm s.own1 hb
 own2:=Xm s.own2 hb
 keys1:=λx hx=>Xm (s.keys1 x hx) hb
 keys2:=λx hx=>Xm (s.keys2 x hx) hb
 bel:=Ze s.bel hb
 pge:=s.pge
theorem Hq{w w':World}{base:Nat}{e:aZ}{size:Nat}{v:Value}{n:Nat}{xs}(h:w.ownsRow base e size v n xs)(hg:w.grownBy w' v.ownBlock)(k:Nat)(cs)(t:aZ)(hk:w.heap[k]? = dJ (dC cs t (0,0)))(ht:t≠e):w'.heap[k]? = w.heap[k]?:=by refine hg.block k (aA hk) (λe1=>?_);obtain⟨_,⟨rfl,_⟩|⟨g,cap,ag,rfl,_,hh,_⟩⟩:=h;{cases e1};have e2:k=g:=(by injection e1);subst e2;rw[hk] at hh;injection hh with hh;injection hh with _ hh;exact ht hh
theorem PL.alloc{w}{q p lb:Nat}{A}{h:Int}{wr:World}{v1 v2 L1 L2}(s:PL w q p lb A h wr v1 v2 L1 L2)(o:Obj):PL w q p lb A h (wr.alloc o) v1 v2 L1 L2:=s.later (Zh wr o)
theorem PL.drewN{w}{q p lb:Nat}{A}{h:Int}{wr:World}{v1 v2 L1 L2}(s:PL w q p lb A h wr v1 v2 L1 L2)(n:Nat):PL w q p lb A h (wr.drewN n) v1 v2 L1 L2:=s.later ⟨rfl,rfl,rfl,aF _,λ_ _=>rfl⟩
def hd1(x:List UInt8):Option UInt8:=x.head?
theorem Zkl{p h k n:Int}(f:Xr p h k n=true):∀ z∈[p,h,k,n],-10000000000<=z/\z<=10000000000:=by simp only[Xr,aX,decide_eq_true_eq] at f;intro z hz;simp only[aY,List.not_mem_nil,or_false] at hz;rcases hz with rfl|rfl|rfl|rfl <;> omega
theorem Kg:∀ (l L:List ByteArray) (N:List Int) (M:List ByteArray) (N':List Int),Bk.nmGo L N l=(M,N',0)->N'=N++l.map (λs=>(Bk.place s M:Int))/\∀ s∈l,0<Bk.place s M/\s.size<=4000
 | [],L,N,M,N',h=>by
  unfold Bk.nmGo at h;injection h with _ h;injection h with h _;exact⟨by simp[h],λs hs=>by cases hs⟩
 | s :: r,L,N,M,N',h=>by
  rw[Bk.nmGo] at h;split at h
  ·next q=>
   have⟨p1,p2,p3⟩:=Bk.nm_place q;have⟨X,hX⟩:=Bk.nmGo_grows r (Bk.nm L s).1 (N++[(Bk.nm L s).2.1]) (by rw[h]);rw[h] at hX;simp only at hX;have⟨h1,h2⟩:=Kg r _ _ M N' h;have e:Bk.place s M=Bk.place s (Bk.nm L s).1:=(by rw[hX];exact Bk.place_stays X p2);refine⟨?_,λz hz=>?_⟩
   ·rw[h1,List.append_assoc,p1,<-e];rfl
   rcases aY.1 hz with rfl|hz
   ·exact⟨by rw[e];exact p2,p3⟩
   exact h2 z hz
  next q=>
  injection h with _ h;injection h with _ h;exact absurd h q
theorem Bs{K l X N}(h:Bk.allR K l=(X,N,0)):Bk.Right K/\Bk.nmGo K [] l=(X,N,0):=by
 unfold Bk.allR at h;split at h
 ·next q=>exact⟨(Bk.right_iff K).1 q,h⟩
 next q=>
 injection h with _ h;injection h with _ h;exact absurd h q
theorem Zgn{K l X N}(h:Bk.allR K l=(X,N,0)):Bk.Right X/\∃ M,X=K++M:=by have⟨h1,h2⟩:=Bs h;have r:=Bk.nmGo_right l K [] h1 (by rw[h2]);have g:=Bk.nmGo_grows l K [] (by rw[h2]);rw[h2] at r g;exact⟨r,g⟩
theorem Gk{K}{b:Zk}{X}{n:Int}{ns}(h:Xn K b=(X,n,ns,0)):Yr b=0/\Bk.Right X/\(∀ s∈Yl b,0<Bk.place s X/\s.size<=4000)/\n=(Bk.place (Xo b) X:Int)/\ns=b.2.2.2.2.map (λt=>(Bk.place (Zr t) X:Int))/\∃ M,X=K++M:=by
 unfold Xn at h;split at h
 ·next q=>
  injection h with _ h;injection h with _ h;injection h with _ h;exact absurd h q
 next q=>
 split at h
 ·next q2=>
  injection h with _ h;injection h with _ h;injection h with _ h;exact absurd h q2
 next q2=>
 obtain⟨X',N,x,e⟩:∃ X' N x,Bk.allR K (Yl b)=(X',N,x):=⟨_,_,_,rfl⟩;rw[e] at h q2;obtain rfl:x=0:=bE.1 q2;injection h with h1 h;injection h with h2 h;injection h with h3 _;simp only at h1 h2 h3;subst h1;have⟨r,g⟩:=Zgn e;have⟨p1,p2⟩:=Kg _ _ _ _ _ (Bs e).2;rw[List.nil_append] at p1;refine⟨bE.1 q,r,p2,?_,?_,g⟩
 ·rw[<-h2,p1];simp[Yl]
 rw[<-h3,p1];simp[Yl]
theorem hasP_no{p:PtD}{L}:We p L=false↔∀ c∈L,pt c≠p:=by rw[<-Bool.not_eq_true,Vq];exact⟨λh c hc e=>h ⟨c,hc,e⟩,λh ⟨c,hc,e⟩=>h c hc e⟩
theorem G0{L M S}{t:TxD}{name h:Int}(e:apD L t name h=(0,M,S)):Xw L t name h=0/\∃ M2,Zs h t.2.1 [] L=(0,S,M2)/\Fo S t=0/\Yn name h (isR t) 0 t.2.2 M2=(0,M)/\Zz M=0:=by have⟨x1,h1⟩:=ZF (Xw L t name h);have⟨⟨x2,S2,M2⟩,h2⟩:=ZF (Zs h t.2.1 [] L);have⟨x3,h3⟩:=ZF (Fo S2 t);have⟨⟨x4,M4⟩,h4⟩:=ZF (Yn name h (isR t) 0 t.2.2 M2);have⟨x5,h5⟩:=ZF (Zz M4);rw[Zgl h1 h2 h3 h4 h5] at e;split at e;{rename_i q;injection e with e _;exact absurd e q};rename_i q1;split at e;{rename_i q;injection e with e _;exact absurd e q};rename_i q2;split at e;{rename_i q;injection e with e _;exact absurd e q};rename_i q3;split at e;{rename_i q;injection e with e _;exact absurd e q};rename_i q4;split at e;{rename_i q;injection e with e _;exact absurd e q};rename_i q5;have e1:x1=0:=(by omega);have e2:x2=0:=(by omega);have e3:x3=0:=(by omega);have e4:x4=0:=(by omega);have e5:x5=0:=(by omega);injection e with _ e;injection e with ea eb;subst e1 e2 e3 e4 e5 ea eb;exact⟨h1,M2,h2,h3,h4,h5⟩
theorem N9(name h:Int)(r:Bool):∀ (O:List Z0) (i:Nat) (L M:List Zi),Srt L->Yn name h r i O L=(0,M) ->
  Srt M/\(∀ x,x∈M↔x∈L\/∃ j,∃ hj:j<O.length,x=Sa name (i+j) O[j] h r)/\(∀ j,j<O.length->We (name,((i+j:Nat):Int)) L=false)
 | [],i,L,M,hs,e=>by
  unfold Yn at e;injection e with _ e;subst e;exact⟨hs,λx=>⟨.inl,λq=>q.elim id λ⟨j,hj,_⟩=>absurd hj (by simp)⟩,λj hj=>absurd hj (by simp)⟩
 | o :: q,i,L,M,hs,e=>by
  unfold Yn at e;split at e
  ·injection e with e _;cases e
  rename_i hf;have ab:We (pt (Sa name i o h r)) L=false:=(by simpa[Sa,pt] using hf);have⟨h1,h2,h3⟩:=N9 name h r q (i+1) _ M (R0 hs) e;refine⟨h1,λx=>?_,λj hj=>?_⟩
  ·rw[h2 x,Nq ab];constructor
   ·rintro ((rfl|g)|⟨j,hj,rfl⟩)
    ·exact .inr ⟨0,by simp,by simp⟩
    ·exact .inl g
    exact .inr ⟨j+1,by simpa using hj,by simp[Nat.add_assoc,Nat.add_comm 1 j]⟩
   rintro (g|⟨j,hj,rfl⟩)
   ·exact .inl (.inr g)
   cases j with
   | zero=>exact .inl (.inl (by simp))
   | succ j=>exact .inr ⟨j,by simpa using hj,by simp[Nat.add_assoc,Nat.add_comm 1 j]⟩
  cases j with
  | zero=>simpa[Sa,pt] using ab
  | succ j=>
   have:=h3 j (by simpa using hj);rw[show i+1+j=i+(j+1) by omega] at this;refine hasP_no.2 λc hc=>(hasP_no.1 this) c ((Nq ab).2 (.inr hc))
theorem Zdk(name h:Int)(r:Bool)(O:List Z0)(L)(hL:Srt L)(ad:∀ j,j<O.length->We (name,((j:Nat):Int)) L=false):∀ (m k:Nat) (N:List Zi),m+k=O.length->Srt N->(∀ x,x∈N↔x∈L\/∃ j,∃ hj:j<O.length,k<=j/\x=Sa name j O[j] h r)->Ue name k (O.drop k) N=(0,L)
 | 0,k,N,hm,hN,hx=>by
  rw[bB (by omega),Ue]
  rw[Srt.ext hN hL λx=>by
   rw[hx x];exact⟨λq=>q.elim id λ⟨j,hj,hk,_⟩=>absurd hj (by omega),.inl⟩]
 | m+1,k,N,hm,hN,hx=>by
  have hk:k<O.length:=by omega
  have af:Sa name k O[k] h r∈N:=(hx _).2 (.inr ⟨k,hk,aF _,rfl⟩);have ht:=F8 (p:=(name,(k:Int))) hN af rfl;rw[aL hk,Ue,ht];simp only;rw[if_pos (by rfl)];refine Zdk name h r O L hL ad m (k+1) _ (by omega) (hN.filter _) λx=>?_;rw[List.mem_filter,hx x,decide_eq_true_eq];constructor
  ·rintro ⟨g|⟨j,hj,ae,rfl⟩,ag⟩
   ·exact .inl g
   refine .inr ⟨j,hj,?_,rfl⟩
   rcases Nat.lt_or_ge k j with q|q
   ·exact q
   obtain rfl:j=k:=(by omega);exact absurd rfl ag
  rintro (g|⟨j,hj,ae,rfl⟩)
  ·exact⟨.inl g,(hasP_no.1 (ad k hk)) x g⟩
  refine⟨.inr ⟨j,hj,by omega,rfl⟩,λq=>?_⟩;have q2:((j:Nat):Int)=((k:Nat):Int):=congrArg Prod.snd q;omega
theorem E5{p:PtD}{c:Zi}:∀ {L:List Zi},Srt L->c∈L->pt c=p->Zn L=cv c+Zn (L.filter λd=>decide (pt d≠p))
 | [],_,hc,_=>by cases hc
 | d :: r,hs,hc,e=>by
  rw[Xz]
  rcases aY.1 hc with rfl|hc
  ·rw[List.filter_cons_of_neg (by simp[e])]
   have:r.filter (λd=>decide (pt d≠p))=r:=by
    rw[List.filter_eq_self];intro y hy;exact decide_eq_true (λq=>Rq (hs.head y hy) (by rw[e,q]))
   rw[this]
  have ab:pt d≠p:=λq=>Rq (hs.head c hc) (by rw[e,q]);rw[List.filter_cons_of_pos (by simp[ab]),Xz,E5 hs.tail hc e];omega
theorem Q7(h:Int):∀ (I:List InD) (S0 L S M:List Zi),Srt L->Zs h I S0 L=(0,S,M) ->
  Srt M/\∃ T,S=S0++T/\T.length=I.length/\(∀ j (h1:j<T.length) (h2:j<I.length),pt T[j]=(I[j].1,I[j].2.1))/\(∀ x,x∈L↔x∈M\/x∈T)/\(∀ x∈T,We (pt x) M=false)/\T.Pairwise (λa b=>pt a≠pt b)/\Zn L=Zn M+Zn T
 | [],S0,L,S,M,hs,e=>by
  unfold Zs at e;injection e with _ e;injection e with e1 e2;subst e1 e2;exact⟨hs,[],by simp,rfl,λj h1=>absurd h1 (by simp),λx=>by simp,λx hx=>(by cases hx),List.Pairwise.nil,by simp[Zn]⟩
 | x :: r,S0,L,S,M,hs,e=>by
  unfold Zs at e;split at e
  ·injection e with e _;cases e
  rename_i c L' ht;split at e
  ·injection e with e _;cases e
  split at e
  ·injection e with e _;cases e
  have⟨t1,t2,t3⟩:=Ss ht;have⟨h1,T,h2,h3,h4,h5,h6,h7,h8⟩:=Q7 h r _ L' S M (by rw[t3];exact hs.filter _) e;have aa:∀ y,y∈L'↔y∈L/\pt y≠(x.1,x.2.1):=λy=>by rw[t3,List.mem_filter,decide_eq_true_eq]
  refine⟨h1,c :: T,by rw[h2,List.append_assoc];rfl,by simp[h3],λj h1 h2=>?_,λy=>?_,λy hy=>?_,?_,?_⟩
  ·cases j with
   | zero=>exact t2
   | succ j=>exact h4 j (by simpa using h1) (by simpa using h2)
  ·constructor
   ·intro hy;by_cases q:pt y=(x.1,x.2.1)
    ·exact .inr (by rw[hs.inj hy t1 (by rw[q,t2])];exact cW ..)
    rcases (h5 y).1 ((aa y).2 ⟨hy,q⟩) with g|g
    ·exact .inl g
    exact .inr (List.mem_cons_of_mem _ g)
   rintro (g|g)
   ·exact ((aa y).1 ((h5 y).2 (.inl g))).1
   rcases aY.1 g with rfl|g
   ·exact t1
   exact ((aa y).1 ((h5 y).2 (.inr g))).1
  ·rcases aY.1 hy with rfl|hy
   ·refine hasP_no.2 λd hd e=>?_;exact ((aa d).1 ((h5 d).2 (.inl hd))).2 (by rw[e,t2])
   exact h6 y hy
  ·refine List.pairwise_cons.2 ⟨λy hy e=>?_,h7⟩;exact ((aa y).1 ((h5 y).2 (.inr hy))).2 (by rw[<-e,t2])
  have h9:=E5 hs t1 t2;rw[<-t3] at h9;rw[h9,h8,Xz];omega
theorem Zaz(I:List InD)(S M2 L:List Zi)(am:S.length=I.length)(hL:Srt L)(ah:∀ j (h1:j<S.length) (h2:j<I.length),pt S[j]=(I[j].1,I[j].2.1))(af:∀ x,x∈L↔x∈M2\/x∈S)(ad:∀ x∈S,We (pt x) M2=false)(aj:S.Pairwise (λa b=>pt a≠pt b)) :
  ∀ (m k:Nat) (N:List Zi),m+k=S.length->Srt N->(∀ x,x∈N↔x∈M2\/x∈S.take k)->Qp (I.drop k) (S.drop k) N=(0,L)
 | 0,k,N,hm,hN,hx=>by
  rw[bB (by omega),bB (by omega),Qp]
  ·rw[Srt.ext hN hL λx=>by rw[hx x,af x,List.take_of_length_le (by omega)]]
  intro _ _ _ _ h;cases h
 | m+1,k,N,hm,hN,hx=>by
  have hk:k<S.length:=by omega
  have ae:k<I.length:=by omega
  have ag:We (pt S[k]) N=false:=hasP_no.2 λc hc e=>by
   rcases (hx c).1 hc with g|g
   ·exact (hasP_no.1 (ad _ (aT hk))) c g e
   obtain⟨j,hj,rfl⟩:=List.mem_take_iff_getElem.1 g;have al:j<k:=(by omega);exact (List.pairwise_iff_getElem.1 aj j k (by omega) hk al) e
  rw[aL hk,aL ae,Qp,if_neg (by
   rintro (q|q)
   ·exact q (ah k hk ae)
   rw[ag] at q;cases q)]
  refine Zaz I S M2 L am hL ah af ad aj m (k+1) _ (by omega) (R0 hN) λx=>?_;rw[Nq ag,hx x,aI hk,bN,cP];constructor
  ·rintro (rfl|g|g)
   ·exact .inr (.inr rfl)
   ·exact .inl g
   exact .inr (.inl g)
  rintro (g|g|rfl)
  ·exact .inr (.inl g)
  ·exact .inr (.inr g)
  exact .inl rfl
theorem Ztk{L M S t}{name h:Int}(e:apD L t name h=(0,M,S)):rvD M t name S=(0,L):=by have⟨h1,M2,h2,h3,h4,h5⟩:=G0 e;have⟨hR,hT,_,_,_⟩:=Ws h1;have⟨s1,T,s2,s3,s4,s5,s6,s7,s8⟩:=Q7 h _ _ _ _ _ hR.srt h2;rw[List.nil_append] at s2;subst s2;have⟨g1,g2,g3⟩:=N9 name h _ _ _ _ _ s1 h4;have hb:Ue name 0 t.2.2 M=(0,M2):=(by have:=Zdk name h (isR t) t.2.2 M2 s1 (λj hj=>by have:=g3 j hj;rwa [bW] at this) t.2.2.length 0 M (by omega) g1 (λx=>by rw[g2 x];constructor;{rintro (q|⟨j,hj,rfl⟩);{exact .inl q};exact .inr ⟨j,hj,aH _,by rw[bW]⟩};rintro (q|⟨j,hj,_,rfl⟩);{exact .inl q};exact .inr ⟨j,hj,by rw[bW]⟩);simpa using this);have hp:Qp t.2.1 S M2=(0,L):=(by have:=Zaz t.2.1 S M2 L s3 hR.srt s4 s5 s6 s7 S.length 0 M2 (by omega) s1 (λx=>by simp);simpa using this);have hc:Zz L=0:=(Z5 L).2 hR;have aj:Vs M t=0:=(by unfold Vs;rw[if_neg (by rw[h5];decide)];exact hT);rw[Zug aj hb hp hc,if_neg (by decide),if_neg (by rw[s3];simp),if_neg (by decide),if_neg (by decide),if_neg (by decide)]
theorem Zri{c:Zi}{L}(hs:Srt L)(hn:We (pt c) L=false):Zn (Rs c L)=cv c+Zn L:=by
 rw[Zhf hs hn,Wl,Xz];have:Zn L=Zn (L.take (pos (pt c) L))+Zn (L.drop (pos (pt c) L)):=by rw[<-Wl,List.take_append_drop]
 omega
theorem Pe(name h:Int)(r:Bool):∀ (O:List Z0) (i:Nat) (L M:List Zi),Srt L->Yn name h r i O L=(0,M)->Zn M=Zn L+Yi O
 | [],i,L,M,hs,e=>by
  unfold Yn at e;injection e with _ e;subst e;simp[Yi]
 | o :: q,i,L,M,hs,e=>by
  unfold Yn at e;split at e
  ·injection e with e _;cases e
  rename_i hf;have ab:We (pt (Sa name i o h r)) L=false:=(by simpa[Sa,pt] using hf);have h1:=Pe name h r q (i+1) _ M (R0 hs) e;rw[Zri hs ab] at h1;have h2:cv (Sa name i o h r)=o.1:=rfl;have h3:Yi (o :: q)=o.1+Yi q:=(by simp[Yi]);rw[h1,h2,h3];omega
theorem K9:∀ (O:List Z0),Z6 O=0->∀ o∈O,1<=o.1
 | [],_=>by simp
 | x :: r,h=>by
  intro o ho;unfold Z6 at h;split at h
  ·rename_i h1
   rcases aY.1 ho with rfl|ho
   ·unfold Y3 at h1;split at h1
    ·cases h1
    omega
   exact K9 r h o ho
  rename_i h1;exact absurd h h1
theorem E8:∀ (O:List Z0),O≠[]->(∀ o∈O,1<=o.1)->0<Yi O
 | [],h,_=>absurd rfl h
 | x :: r,_,h=>by
  have h3:Yi (x :: r)=x.1+Yi r:=by simp[Yi]
  have h1:=h x (cW ..);cases r with
  | nil=>rw[h3];simp[Yi];omega
  | cons y q=>
   have:=E8 (y :: q) (by simp) (λo ho=>h o (List.mem_cons_of_mem _ ho));omega
theorem Zql{L M S}{t:TxD}{name h:Int}(e:apD L t name h=(0,M,S)):(t.2.1.length=0->Zn L<Zn M)/\(t.2.1.length≠0->Zn M<=Zn L):=by have⟨h1,M2,h2,h3,h4,h5⟩:=G0 e;have⟨hR,hT,_,_,_⟩:=Ws h1;have⟨s1,T,s2,s3,s4,s5,s6,s7,s8⟩:=Q7 h _ _ _ _ _ hR.srt h2;rw[List.nil_append] at s2;subst s2;have hg:=Pe name h _ _ _ _ _ s1 h4;have⟨t1,t2,t3,t4,t5,t6,t7⟩:=Xh hT;constructor;{intro h0;have hS:S=[]:=aJ.1 (by rw[s3,h0]);have:=E8 t.2.2 (λq=>by rw[q] at t3;simp at t3) (K9 _ t6);rw[hS,Mg] at s8;omega};intro h0;unfold Fo isR at h3;split at h3;{cases h3};rename_i q;have:¬(Zn S - Yi t.2.2<0):=λr=>q ⟨r,decide_eq_false h0⟩;omega
theorem Qv{L M S}{t:TxD}{name h:Int}(e:apD L t name h=(0,M,S)):Zn M=Zn L - Zn S+Yi t.2.2/\0<=Zn S:=by have⟨h1,M2,h2,h3,h4,h5⟩:=G0 e;have⟨hR,hT,_,_,_⟩:=Ws h1;have⟨s1,T,s2,s3,s4,s5,s6,s7,s8⟩:=Q7 h _ _ _ _ _ hR.srt h2;rw[List.nil_append] at s2;subst s2;have hg:=Pe name h _ _ _ _ _ s1 h4;refine⟨by omega,Vi S λc hc=>?_⟩;have:=Yj (hR.one c ((s5 c).2 (.inr hc)));omega
theorem Th{L M S t}{name h:Int}(e:apD L t name h=(0,M,S)):Zv L/\Zv M/\Zq t=0:=by have⟨h1,M2,h2,h3,h4,h5⟩:=G0 e;have⟨hR,hT,_,_,_⟩:=Ws h1;exact⟨hR,(Z5 M).1 h5,hT⟩
def Di(T:List TxD)(N:List Int)(S:List (List Zi)):Nat->List Zi->Int×List Zi
 | 0,C=>(0,C)
 | q+1,C=>
  if (rvD C (T.getD ((q+1) % T.length) U4) (N.getD ((q+1) % T.length) 0) (S.getD ((q+1) % T.length) [])).1≠0 then ((rvD C (T.getD ((q+1) % T.length) U4) (N.getD ((q+1) % T.length) 0) (S.getD ((q+1) % T.length) [])).1,[])
  else Di T N S q (rvD C (T.getD ((q+1) % T.length) U4) (N.getD ((q+1) % T.length) 0) (S.getD ((q+1) % T.length) [])).2
theorem Zpp{T:List TxD}{N:List Int}{S:List (List Zi)}{q i:Nat}{C}(hi:(q+1) % T.length=i){t}(ht:T.getD i U4=t){nm:Int}(hn:N.getD i 0=nm){s}(hs:S.getD i []=s){y:Int}{M}(ha:rvD C t nm s=(y,M)) : Di T N S (q+1) C=if y≠0 then (y,[]) else Di T N S q M:=by rw[Di,hi,ht,hn,hs,ha]
theorem Zrf{m j k:Nat}(hj:j<k)(hk:k<m):(j+1) % m≠(k+1) % m:=by rw[Nat.mod_eq_of_lt (show j+1<m by omega)];by_cases e:k+1=m;{rw[e,Nat.mod_self];omega};rw[Nat.mod_eq_of_lt (show k+1<m by omega)];omega
theorem Fl{α : Type}(l:List α)(i:Nat)(x d : α)(h:i<l.length):(l.set i x).getD i d=x:=by simp[List.getD,h]
theorem Zcd{α : Type}(l:List α){i j:Nat}(x d : α)(h:i≠j):(l.set i x).getD j d=l.getD j d:=by simp[List.getD,List.getElem?_set_ne h]
theorem Y9{h r:Int}{T:List TxD}{N:List Int}{q k:Nat}{C M}{S S':List (List Zi)}(e:Wu h r T N (q+1) k C S=(0,M,S')) : ¬((k+1) % T.length=0/\Xa r T S T.length<0)/\∃ C1 s,apD C (T.getD ((k+1) % T.length) U4) (N.getD ((k+1) % T.length) 0) h=(0,C1,s)/\Wu h r T N q (k+1) C1 (S.set ((k+1) % T.length) s)=(0,M,S'):=by have⟨⟨y,C1,s⟩,ha⟩:=ZF (apD C (T.getD ((k+1) % T.length) U4) (N.getD ((k+1) % T.length) 0) h);rw[Dk rfl rfl rfl ha] at e;split at e;{injection e with e1 _;exact absurd e1 (by decide)};rename_i hc;split at e;{rename_i hy;injection e with e1 _;exact absurd e1 hy};rename_i hy;have hy:y=0:=bE.1 hy;subst hy;exact⟨hc,C1,s,ha,e⟩
theorem Zcu{h r:Int}{T:List TxD}{N}:∀ (q k:Nat) (C M:List Zi) (S S':List (List Zi)),Wu h r T N q k C S=(0,M,S')->q+k=T.length->S.length=T.length ->
  S'.length=T.length/\(∀ j,j<k->S'.getD ((j+1) % T.length) []=S.getD ((j+1) % T.length) [])/\Di T N S' T.length M=Di T N S' k C
 | 0,k,C,M,S,S',e,hk,hS=>by
  rw[Wu] at e;injection e with _ e;injection e with e1 e2;subst e1 e2;have:k=T.length:=by omega
  subst this;exact⟨hS,λ_ _=>rfl,rfl⟩
 | q+1,k,C,M,S,S',e,hk,hS=>by
  have⟨_,C1,s,ha,e⟩:=Y9 e;have⟨i1,i2,i3⟩:=Zcu q (k+1) C1 M _ S' e (by omega) (by simpa using hS);have hm:(k+1) % T.length<S.length:=by rw[hS];exact Nat.mod_lt _ (by omega)
  refine⟨i1,λj hj=>?_,?_⟩
  ·rw[i2 j (by omega)];exact Zcd S s [] (λe=>Zrf hj (show k<T.length by omega) e.symm)
  rw[i3]
  have hs:S'.getD ((k+1) % T.length) []=s:=by
   rw[i2 k (Nat.lt_succ_self k)];exact Fl S _ s [] hm
  rw[Zpp rfl rfl rfl hs (Ztk ha),if_neg (by decide)]
theorem Ht{h r:Int}{T N}:∀ (q k:Nat) (C M:List Zi) (S S':List (List Zi)),Wu h r T N q k C S=(0,M,S')->Zv C->Zv M
 | 0,k,C,M,S,S',e,hC=>by
  rw[Wu] at e;injection e with _ e;injection e with e1 e2;subst e1;exact hC
 | q+1,k,C,M,S,S',e,hC=>by
  have⟨_,C1,s,ha,e⟩:=Y9 e;exact Ht q (k+1) C1 M _ S' e (Th ha).2.1
theorem Zte{h r:Int}{T:List TxD}{N C M S'}(h0:0<T.length)(h4:T.length<=4)(e:Wu h r T N T.length 0 C (cA T.length [])=(0,M,S')):Zn M<=Zn C+r:=by match T,h0,h4,e with|[t0],_,_,e=>have⟨c0,C1,s0,a0,e⟩:=Y9 (q:=0) e;rw[Wu] at e;injection e with _ e;injection e with e _;subst e;have i0:(0+1) % [t0].length=0:=(by simp);rw[i0] at a0;have a0:apD C t0 (N.getD 0 0) h=(0,C1,s0):=a0;have⟨b0,d0⟩:=Qv a0;have c0:¬(Xa r [t0] [[]] 1<0):=λq=>c0 ⟨i0,q⟩;simp only[Xa,List.take_succ_cons,List.take_zero,List.map_cons,List.map_nil,List.flatten_cons,List.flatten_nil,List.append_nil,Mg] at c0;omega|[t0,t1],_,_,e=>have⟨_,C1,s1,a1,e⟩:=Y9 (q:=1) e;have⟨c0,C2,s0,a0,e⟩:=Y9 (q:=0) e;rw[Wu] at e;injection e with _ e;injection e with e _;subst e;have a1:apD C t1 (N.getD 1 0) h=(0,C1,s1):=a1;have i0:(0+1+1) % [t0,t1].length=0:=(by simp);rw[i0] at a0;have a0:apD C1 t0 (N.getD 0 0) h=(0,C2,s0):=a0;have⟨b1,d1⟩:=Qv a1;have⟨b0,d0⟩:=Qv a0;have c0:¬(Xa r [t0,t1] [[],s1] 2<0):=λq=>c0 ⟨i0,q⟩;simp only[Xa,List.take_succ_cons,List.take_zero,List.map_cons,List.map_nil,List.flatten_cons,List.flatten_nil,List.append_nil,List.nil_append,Q4] at c0;omega|[t0,t1,t2],_,_,e=>have⟨_,C1,s1,a1,e⟩:=Y9 (q:=2) e;have⟨_,C2,s2,a2,e⟩:=Y9 (q:=1) e;have⟨c0,C3,s0,a0,e⟩:=Y9 (q:=0) e;rw[Wu] at e;injection e with _ e;injection e with e _;subst e;have a1:apD C t1 (N.getD 1 0) h=(0,C1,s1):=a1;have a2:apD C1 t2 (N.getD 2 0) h=(0,C2,s2):=a2;have i0:(0+1+1+1) % [t0,t1,t2].length=0:=(by simp);rw[i0] at a0;have a0:apD C2 t0 (N.getD 0 0) h=(0,C3,s0):=a0;have⟨b1,d1⟩:=Qv a1;have⟨b2,d2⟩:=Qv a2;have⟨b0,d0⟩:=Qv a0;have c0:¬(Xa r [t0,t1,t2] [[],s1,s2] 3<0):=λq=>c0 ⟨i0,q⟩;simp only[Xa,List.take_succ_cons,List.take_zero,List.map_cons,List.map_nil,List.flatten_cons,List.flatten_nil,List.append_nil,List.nil_append,Q4,Wl] at c0;omega|[t0,t1,t2,t3],_,_,e=>have⟨_,C1,s1,a1,e⟩:=Y9 (q:=3) e;have⟨_,C2,s2,a2,e⟩:=Y9 (q:=2) e;have⟨_,C3,s3,a3,e⟩:=Y9 (q:=1) e;have⟨c0,C4,s0,a0,e⟩:=Y9 (q:=0) e;rw[Wu] at e;injection e with _ e;injection e with e _;subst e;have a1:apD C t1 (N.getD 1 0) h=(0,C1,s1):=a1;have a2:apD C1 t2 (N.getD 2 0) h=(0,C2,s2):=a2;have a3:apD C2 t3 (N.getD 3 0) h=(0,C3,s3):=a3;have i0:(0+1+1+1+1) % [t0,t1,t2,t3].length=0:=(by simp);rw[i0] at a0;have a0:apD C3 t0 (N.getD 0 0) h=(0,C4,s0):=a0;have⟨b1,d1⟩:=Qv a1;have⟨b2,d2⟩:=Qv a2;have⟨b3,d3⟩:=Qv a3;have⟨b0,d0⟩:=Qv a0;have c0:¬(Xa r [t0,t1,t2,t3] [[],s1,s2,s3] 4<0):=λq=>c0 ⟨i0,q⟩;simp only[Xa,List.take_succ_cons,List.take_zero,List.map_cons,List.map_nil,List.flatten_cons,List.flatten_nil,List.append_nil,List.nil_append,Q4,Wl] at c0;omega
def disD(K:List ByteArray)(C:List Zi)(b:Zk)(S:List (List Zi)):Int×List Zi:=
 if (nfD K C b).2≠0 then ((nfD K C b).2,[]) else if S.length≠b.2.2.2.2.length then (4,[]) else Di b.2.2.2.2 (nfD K C b).1 S b.2.2.2.2.length C
theorem Ju{b:Zk}(h:Yr b=0):0<b.2.2.2.2.length/\b.2.2.2.2.length<=4/\1<=b.2.1/\b.2.1<=1000:=by unfold Yr at h;split at h;{cases h};rename_i h1;split at h;{cases h};split at h;{cases h};unfold Xr at h1;simp only[Bool.not_eq_false,aX,decide_eq_true_eq] at h1;omega
theorem Zbq{K C}{b:Zk}(h:(nfD K C b).2=0):Zv C/\Yr b=0/\∃ X n N,Xn K b=(X,n,N,0)/\(nfD K C b).1=N:=by unfold nfD at h ⊢;split at h;{rename_i q;exact absurd h q};rename_i q;have⟨⟨X,n,N,x⟩,hx⟩:=ZF (Xn K b);rw[hx] at h;have h:x=0:=h;subst h;rw[if_neg q,hx];exact⟨(Z5 C).1 (bE.1 q),(Gk hx).1,X,n,N,rfl,rfl⟩
theorem Zuv{K C}{b:Zk}{X}{n:Int}{N}(hC:Zv C)(h:Xn K b=(X,n,N,0)):nfD K C b=(N,0):=by unfold nfD;rw[(Z5 C).2 hC,if_neg (by decide),h]
theorem con_all{K C M}{b:Zk}{S:List (List Zi)}(e:Xk K C b=(0,M,S)) : Zv C/\Zv M/\Yr b=0/\S.length=b.2.2.2.2.length/\disD K M b S=(0,C)/\Zn M<=Zn C+(rwD b.2.1).1/\(rwD b.2.1).2=0:=by unfold Xk at e;split at e;{rename_i q;injection e with e _;exact absurd e q};rename_i q;have⟨hC,hb,X,n,N,hN,af⟩:=Zbq (bE.1 q);rw[af] at e;have⟨h0,h4,h1,h2⟩:=Ju hb;have hM:=Ht _ _ _ _ _ _ e hC;have⟨b1,b2,b3⟩:=Zcu _ _ _ _ _ _ e (by omega) (by simp);refine⟨hC,hM,hb,b1,?_,Zte h0 h4 e,?_⟩;{unfold disD;rw[Zuv hM hN,if_neg (λq=>q rfl),if_neg (λq=>q b1)];exact b3};unfold rwD;rw[if_pos (by simp only[aX,decide_eq_true_eq];omega)]
theorem Gr.cell{w w':World}{S:Nat->Prop}(h:Gr w w' S){p:Addr}{v}(hc:w.cell? p=dJ v)(hn:¬S p.block):w'.cell? p=dJ v:=(bO (h.block p.block (aC _ _ hc) hn)).trans hc
theorem Fresh.now{B:Nat}{w}{Q:World->Prop}(h:Fresh B w Q):Q w:=h w (Gr.refl _ _)
theorem Fresh.on{B:Nat}{w w'}{Q:World->Prop}(h:Fresh B w Q)(g:Gr w w' (λk=>k<B)):Fresh B w' Q:=λw2 g2=>h w2 (g.trans g2)
theorem Fresh.later{B:Nat}{w w':World}{Q:World->Prop}(h:Fresh B w Q)(g:ZD w w'):Fresh B w' Q:=h.on (Gr.of g)
theorem Fresh.less{B B':Nat}{w}{Q:World->Prop}(h:Fresh B' w Q)(hb:B<=B'):Fresh B w Q:=λw2 g2=>h w2 (g2.mono λ_ _ hk=>aE hk hb)
theorem Fresh.imp{B:Nat}{w}{Q R:World->Prop}(h:Fresh B w Q)(f:∀ w2,Q w2->R w2):Fresh B w R:=λw2 g2=>f w2 (h w2 g2)
namespace Tr
open Go.RowKit
theorem two_heap(w:World)(a b)(t:aZ):(w.alloc (dC #[a,b] t)).heap[w.heap.size]? = dJ (dC [a,b].toArray t (0,0)):=aM w _
theorem Yx{w:World}{base:Nat}{e:aZ}{size:Nat}{v}{n:Nat}{xs}(h:w.ownsRow base e size v n xs):∃ a c,v = F a n c/\SlOk a n c/\∀ ae,a=dJ ae->base<=ae.block/\ae.block<w.heap.size:=by rcases h.2 with ⟨rfl,rfl⟩|⟨g,cap,ad,rfl,hg,hh,h1,h2,_⟩;{exact⟨aD,0,rfl,⟨aF _,aH _,λ_=>⟨rfl,rfl⟩⟩,λae e=>by cases e⟩};exact⟨_,cap,rfl,⟨h1,h2,λe=>by cases e⟩,λae e=>by cases e;exact⟨hg,aA hh⟩⟩
def Ro(w:World)(b o:Nat)(cs:List Value):Prop:=∀ j u,cs[j]? = dJ u->w.cell? ⟨b,o+j,aD⟩=dJ u
structure Rec(α : Type) where
 sz:Nat
 C:World->List Value -> α->Prop
 R:World->Nat->Nat -> α->Prop
 wide:∀ w cs x,C w cs x->cs.length=sz
 one:∀ w cs x,C w cs x->∀ v∈cs,v.oneCell'=true
 kept:∀ w w' cs x,ZD w w'->C w cs x->C w' cs x
 rc:∀ w b o x,R w b o x->∃ cs,Ro w b o cs/\C w cs x
 cr:∀ w b o cs x,Ro w b o cs->C w cs x->R w b o x
def AllC{α : Type}(Z:Rec α)(w:World)(K:List (List Value))(L:List α):Prop:=K.length=L.length/\∀ i (h:i<L.length) (h':i<K.length),Z.C w K[i] L[i]
theorem W7{α : Type}{Z:Rec α}{w}:∀ {K:List (List Value)} {L:List α},AllC Z w K L->K.flatten.length=L.length*Z.sz
 | [],[],_=>by simp
 | [],_ :: _,h=>by cases h.1
 | _ :: _,[],h=>by cases h.1
 | k :: K,x :: L,h=>by
  have h1:AllC Z w K L:=⟨by simpa using h.1,λi h1 h2=>h.2 (i+1) (by simpa using h1) (by simpa using h2)⟩;have h2:=Z.wide _ _ _ (h.2 0 (by simp) (by simp));simp only[List.getElem_cons_zero] at h2;rw[List.flatten_cons,List.length_append,W7 h1,h2,bX,Nat.succ_mul];omega
theorem flat_one{α : Type}{Z:Rec α}{w}{K:List (List Value)}{L:List α}(h:AllC Z w K L):∀ u∈K.flatten,u.oneCell'=true:=by intro u hu;have⟨k,hk,hu⟩:=List.mem_flatten.1 hu;obtain⟨i,hi,rfl⟩:=List.getElem_of_mem hk;exact Z.one _ _ _ (h.2 i (by rw[<-h.1];exact hi) hi) u hu
theorem AllC.later{α : Type}{Z:Rec α}{w w':World}{K}{L:List α}(h:AllC Z w K L)(hb:ZD w w'):AllC Z w' K L:=⟨h.1,λi h1 h2=>Z.kept _ _ _ _ hb (h.2 i h1 h2)⟩
theorem AllC.snoc{α : Type}{Z:Rec α}{w K}{L:List α}(h:AllC Z w K L){k}{x : α}(hx:Z.C w k x):AllC Z w (K++[k]) (L++[x]):=by refine⟨by simp[h.1],λi h1 h2=>?_⟩;rcases Nat.lt_or_ge i L.length with q|q;{rw[List.getElem_append_left (h:=by rw[h.1];exact q),List.getElem_append_left (h:=q)];exact h.2 i q (by rw[h.1];exact q)};have e:i=L.length:=(by simp at h1;omega);subst e;rw[List.getElem_append_right (by rw[h.1];exact aF _),List.getElem_append_right (aF _)];simpa[h.1] using hx
theorem Rg{α : Type}{Z:Rec α}{w}:∀ {K:List (List Value)} {L:List α} (_:AllC Z w K L) (i:Nat) (h':i<K.length) (j:Nat) (_:j<Z.sz),K.flatten[i*Z.sz+j]? = (K[i])[j]?
 | [],_,_,_,h',_,_=>absurd h' (by simp)
 | _ :: _,[],h,_,_,_,_=>by cases h.1
 | k :: K,x :: L,h,0,_,j,hj=>by
  have h2:=Z.wide _ _ _ (h.2 0 (by simp) (by simp));simp only[List.getElem_cons_zero] at h2;rw[List.flatten_cons,List.getElem?_append_left (by omega)];simp
 | k :: K,x :: L,h,i+1,h',j,hj=>by
  have h1:AllC Z w K L:=⟨by simpa using h.1,λi h1 h2=>h.2 (i+1) (by simpa using h1) (by simpa using h2)⟩;have h2:=Z.wide _ _ _ (h.2 0 (by simp) (by simp));simp only[List.getElem_cons_zero] at h2;rw[List.flatten_cons,List.getElem?_append_right (by rw[h2,Nat.succ_mul];omega),h2];rw[show (i+1)*Z.sz+j - Z.sz=i*Z.sz+j by rw[Nat.succ_mul];omega];rw[Rg h1 i (by simpa using h') j hj];simp
theorem Qu{α : Type}(Z:Rec α){w}{b off:Nat}{L:List α}(h:∀ i (h:i<L.length),Z.R w b (off+i*Z.sz) L[i]):∃ K,AllC Z w K L/\Ro w b off K.flatten:=by have h2:∀ k,k<=L.length->∃ K,AllC Z w K (L.take k)/\Ro w b off K.flatten:=(by intro k;induction k with|zero=>intro _;exact⟨[],⟨by simp,λi h1 h2=>absurd h2 (by simp)⟩,λj u hj=>by simp at hj⟩|succ k ih=>(intro hk;have⟨K,h1,h3⟩:=ih (by omega);have⟨cs,h4,h5⟩:=Z.rc _ _ _ _ (h k (by omega));refine⟨K++[cs],by rw[aI (by omega)];exact h1.snoc h5,λj u hj=>?_⟩;have hl:=W7 h1;rw[aW,Nat.min_eq_left (by omega)] at hl;rw[List.flatten_append] at hj;rcases Nat.lt_or_ge j K.flatten.length with q|q;{rw[List.getElem?_append_left q] at hj;exact h3 j u hj};rw[List.getElem?_append_right q] at hj;have:=h4 (j - K.flatten.length) u (by simpa using hj);rw[show off+k*Z.sz+(j - K.flatten.length)=off+j by omega] at this;exact this));have⟨K,h1,h3⟩:=h2 L.length (aF _);rw[List.take_length] at h1;exact⟨K,h1,h3⟩
theorem rows_of_own{α : Type}(Z:Rec α){w:World}{base n:Nat}{e:aZ}{v}{K:List (List Value)}{L:List α}(h:w.ownsRow base e Z.sz v n K.flatten)(hc:AllC Z w K L)(hn:L.length=n):∃ a c,v = F a n c/\RowsAt Z.R Z.sz w a n L/\SlOk a n c:=by rcases h.2 with ⟨rfl,rfl⟩|⟨g,cap,af,rfl,hg,hh,h1,h2,h3,h4⟩;{exact⟨aD,0,rfl,⟨hn,λh=>absurd h (by omega)⟩,aF _,aH _,λ_=>⟨rfl,rfl⟩⟩};refine⟨_,cap,rfl,⟨hn,λ_=>⟨g,0,rfl,aA hh,λi hi=>?_⟩⟩,h1,h2,λe=>by cases e⟩;have ab:i<K.length:=(by rw[hc.1];exact hi);refine Z.cr _ _ _ (K[i]) _ (λj u hj=>?_) (hc.2 i hi ab);have hw:=Z.wide _ _ _ (hc.2 i hi ab);have ae:j<Z.sz:=(by rw[<-hw];exact (cD.1 hj).1);rw[bW,bI h _ (by have:(i+1)*Z.sz<=n*Z.sz:=Nat.mul_le_mul_right _ (by omega);rw[Nat.succ_mul] at this;omega),Rg hc i ab j ae];exact hj
def IntsAt(w:World)(a:Option Addr)(len:Nat)(Z:List Int):Prop:=
 Z.length=len/\(0<len->∃ b off,a=dJ ⟨b,off,aD⟩/\b<w.heap.size/\∀ i (h:i<Z.length),w.cell? ⟨b,off+i,aD⟩=dJ (E J Z[i]))
theorem IntsAt.later{w w':World}{a len Z}(h:IntsAt w a len Z)(hb:ZD w w'):IntsAt w' a len Z:=by refine⟨h.1,λh0=>?_⟩;have⟨b,off,e,hl,hc⟩:=h.2 h0;exact⟨b,off,e,aE hl hb.size,λi hi=>Zf hb (hc i hi)⟩
theorem IntsAt.nil(w a):IntsAt w a 0 []:=⟨rfl,λh=>absurd h (by omega)⟩
theorem IntsAt.take{w a len}{l:List Int}(h:IntsAt w a len l)(k:Nat)(hk:k<=len):IntsAt w a k (l.take k):=by have hl:=h.1;refine⟨by rw[aW];omega,λh0=>?_⟩;have⟨b,off,e,hb,hc⟩:=h.2 (by omega);refine⟨b,off,e,hb,λi hi=>?_⟩;rw[aW] at hi;rw[List.getElem_take];exact hc i (by omega)
theorem ints_of_own{w:World}{base:Nat}{v}{n:Nat}{N:List Int}(h:w.ownsRow base 3 1 v n (N.map (aV .i64))):∃ a cap,v = F a n cap/\SlOk a n cap/\IntsAt w a n N:=by have hl:N.length=n:=(by simpa using h.1);rcases h.2 with ⟨rfl,rfl⟩|⟨g,cap,ac,rfl,hg,hh,h1,h2,h3,h4⟩;{exact⟨aD,0,rfl,⟨aF _,aH _,λ_=>⟨rfl,rfl⟩⟩,hl,λh=>absurd h (by omega)⟩};refine⟨_,cap,rfl,⟨h1,h2,λe=>by cases e⟩,hl,λ_=>⟨g,0,rfl,aA hh,λi hi=>?_⟩⟩;rw[bW,bI h _ (by omega)];simp[hi]
def BlkAt(w:World)(b o:Nat)(x:Zk):Prop:=
 w.cell? ⟨b,o,aD⟩=dJ (E J x.1)/\w.cell? ⟨b,o+1,aD⟩=dJ (E J x.2.1)/\w.cell? ⟨b,o+2,aD⟩=dJ (E J x.2.2.1)/\w.cell? ⟨b,o+3,aD⟩=dJ (E J x.2.2.2.1) /\
 ∃ a n c,w.cell? ⟨b,o+4,aD⟩=dJ (F a n c)/\TxsAt w a n x.2.2.2.2/\SlOk a n c
theorem BlkAt.kept:Bt BlkAt:=λ_ _ _ _ _ hb h=>by
 have⟨h1,h2,h3,h4,a,n,c,h5,h6,h7⟩:=h;exact⟨Zf hb h1,Zf hb h2,Zf hb h3,Zf hb h4,a,n,c,Zf hb h5,h6.later hb,h7⟩
def BlksAt(w:World)(a:Option Addr)(len:Nat)(l:List Zk):Prop:=RowsAt BlkAt 5 w a len l
theorem BlksAt.later{w w':World}{a len l}(h:BlksAt w a len l)(hb:ZD w w'):BlksAt w' a len l:=RowsAt.later BlkAt.kept h hb
theorem cells3{w:World}{b o:Nat}{x y z}(h0:dV w b o x)(h1:dV w b (o+1) y)(h2:dV w b (o+2) z):Ro w b o [x,y,z]:=by intro j u hj;match j,hj with|0,hj=>cases hj;exact h0|1,hj=>cases hj;exact h1|2,hj=>cases hj;exact h2|j+3,hj=>simp at hj
theorem Zvq{w:World}{b o:Nat}{x y}(h0:dV w b o x)(h1:dV w b (o+1) y):Ro w b o [x,y]:=by intro j u hj;match j,hj with|0,hj=>cases hj;exact h0|1,hj=>cases hj;exact h1|j+2,hj=>simp at hj
theorem cells5{w:World}{b o:Nat}{x y z r s}(h0:dV w b o x)(h1:dV w b (o+1) y)(h2:dV w b (o+2) z)(h3:dV w b (o+3) r)(h4:dV w b (o+4) s):Ro w b o [x,y,z,r,s]:=by intro j u hj;match j,hj with|0,hj=>cases hj;exact h0|1,hj=>cases hj;exact h1|2,hj=>cases hj;exact h2|3,hj=>cases hj;exact h3|4,hj=>cases hj;exact h4|j+5,hj=>simp at hj
def inR:Rec InD where
 sz:=3
 C w cs x:=∃ a n c,cs=[E J x.1,E J x.2.1,F a n c]/\OpsAt w a n x.2.2/\SlOk a n c
 R:=InAt
 wide _ _ _:=by rintro ⟨a,n,c,rfl,_⟩;rfl
 one _ _ _:=by rintro ⟨a,n,c,rfl,_⟩ v hv;simp at hv;rcases hv with rfl|rfl|rfl <;> rfl
 kept _ _ _ _ hb:=by rintro ⟨a,n,c,rfl,h1,h2⟩;exact⟨a,n,c,rfl,h1.later hb,h2⟩
 rc _ _ _ _:=by rintro ⟨h1,h2,a,n,c,h3,h4,h5⟩;exact⟨_,cells3 h1 h2 h3,a,n,c,rfl,h4,h5⟩
 cr _ _ _ _ _ h:=by rintro ⟨a,n,c,rfl,h1,h2⟩;exact⟨h 0 _ rfl,h 1 _ rfl,a,n,c,h 2 _ rfl,h1,h2⟩
def outR:Rec Z0 where
 sz:=2
 C w cs x:=∃ a n c,cs=[E J x.1,F a n c]/\OpsAt w a n x.2/\SlOk a n c
 R:=OutAt
 wide _ _ _:=by rintro ⟨a,n,c,rfl,_⟩;rfl
 one _ _ _:=by rintro ⟨a,n,c,rfl,_⟩ v hv;simp at hv;rcases hv with rfl|rfl <;> rfl
 kept _ _ _ _ hb:=by rintro ⟨a,n,c,rfl,h1,h2⟩;exact⟨a,n,c,rfl,h1.later hb,h2⟩
 rc _ _ _ _:=by rintro ⟨h1,a,n,c,h3,h4,h5⟩;exact⟨_,Zvq h1 h3,a,n,c,rfl,h4,h5⟩
 cr _ _ _ _ _ h:=by rintro ⟨a,n,c,rfl,h1,h2⟩;exact⟨h 0 _ rfl,a,n,c,h 1 _ rfl,h1,h2⟩
def txR:Rec TxD where
 sz:=3
 C w cs x:=∃ a n c a' n' c',cs=[E J x.1,F a n c,F a' n' c']/\InsAt w a n x.2.1/\SlOk a n c/\OutsAt w a' n' x.2.2/\SlOk a' n' c'
 R:=TxAt
 wide _ _ _:=by rintro ⟨a,n,c,a',n',c',rfl,_⟩;rfl
 one _ _ _:=by rintro ⟨a,n,c,a',n',c',rfl,_⟩ v hv;simp at hv;rcases hv with rfl|rfl|rfl <;> rfl
 kept _ _ _ _ hb:=by rintro ⟨a,n,c,a',n',c',rfl,h1,h2,h3,h4⟩;exact⟨a,n,c,a',n',c',rfl,h1.later hb,h2,h3.later hb,h4⟩
 rc _ _ _ _:=by rintro ⟨h1,⟨a,n,c,h2,h3,h4⟩,a',n',c',h5,h6,h7⟩;exact⟨_,cells3 h1 h2 h5,a,n,c,a',n',c',rfl,h3,h4,h6,h7⟩
 cr _ _ _ _ _ h:=by rintro ⟨a,n,c,a',n',c',rfl,h1,h2,h3,h4⟩;exact⟨h 0 _ rfl,⟨a,n,c,h 1 _ rfl,h1,h2⟩,a',n',c',h 2 _ rfl,h3,h4⟩
def blkR:Rec Zk where
 sz:=5
 C w cs x:=∃ a n c,cs=[E J x.1,E J x.2.1,E J x.2.2.1,E J x.2.2.2.1,F a n c]/\TxsAt w a n x.2.2.2.2/\SlOk a n c
 R:=BlkAt
 wide _ _ _:=by rintro ⟨a,n,c,rfl,_⟩;rfl
 one _ _ _:=by rintro ⟨a,n,c,rfl,_⟩ v hv;simp at hv;rcases hv with rfl|rfl|rfl|rfl|rfl <;> rfl
 kept _ _ _ _ hb:=by rintro ⟨a,n,c,rfl,h1,h2⟩;exact⟨a,n,c,rfl,h1.later hb,h2⟩
 rc _ _ _ _:=by rintro ⟨h1,h2,h3,h4,a,n,c,h5,h6,h7⟩;exact⟨_,cells5 h1 h2 h3 h4 h5,a,n,c,rfl,h6,h7⟩
 cr _ _ _ _ _ h:=by rintro ⟨a,n,c,rfl,h1,h2⟩;exact⟨h 0 _ rfl,h 1 _ rfl,h 2 _ rfl,h 3 _ rfl,a,n,c,h 4 _ rfl,h1,h2⟩
def Jn(x:Int):List Int->Nat->Int
 | [],_=>-1
 | a :: r,k=>if x=a then k else Jn x r (k+1)
theorem Zsx(x:Int)(L:List Int)(k:Nat)(h:k<L.length):Jn x (L.drop k) k=if x=L[k] then (k:Int) else Jn x (L.drop (k+1)) (k+1):=by rw[aL h];rfl
theorem Zox(x:Int)(L:List Int)(k:Nat)(h:L.length<=k):Jn x (L.drop k) k = -1:=by rw[bB h];rfl
def Ys:Zk:=(0,0,0,0,[])
def fnd(x:Int):List Int->List Zk->Zk
 | a :: N,b :: T=>if x=a then b else fnd x N T
 | _,_=>Ys
theorem idxI_fnd(x:Int):∀ (N:List Int) (T:List Zk) (k:Nat),N.length=T.length->(Jn x N k = -1/\x∉N/\fnd x N T=Ys)\/∃ i,∃ h:i<T.length,Jn x N k=(k+i:Nat)/\x∈N/\fnd x N T=T[i]
 | [],_,_,_=>.inl ⟨rfl,by simp,by simp[fnd]⟩
 | a :: N,[],_,h=>by cases h
 | a :: N,b :: T,k,h=>by
  by_cases e:x=a
  ·exact .inr ⟨0,by simp,by simp[Jn,e],by simp[e],by simp[fnd,e]⟩
  rcases idxI_fnd x N T (k+1) (by simpa using h) with ⟨h1,h2,h3⟩|⟨i,hi,h1,h2,h3⟩
  ·exact .inl ⟨by simp[Jn,e,h1],by simp[e,h2],by simp[fnd,e,h3]⟩
  exact .inr ⟨i+1,by simpa using hi,by simp[Jn,e,h1];omega,by simp[h2],by simp[fnd,e,h3]⟩
theorem Zcb(x:Int):∀ (N:List Int) (k:Nat),decide (0<=Jn x N k)=decide (x∈N)
 | [],_=>by simp[Jn]
 | a :: N,k=>by
  by_cases e:x=a
  ·simp[Jn,e]
  simp[Jn,e,Zcb x N (k+1)]
def Yc(N:List Int)(T:List Zk)(x:Int)(b:Zk):Int:=
 if (decide (1<=x) && decide (x<=120))=false then 3 else if Yr b≠0 then Yr b else if decide (x∈N)=true then 6
 else if b.1≠0/\decide (b.1∈N)=false then 5 else if b.2.1≠(fnd b.1 N T).2.1+1 then 4 else 0
def Yz(N:List Int)(T:List Zk):List Int->List Zk->Int
 | x :: M,b :: U=>if Yc N T x b≠0 then Yc N T x b else Yz (N++[x]) (T++[b]) M U
 | _,_=>0
def chkTr(N:List Int)(T:List Zk):Int:=if N.length≠T.length then 4 else if 24<N.length then 2 else Yz [] [] N T
theorem Zdd(N:List Int)(T:List Zk)(k:Nat)(h:k<N.length)(h':k<T.length):Yz (N.take k) (T.take k) (N.drop k) (T.drop k) = if Yc (N.take k) (T.take k) N[k] T[k]≠0 then Yc (N.take k) (T.take k) N[k] T[k] else Yz (N.take (k+1)) (T.take (k+1)) (N.drop (k+1)) (T.drop (k+1)):=by rw[aL h,aL h',Yz,aI h,aI h']
theorem Bn(N:List Int)(T:List Zk)(k:Nat)(h:N.length<=k):Yz (N.take k) (T.take k) (N.drop k) (T.drop k)=0:=by rw[bB h];unfold Yz;rfl
def Xx(T:List Zk):Prop:=∀ b∈T,1<=b.2.1/\b.2.1<=1000/\1<=b.2.2.1/\b.2.2.1<=1000
theorem Tx{b:Zk}(h:Yr b=0):1<=b.2.1/\b.2.1<=1000/\1<=b.2.2.1/\b.2.2.1<=1000:=by unfold Yr at h;split at h;{cases h};next q=>simp[Xr] at q;omega
theorem Zhv(x:Int):∀ (N:List Int) (T:List Zk),fnd x N T=Ys\/fnd x N T∈T
 | [],_=>.inl (by simp[fnd])
 | _ :: _,[]=>.inl (by simp[fnd])
 | a :: N,b :: T=>by
  by_cases e:x=a
  ·exact .inr (by simp[fnd,e])
  rcases Zhv x N T with h|h
  ·exact .inl (by simp[fnd,e,h])
  exact .inr (by simp[fnd,e,h])
theorem Ux{T}(h:Xx T)(x:Int)(N):0<=(fnd x N T).2.1/\(fnd x N T).2.1<=1000/\0<=(fnd x N T).2.2.1/\(fnd x N T).2.2.1<=1000:=by rcases Zhv x N T with e|e;{rw[e];simp[Ys]};have:=h _ e;omega
def upD(N:List Int)(T:List Zk):Nat->Int->List Int
 | 0,_=>[]
 | d+1,x=>upD N T d (fnd x N T).1++[x]
theorem Jx(N T):∀ (d:Nat) (x:Int),(upD N T d x).length=d
 | 0,_=>rfl
 | d+1,x=>by simp[upD,Jx N T d]
def Y5(N:List Int)(T:List Zk)(x:Int):List Int:=upD N T (fnd x N T).2.1.toNat x
def Vw(N:List Int)(T:List Zk)(s:Int):List Int->Int
 | []=>s
 | x :: P=>Vw N T (s+(fnd x N T).2.2.1) P
theorem Zra(N T)(s:Int)(P:List Int)(k:Nat)(h:k<P.length):Vw N T s (P.drop k)=Vw N T (s+(fnd P[k] N T).2.2.1) (P.drop (k+1)):=by rw[aL h];rfl
theorem Zlq(N T)(s:Int)(P:List Int)(k:Nat)(h:P.length<=k):Vw N T s (P.drop k)=s:=by rw[bB h];rfl
def Xu(N:List Int)(T:List Zk)(x:Int):Int:=Vw N T 0 (Y5 N T x)
def bstGo(N:List Int)(T:List Zk)(b m:Int):List Int->Int
 | []=>b
 | x :: P=>if m<Xu N T x\/Xu N T x=m/\x<b then bstGo N T x (Xu N T x) P else bstGo N T b m P
theorem Zqb(N T)(b m:Int)(P:List Int)(k:Nat)(h:k<P.length):bstGo N T b m (P.drop k)=if m<Xu N T P[k]\/Xu N T P[k]=m/\P[k]<b then bstGo N T P[k] (Xu N T P[k]) (P.drop (k+1)) else bstGo N T b m (P.drop (k+1)):=by rw[aL h];rfl
theorem Zlf(N T)(b m:Int)(P:List Int)(k:Nat)(h:P.length<=k):bstGo N T b m (P.drop k)=b:=by rw[bB h];rfl
def bstD(N:List Int)(T:List Zk):Int×Int:=if chkTr N T≠0 then (0,chkTr N T) else (bstGo N T 0 0 N,0)
def Znv(N:List Int)(T:List Zk)(x:Int):List Int×Int:=if chkTr N T≠0 then ([],chkTr N T) else if x≠0/\decide (x∈N)=false then ([],5) else (Y5 N T x,0)
theorem Tryz.infoIntC:(Tryz.prog.info? 3).map (λi=>(i.zero,i.size,i.bytes))=dJ (dJ (E J 0),1,8):=by kernel_rfl
theorem Ed(w):Calls aB 68 #[F aD 0 0] w λe w'=>e = dE (F aD 0 0)/\w=w':=by have he:=λw=>cN (P:=aB) w 25 3 aD 0 0 0 0 underlying25;go_enter func68,ntmps68;go_wp2;go_ret;exact⟨rfl,rfl⟩
theorem Fr(ad:Addr)(n c:Nat)(aa:List Value)(w:World)(hn:n<=17592186044416)(hz:aa.length=n*1)(h1:∀ u∈aa,u.oneCell'=true)(hc:∀ j u,aa[j]? = dJ u->w.cell? (ad.add j)=dJ u) : Calls aB 68 #[F (dJ ad) n c] w λe w'=>∃ v,e = dE v/\w'.ownsRow w.heap.size 3 1 v n aa/\ZD w w':=by have⟨i0,hi,ar,au,av⟩:=cB Tryz.infoIntC;have hb:=Zh w (dC #[] 3);have HC:Hid (∀ j u,aa[j]? = dJ u->(w.alloc (dC #[] 3)).cell? (ad.add j)=dJ u):=λj u hj=>Zf hb (hc j u hj);have⟨HB,HZ,H1,HO⟩:=kh4 hb hz h1 (J8 w 3 1);have he:=λw=>cN (P:=aB) w 25 3 (dJ ad) n c 0 0 underlying25;go_enter func68,ntmps68;go_wp2_with (at_builtin;refine wpList_append_own _ rfl _ _ 25 rfl w.heap.size 3 i0 (E J 0) 1 8 underlying25 hi ar au av rfl (by decide) _ _ _ rfl HO ad n c aa rfl HZ HC H1 (by unfold aS;omega) (by omega) HB.size ?_;intro v2 w3 ap am _);have HW:Hid (w3.ownsRow w.heap.size 3 1 v2 n aa):=(by show World.ownsRow _ _ _ _ _ _ _;simpa using ap);have ag:=Zb (HB.grown am HB.size (Wb HO));go_wp2;go_ret;exact⟨v2,rfl,Za HW,Za ag⟩
theorem Rk(a)(n c:Nat)(L:List Int)(w:World)(hn:n<=17592186044416)(h:IntsAt w a n L)(hs:SlOk a n c) : Calls aB 68 #[F a n c] w λe w'=>∃ v,e = dE v/\w'.ownsRow w.heap.size 3 1 v n (L.map (aV .i64))/\ZD w w':=by have⟨hl,hc⟩:=h;cases a with|none=>obtain⟨rfl,rfl⟩:=hs.2.2 rfl;have e:L=[]:=aJ.1 hl;subst e;exact (Ed w).mono λe w' ⟨x,y⟩=>⟨_,x,y ▸ World.ownsRow_nil _ _ _ _,y ▸ Below.refl _ _⟩|some ad=>refine (Fr ad n c (L.map (aV .i64)) w hn (by simp[hl]) (ints_oneCell _ _) (λj u hj=>?_));have ab:j<L.length:=(by have:=(cD.1 hj).1;simpa using this);have⟨b,off,e,_,af⟩:=hc (by omega);cases e;rw[cS,af j ab];simpa[ab] using hj
theorem cloneOp_any(a)(n c:Nat)(l)(w:World)(hn:n<=8796093022208)(h:OpsAt w a n l)(hs:SlOk a n c) : Calls aB 140 #[F a n c] w λe w'=>∃ a' c',e = dE (F a' n c')/\Fresh w.heap.size w' (λw2=>OpsAt w2 a' n l/\SlOk a' n c')/\ZD w w':=by refine (K8 a n c l w hn h hs).mono ?_;rintro e w' ⟨v,rfl,x,y⟩;obtain⟨a',c',rfl,h1,h2,_⟩:=Ci x;refine⟨a',c',rfl,λw2 g2=>?_,y⟩;have⟨a2,c2,e,h3,h4,_⟩:=Ci (g2.own x (λk hk=>by have:=(x.lt k hk).1;omega));cases e;exact⟨h3,h4⟩
theorem Tryz.infoInC:(Tryz.prog.info? 133).map (λi=>(i.zero,i.size,i.bytes))=dJ (dJ (.agg #[E J 0,E J 0,F aD 0 0]),3,40):=by kernel_rfl
theorem Zcx(w):Calls aB 138 #[F aD 0 0] w λe w'=>e = dE (F aD 0 0)/\w=w':=by have he:=λw=>cN (P:=aB) w 32 133 aD 0 0 0 0 underlying32;go_enter func138,ntmps138;go_wp2;go_ret;exact⟨rfl,rfl⟩
theorem Gu(ad:Addr)(n c:Nat)(aa:List Value)(w:World)(hn:n<=3518437208883)(hz:aa.length=n*3)(h1:∀ u∈aa,u.oneCell'=true)(hc:∀ j u,aa[j]? = dJ u->w.cell? (ad.add j)=dJ u) : Calls aB 138 #[F (dJ ad) n c] w λe w'=>∃ v,e = dE v/\w'.ownsRow w.heap.size 133 3 v n aa/\ZD w w':=by have⟨i0,hi,ar,au,av⟩:=cB Tryz.infoInC;have hb:=Zh w (dC #[] 133);have HC:Hid (∀ j u,aa[j]? = dJ u->(w.alloc (dC #[] 133)).cell? (ad.add j)=dJ u):=λj u hj=>Zf hb (hc j u hj);have⟨HB,HZ,H1,HO⟩:=kh4 hb hz h1 (J8 w 133 3);have he:=λw=>cN (P:=aB) w 32 133 (dJ ad) n c 0 0 underlying32;go_enter func138,ntmps138;go_wp2_with (at_builtin;refine wpList_append_own _ rfl _ _ 32 rfl w.heap.size 133 i0 (.agg #[E J 0,E J 0,F aD 0 0]) 3 40 underlying32 hi ar au av rfl (by decide) _ _ _ rfl HO ad n c aa rfl HZ HC H1 (by unfold aS;omega) (by omega) HB.size ?_;intro v2 w3 ap am _);have HW:Hid (w3.ownsRow w.heap.size 133 3 v2 n aa):=(by show World.ownsRow _ _ _ _ _ _ _;simpa using ap);have ag:=Zb (HB.grown am HB.size (Wb HO));go_wp2;go_ret;exact⟨v2,rfl,Za HW,Za ag⟩
theorem Zcy(a)(n c:Nat)(L)(w0 w:World)(hn:n<=3518437208883)(h:RowsAt inR.R 3 w0 a n L)(hb:ZD w0 w)(hs:SlOk a n c) : Calls aB 138 #[F a n c] w λe w'=>∃ v,∃ K:List (List Value),e = dE v/\AllC inR w0 K L/\w'.ownsRow w.heap.size 133 3 v n K.flatten/\ZD w w':=by have⟨hl,hc⟩:=h;cases a with|none=>obtain⟨rfl,rfl⟩:=hs.2.2 rfl;have e:L=[]:=aJ.1 hl;subst e;exact (Zcx w).mono λe w' ⟨x,y⟩=>⟨_,[],x,⟨rfl,λi h=>absurd h (by simp)⟩,y ▸ World.ownsRow_nil _ _ _ _,y ▸ Below.refl _ _⟩|some ad=>by_cases h0:n=0;{subst h0;have e:L=[]:=aJ.1 hl;subst e;exact (Gu ad 0 c [] w hn rfl (λu hu=>by cases hu) (λj u hj=>by simp at hj)).mono λe w' ⟨v,x,y,z⟩=>⟨v,[],x,⟨rfl,λi h=>absurd h (by simp)⟩,y,z⟩};have⟨b,off,e,_,af⟩:=hc (by omega);obtain⟨rfl⟩:=e;have⟨K,h1,h3⟩:=Qu inR af;have hk:K.flatten.length=n*3:=(by rw[W7 h1,hl];rfl);exact (Gu ⟨b,off,aD⟩ n c K.flatten w hn hk (flat_one h1) (λj u hj=>by rw[cS];exact Zf hb (h3 j u hj))).mono λe w' ⟨v,x,y,z⟩=>⟨v,K,x,h1,y,z⟩
theorem Tryz.infoOutC:(Tryz.prog.info? 61).map (λi=>(i.zero,i.size,i.bytes))=dJ (dJ (.agg #[E J 0,F aD 0 0]),2,32):=by kernel_rfl
theorem C9(w):Calls aB 139 #[F aD 0 0] w λe w'=>e = dE (F aD 0 0)/\w=w':=by have he:=λw=>cN (P:=aB) w 33 61 aD 0 0 0 0 underlying33;go_enter func139,ntmps139;go_wp2;go_ret;exact⟨rfl,rfl⟩
theorem Sm(ad:Addr)(n c:Nat)(aa:List Value)(w:World)(hn:n<=4398046511104)(hz:aa.length=n*2)(h1:∀ u∈aa,u.oneCell'=true)(hc:∀ j u,aa[j]? = dJ u->w.cell? (ad.add j)=dJ u) : Calls aB 139 #[F (dJ ad) n c] w λe w'=>∃ v,e = dE v/\w'.ownsRow w.heap.size 61 2 v n aa/\ZD w w':=by have⟨i0,hi,ar,au,av⟩:=cB Tryz.infoOutC;have hb:=Zh w (dC #[] 61);have HC:Hid (∀ j u,aa[j]? = dJ u->(w.alloc (dC #[] 61)).cell? (ad.add j)=dJ u):=λj u hj=>Zf hb (hc j u hj);have⟨HB,HZ,H1,HO⟩:=kh4 hb hz h1 (J8 w 61 2);have he:=λw=>cN (P:=aB) w 33 61 (dJ ad) n c 0 0 underlying33;go_enter func139,ntmps139;go_wp2_with (at_builtin;refine wpList_append_own _ rfl _ _ 33 rfl w.heap.size 61 i0 (.agg #[E J 0,F aD 0 0]) 2 32 underlying33 hi ar au av rfl (by decide) _ _ _ rfl HO ad n c aa rfl HZ HC H1 (by unfold aS;omega) (by omega) HB.size ?_;intro v2 w3 ap am _);have HW:Hid (w3.ownsRow w.heap.size 61 2 v2 n aa):=(by show World.ownsRow _ _ _ _ _ _ _;simpa using ap);have ag:=Zb (HB.grown am HB.size (Wb HO));go_wp2;go_ret;exact⟨v2,rfl,Za HW,Za ag⟩
theorem Ea(a)(n c:Nat)(L)(w0 w:World)(hn:n<=4398046511104)(h:RowsAt outR.R 2 w0 a n L)(hb:ZD w0 w)(hs:SlOk a n c) : Calls aB 139 #[F a n c] w λe w'=>∃ v,∃ K:List (List Value),e = dE v/\AllC outR w0 K L/\w'.ownsRow w.heap.size 61 2 v n K.flatten/\ZD w w':=by have⟨hl,hc⟩:=h;cases a with|none=>obtain⟨rfl,rfl⟩:=hs.2.2 rfl;have e:L=[]:=aJ.1 hl;subst e;exact (C9 w).mono λe w' ⟨x,y⟩=>⟨_,[],x,⟨rfl,λi h=>absurd h (by simp)⟩,y ▸ World.ownsRow_nil _ _ _ _,y ▸ Below.refl _ _⟩|some ad=>by_cases h0:n=0;{subst h0;have e:L=[]:=aJ.1 hl;subst e;exact (Sm ad 0 c [] w hn rfl (λu hu=>by cases hu) (λj u hj=>by simp at hj)).mono λe w' ⟨v,x,y,z⟩=>⟨v,[],x,⟨rfl,λi h=>absurd h (by simp)⟩,y,z⟩};have⟨b,off,e,_,af⟩:=hc (by omega);obtain⟨rfl⟩:=e;have⟨K,h1,h3⟩:=Qu outR af;have hk:K.flatten.length=n*2:=(by rw[W7 h1,hl];rfl);exact (Sm ⟨b,off,aD⟩ n c K.flatten w hn hk (flat_one h1) (λj u hj=>by rw[cS];exact Zf hb (h3 j u hj))).mono λe w' ⟨v,x,y,z⟩=>⟨v,K,x,h1,y,z⟩
theorem Tryz.infoTxC:(Tryz.prog.info? 35).map (λi=>(i.zero,i.size,i.bytes))=dJ (dJ (.agg #[E J 0,F aD 0 0,F aD 0 0]),3,56):=by kernel_rfl
theorem Zcv(w):Calls aB 85 #[F aD 0 0] w λe w'=>e = dE (F aD 0 0)/\w=w':=by have he:=λw=>cN (P:=aB) w 29 35 aD 0 0 0 0 underlying29;go_enter func85,ntmps85;go_wp2;go_ret;exact⟨rfl,rfl⟩
theorem Gt(ad:Addr)(n c:Nat)(aa:List Value)(w:World)(hn:n<=2513169434916)(hz:aa.length=n*3)(h1:∀ u∈aa,u.oneCell'=true)(hc:∀ j u,aa[j]? = dJ u->w.cell? (ad.add j)=dJ u) : Calls aB 85 #[F (dJ ad) n c] w λe w'=>∃ v,e = dE v/\w'.ownsRow w.heap.size 35 3 v n aa/\ZD w w':=by have⟨i0,hi,ar,au,av⟩:=cB Tryz.infoTxC;have hb:=Zh w (dC #[] 35);have HC:Hid (∀ j u,aa[j]? = dJ u->(w.alloc (dC #[] 35)).cell? (ad.add j)=dJ u):=λj u hj=>Zf hb (hc j u hj);have⟨HB,HZ,H1,HO⟩:=kh4 hb hz h1 (J8 w 35 3);have he:=λw=>cN (P:=aB) w 29 35 (dJ ad) n c 0 0 underlying29;go_enter func85,ntmps85;go_wp2_with (at_builtin;refine wpList_append_own _ rfl _ _ 29 rfl w.heap.size 35 i0 (.agg #[E J 0,F aD 0 0,F aD 0 0]) 3 56 underlying29 hi ar au av rfl (by decide) _ _ _ rfl HO ad n c aa rfl HZ HC H1 (by unfold aS;omega) (by omega) HB.size ?_;intro v2 w3 ap am _);have HW:Hid (w3.ownsRow w.heap.size 35 3 v2 n aa):=(by show World.ownsRow _ _ _ _ _ _ _;simpa using ap);have ag:=Zb (HB.grown am HB.size (Wb HO));go_wp2;go_ret;exact⟨v2,rfl,Za HW,Za ag⟩
theorem cloneTx_any(a)(n c:Nat)(L)(w0 w:World)(hn:n<=2513169434916)(h:RowsAt txR.R 3 w0 a n L)(hb:ZD w0 w)(hs:SlOk a n c) : Calls aB 85 #[F a n c] w λe w'=>∃ v,∃ K:List (List Value),e = dE v/\AllC txR w0 K L/\w'.ownsRow w.heap.size 35 3 v n K.flatten/\ZD w w':=by have⟨hl,hc⟩:=h;cases a with|none=>obtain⟨rfl,rfl⟩:=hs.2.2 rfl;have e:L=[]:=aJ.1 hl;subst e;exact (Zcv w).mono λe w' ⟨x,y⟩=>⟨_,[],x,⟨rfl,λi h=>absurd h (by simp)⟩,y ▸ World.ownsRow_nil _ _ _ _,y ▸ Below.refl _ _⟩|some ad=>by_cases h0:n=0;{subst h0;have e:L=[]:=aJ.1 hl;subst e;exact (Gt ad 0 c [] w hn rfl (λu hu=>by cases hu) (λj u hj=>by simp at hj)).mono λe w' ⟨v,x,y,z⟩=>⟨v,[],x,⟨rfl,λi h=>absurd h (by simp)⟩,y,z⟩};have⟨b,off,e,_,af⟩:=hc (by omega);obtain⟨rfl⟩:=e;have⟨K,h1,h3⟩:=Qu txR af;have hk:K.flatten.length=n*3:=(by rw[W7 h1,hl];rfl);exact (Gt ⟨b,off,aD⟩ n c K.flatten w hn hk (flat_one h1) (λj u hj=>by rw[cS];exact Zf hb (h3 j u hj))).mono λe w' ⟨v,x,y,z⟩=>⟨v,K,x,h1,y,z⟩
theorem Tryz.infoBlkC:(Tryz.prog.info? 41).map (λi=>(i.zero,i.size,i.bytes))=dJ (dJ (.agg #[E J 0,E J 0,E J 0,E J 0,F aD 0 0]),5,56):=by kernel_rfl
theorem Ef(w):Calls aB 131 #[F aD 0 0] w λe w'=>e = dE (F aD 0 0)/\w=w':=by have he:=λw=>cN (P:=aB) w 26 41 aD 0 0 0 0 underlying26;go_enter func131,ntmps131;go_wp2;go_ret;exact⟨rfl,rfl⟩
theorem So(ad:Addr)(n c:Nat)(aa:List Value)(w:World)(hn:n<=2513169434916)(hz:aa.length=n*5)(h1:∀ u∈aa,u.oneCell'=true)(hc:∀ j u,aa[j]? = dJ u->w.cell? (ad.add j)=dJ u) : Calls aB 131 #[F (dJ ad) n c] w λe w'=>∃ v,e = dE v/\w'.ownsRow w.heap.size 41 5 v n aa/\ZD w w':=by have⟨i0,hi,ar,au,av⟩:=cB Tryz.infoBlkC;have hb:=Zh w (dC #[] 41);have HC:Hid (∀ j u,aa[j]? = dJ u->(w.alloc (dC #[] 41)).cell? (ad.add j)=dJ u):=λj u hj=>Zf hb (hc j u hj);have⟨HB,HZ,H1,HO⟩:=kh4 hb hz h1 (J8 w 41 5);have he:=λw=>cN (P:=aB) w 26 41 (dJ ad) n c 0 0 underlying26;go_enter func131,ntmps131;go_wp2_with (at_builtin;refine wpList_append_own _ rfl _ _ 26 rfl w.heap.size 41 i0 (.agg #[E J 0,E J 0,E J 0,E J 0,F aD 0 0]) 5 56 underlying26 hi ar au av rfl (by decide) _ _ _ rfl HO ad n c aa rfl HZ HC H1 (by unfold aS;omega) (by omega) HB.size ?_;intro v2 w3 ap am _);have HW:Hid (w3.ownsRow w.heap.size 41 5 v2 n aa):=(by show World.ownsRow _ _ _ _ _ _ _;simpa using ap);have ag:=Zb (HB.grown am HB.size (Wb HO));go_wp2;go_ret;exact⟨v2,rfl,Za HW,Za ag⟩
theorem Gv(a)(n c:Nat)(L)(w0 w:World)(hn:n<=2513169434916)(h:RowsAt blkR.R 5 w0 a n L)(hb:ZD w0 w)(hs:SlOk a n c) : Calls aB 131 #[F a n c] w λe w'=>∃ v,∃ K:List (List Value),e = dE v/\AllC blkR w0 K L/\w'.ownsRow w.heap.size 41 5 v n K.flatten/\ZD w w':=by have⟨hl,hc⟩:=h;cases a with|none=>obtain⟨rfl,rfl⟩:=hs.2.2 rfl;have e:L=[]:=aJ.1 hl;subst e;exact (Ef w).mono λe w' ⟨x,y⟩=>⟨_,[],x,⟨rfl,λi h=>absurd h (by simp)⟩,y ▸ World.ownsRow_nil _ _ _ _,y ▸ Below.refl _ _⟩|some ad=>by_cases h0:n=0;{subst h0;have e:L=[]:=aJ.1 hl;subst e;exact (So ad 0 c [] w hn rfl (λu hu=>by cases hu) (λj u hj=>by simp at hj)).mono λe w' ⟨v,x,y,z⟩=>⟨v,[],x,⟨rfl,λi h=>absurd h (by simp)⟩,y,z⟩};have⟨b,off,e,_,af⟩:=hc (by omega);obtain⟨rfl⟩:=e;have⟨K,h1,h3⟩:=Qu blkR af;have hk:K.flatten.length=n*5:=(by rw[W7 h1,hl];rfl);exact (So ⟨b,off,aD⟩ n c K.flatten w hn hk (flat_one h1) (λj u hj=>by rw[cS];exact Zf hb (h3 j u hj))).mono λe w' ⟨v,x,y,z⟩=>⟨v,K,x,h1,y,z⟩
theorem indexInt_is(a)(n c:Nat)(L)(s x:Int)(w)(hn:n<=aS)(h:IntsAt w a n L)(hx:Jn s L 0=x) : Calls aB 51 #[F a n c,E J s] w λe w'=>e = dE (E J x)/\w=w':=by have⟨HL,HZ⟩:=kh2 h h.1;have HX:Hid (Jn s (L.drop 0) 0=x):=hx;unfold aS at hn;go_enter func51,ntmps51;go_wp2;go_loopw [8] (λi wr=>∃ j:Nat,j<=n/\i = E J j/\w=wr/\Hid (Jn s (L.drop j) j=x)) (λi _=>n - (intOf i).toNat);{exact⟨0,aH _,rfl,rfl,HX⟩};obtain⟨j,hk,rfl,rfl,A⟩:=hrel;by_cases ag:j<n;{have h1:j<L.length:=(by rw[Za HZ];exact ag);obtain⟨b,off,rfl,ak,hc⟩:=HL.2 (by omega);have f1:=hc j h1;have ST:=Zb (Zsx s L j h1);have⟨t,ht⟩:=ZF (L[j]);rw[ht] at f1 ST;by_cases e:s=t;{subst e;have R:Hid ((j:Int)=x):=(by show _=_;rw[<-Za A,Za ST,if_pos rfl]);clear A;go_wp2;go_ret;exact⟨by rw[Za R];rfl,rfl⟩};have R:Hid (Jn s (L.drop (j+1)) (j+1)=x):=(by show _=_;rw[<-Za A,Za ST,if_neg e]);have g:=dU e;go_wp2;go_roundw;{exact⟨j+1,by omega,by go_num,(by trivial),R⟩};simp[intOf];omega};have R:Hid (x = -1):=(by show _=_;rw[<-Za A,Zox s L j (by rw[Za HZ];omega)]);clear A;go_wp2;go_ret;exact⟨by rw[Za R];rfl,rfl⟩
theorem Vr(a)(n c:Nat)(L)(s:Int)(o:Bool)(w)(hn:n<=aS)(h:IntsAt w a n L)(ho:decide (s∈L)=o) : Calls aB 118 #[F a n c,E J s] w λe w'=>e = dE (dH o)/\w=w':=by have⟨x,hx⟩:=ZF (Jn s L 0);have C:=Zb (indexInt_is a n c L s x w hn h hx);have HO:Hid (decide (0<=x)=o):=(by show _=_;rw[<-hx,Zcb,ho]);go_enter func118,ntmps118;go_wp2_with fail;refine dR C ?_;go_wp2;go_ret;exact⟨by rw[<-Za HO];rfl,rfl⟩
theorem Zfj(a b)(n c m d:Nat)(L)(s:Int)(o:Bool)(w:World)(hn:n<=aS)(h:IntsAt w a n L)(ho:decide (s∈L)=o) : ZH 142 #[.agg #[F a n c,F b m d],E J s] w (dH o):=by have hb:=Zh w (dC #[F a n c,F b m d] 28);have⟨C,HB⟩:=kh2 (Vr a n c L s o _ hn (h.later hb) ho) hb;go_enter func142,ntmps142;go_wp2_with fail;refine dR C ?_;go_wp2;go_ret;exact⟨rfl,Za HB⟩
def Pj(x:Zk)(a:Option Addr)(n c:Nat):Value:=.agg #[E J x.1,E J x.2.1,E J x.2.2.1,E J x.2.2.2.1,F a n c]
theorem L0(a b)(n c d:Nat)(N T)(s:Int)(x:Zk)(w:World)(hn:n<=aS)(h:IntsAt w a n N)(hT:BlksAt w b n T)(hx:fnd s N T=x) : Calls aB 144 #[.agg #[F a n c,F b n d],E J s] w λe w'=>∃ ta tn tc,e = dE (Pj x ta tn tc)/\TxsAt w ta tn x.2.2.2.2/\SlOk ta tn tc/\ZD w w':=by unfold Pj;have⟨X,hX⟩:=ZG ((w.alloc (dC #[F a n c,F b n d] 28)).alloc (dC #[E J 0,E J 0,E J 0,E J 0,F aD 0 0] 41));have ab:ZD w X:=(by rw[hX];exact Ze (Zh _ _) (Zh _ _));have x0:dV X w.heap.size 0 (F a n c):=(by rw[hX];exact Zf (Zh _ _) (Ym w _ _ _).1);have x1:dV X w.heap.size 1 (F b n d):=(by rw[hX];exact Zf (Zh _ _) (Ym w _ _ _).2);have al:X.heap[w.heap.size+1]? = dJ (dC [E J 0,E J 0,E J 0,E J 0,F aD 0 0].toArray 41 (0,0)):=(by rw[hX];have:=Zu (w.alloc (dC #[F a n c,F b n d] 28)) (E J 0) (E J 0) (E J 0) (E J 0) (F aD 0 0) 41;rw[show (w.alloc (dC #[F a n c,F b n d] 28)).heap.size=w.heap.size+1 by simp] at this;exact this);have⟨z0,z1,z2,z3,z4,y0,y1,y2,y3,y4,xl⟩:=kf5 al;have⟨k,hk⟩:=ZF (Jn s N 0);have⟨C,ad,HT⟩:=kh3 (indexInt_is a n c N s k X hn (h.later ab) hk) ab hT;rcases idxI_fnd s N T 0 (by rw[h.1,hT.1]) with ⟨h1,_,h3⟩|⟨i,hi,h1,_,h3⟩;{rw[hx] at h3;obtain rfl:k = -1:=(by rw[<-hk,h1]);subst h3;unfold Ys;simp only;go_enter func144,ntmps144;go_wp2_with fail;rw[<-hX];clear hX;refine dR C ?_;go_wp2;refine aG (v:=.agg #[E J 0,E J 0,E J 0,E J 0,F aD 0 0]) ?_ rfl ⟨aD,0,0,rfl,RowsAt.nil _ _,⟨aF _,aH _,λ_=>⟨rfl,rfl⟩⟩,?_⟩;{rw[Yu rfl];go_simp};exact (((((Gr.refl X (λq=>q=w.heap.size+1)).one (w.heap.size+1) 0 (.inl rfl) _).one (w.heap.size+1) 1 (.inl rfl) _).one (w.heap.size+1) 2 (.inl rfl) _).one (w.heap.size+1) 3 (.inl rfl) _).one (w.heap.size+1) 4 (.inl rfl) _ |>.below ad (by omega) (λk hk=>by omega)};rw[hx] at h3;obtain rfl:k=(i:Int):=(by rw[<-hk,h1];simp);have av:i<n:=(by rw[<-hT.1];exact hi);obtain⟨bb,off,rfl,am,an⟩:=hT.2 (by omega);have ae:=an i hi;rw[<-h3] at ae;have⟨g0,g1,g2,g3,ta,tn,tc,g4,ht,hs⟩:=ae;have⟨ah,ag⟩:=kh2 ht hs;have k0:=Zf ab g0;have k1:=Zf ab g1;have k2:=Zf ab g2;have k3:=Zf ab g3;have k4:=Zf ab g4;have bl:=aE am ab.size;go_enter func144,ntmps144;go_wp2_with fail;rw[<-hX];clear hX;refine dR C ?_;go_wp2;refine aG (v:=.agg #[E J x.1,E J x.2.1,E J x.2.2.1,E J x.2.2.2.1,F ta tn tc]) ?_ rfl ⟨ta,tn,tc,rfl,Za ah,Za ag,?_⟩;{rw[Yu rfl];go_simp};exact (((((Gr.refl X (λq=>q=w.heap.size+1)).one (w.heap.size+1) 0 (.inl rfl) _).one (w.heap.size+1) 1 (.inl rfl) _).one (w.heap.size+1) 2 (.inl rfl) _).one (w.heap.size+1) 3 (.inl rfl) _).one (w.heap.size+1) 4 (.inl rfl) _ |>.below ad (by omega) (λk hk=>by omega)
theorem Hr(p h k n v w) : (Instr.field 41 (.agg #[p,h,k,n,v]) 0).run aB w = .ok p w/\(Instr.field 41 (.agg #[p,h,k,n,v]) 1).run aB w = .ok h w/\(Instr.field 41 (.agg #[p,h,k,n,v]) 2).run aB w = .ok k w:=by refine⟨?_,?_,?_⟩ <;> kernel_rfl
theorem Kv(a b)(n c d:Nat)(N T)(s z:Int)(w:World)(hn:n<=aS)(h:IntsAt w a n N)(hT:BlksAt w b n T)(hz:(fnd s N T).2.1=z) : ZH 155 #[.agg #[F a n c,F b n d],E J s] w (E J z):=by have hb:=Zh w (dC #[F a n c,F b n d] 28);have C:=L0 a b n c d N T s _ _ hn (h.later hb) (hT.later hb) rfl;unfold Pj at C;rw[hz] at C;have⟨C,HB⟩:=kh2 C hb;go_enter func155,ntmps155;go_wp2_with fail;refine C.mono ?_;rintro e w1 ⟨ta,tn,tc,rfl,_,_,ab⟩;have ad:=Zb (Ze HB ab);have hf:=(Hr (E J (fnd s N T).1) (E J z) (E J (fnd s N T).2.2.1) (E J (fnd s N T).2.2.2.1) (F ta tn tc) w1).2.1;clear ab;go_wp2;go_ret;exact⟨rfl,Za ad⟩
def Wid(sz:Nat)(K:List (List Value)):Prop:=∀ c∈K,c.length=sz
theorem AllC.wid{α : Type}{Z:Rec α}{w K}{L:List α}(h:AllC Z w K L):Wid Z.sz K:=by intro c hc;obtain⟨i,hi,rfl⟩:=List.getElem_of_mem hc;exact Z.wide _ _ _ (h.2 i (by rw[<-h.1];exact hi) hi)
theorem Zlr{sz:Nat}:∀ {K:List (List Value)} (_:Wid sz K) (k:Nat) (h:k<K.length) (j:Nat) (_:j<sz),K.flatten[k*sz+j]? = (K[k])[j]?
 | [],_,_,h,_,_=>absurd h (by simp)
 | c :: K,hw,0,_,j,hj=>by
  have h2:=hw c (by simp);rw[List.flatten_cons,List.getElem?_append_left (by omega)];simp
 | c :: K,hw,k+1,h,j,hj=>by
  have h2:=hw c (by simp);rw[List.flatten_cons,List.getElem?_append_right (by rw[h2,Nat.succ_mul];omega),h2];rw[show (k+1)*sz+j - sz=k*sz+j by rw[Nat.succ_mul];omega];rw[Zlr (λc hc=>hw c (by simp[hc])) k (by simpa using h) j hj];simp
theorem Wf{sz:Nat}:∀ {K:List (List Value)} (_:Wid sz K) (k:Nat) (h:k<K.length) (j:Nat) (_:j<sz) (u:Value),K.flatten.set (k*sz+j) u=(K.set k ((K[k]).set j u)).flatten
 | [],_,_,h,_,_,_=>absurd h (by simp)
 | c :: K,hw,0,_,j,hj,u=>by
  have h2:=hw c (by simp);rw[List.flatten_cons,Nat.zero_mul,bW,List.set_append_left _ _ (by omega)];simp
 | c :: K,hw,k+1,h,j,hj,u=>by
  have h2:=hw c (by simp);rw[List.flatten_cons,List.set_append_right _ _ (by rw[h2,Nat.succ_mul];omega),h2];rw[show (k+1)*sz+j - sz=k*sz+j by rw[Nat.succ_mul];omega];rw[Wf (λc hc=>hw c (by simp[hc])) k (by simpa using h) j hj u];simp
theorem Qz{sz:Nat}{K:List (List Value)}(hw:Wid sz K)(k:Nat){c:List Value}(hc:c.length=sz):Wid sz (K.set k c):=by intro x hx;rcases List.mem_or_eq_of_mem_set hx with q|rfl;{exact hw x q};exact hc
structure Cl{α : Type}(Z:Rec α)(e:aZ)(B G:Nat)(w0 wr:World)(v:Value)(n:Nat)(K:List (List Value))(L:List α)(k:Nat):Prop where
 own:wr.ownsRow B e Z.sz v n K.flatten
 wid:Wid Z.sz K
 len:K.length=L.length
 ln:L.length=n
 gt:∀ q,v.ownBlock=dJ q->q<G
 new:∀ i (h:i<L.length) (h':i<K.length),i<k->Fresh G wr (λw2=>Z.C w2 K[i] L[i])
 old:∀ i (h:i<L.length) (h':i<K.length),k<=i->Z.C w0 K[i] L[i]
section
section
variable {α : Type} {Z : Rec α} {e : TypeId} {B G : Nat} {w0 wr w' : World} {v : Value} {n : Nat} {K : List (List Value)} {L : List α} {k : Nat}
theorem Cl.start(h:wr.ownsRow B e Z.sz v n K.flatten)(hc:AllC Z w0 K L)(hn:L.length=n)(hG:wr.heap.size<=G):Cl Z e B G w0 wr v n K L 0:=⟨h,hc.wid,hc.1,hn,λq hq=>aE (h.lt q hq).2 hG,λ_ _ _ h=>absurd h (by omega),λi h h' _=>hc.2 i h h'⟩
theorem Cl.gr{S:Nat->Prop}(h:Cl Z e B G w0 wr v n K L k)(g:Gr wr w' S)(hs:∀ q,S q->q<G)(hv:∀ q,v.ownBlock=dJ q->¬S q):Cl Z e B G w0 w' v n K L k:=⟨g.own h.own hv,h.wid,h.len,h.ln,h.gt,λi a b c=>(h.new i a b c).on (g.mono λq _ hq=>hs q hq),h.old⟩
theorem Cl.keep(h:Cl Z e B G w0 wr v n K L k)(hb:ZD wr w'):Cl Z e B G w0 w' v n K L k:=h.gr (S:=λ_=>False) (Gr.of hb) (λ_ q=>q.elim) (λ_ _ q=>q)
theorem Cl.form(h:Cl Z e B G w0 wr v n K L k)(hn:0<n):∃ g cap,v = F (dJ ⟨g,0,aD⟩) n cap/\B<=g/\g<G/\g<wr.heap.size:=by rcases h.own.2 with ⟨_,h0⟩|⟨g,cap,ac,rfl,hg,hh,_⟩;{omega};exact⟨g,cap,rfl,hg,h.gt g rfl,aA hh⟩
theorem Cl.cell{g cap:Nat}(h:Cl Z e B G w0 wr (F (dJ ⟨g,0,aD⟩) n cap) n K L k)(i:Nat)(hi:i<K.length)(j:Nat)(hj:j<Z.sz):wr.cell? ⟨g,i*Z.sz+j,aD⟩=(K[i])[j]?:=by
 have ab:i<n:=by rw[<-h.ln,<-h.len];exact hi
 have:(i+1)*Z.sz<=n*Z.sz:=Nat.mul_le_mul_right _ (by omega);rw[Nat.succ_mul] at this;rw[bI h.own _ (by omega),Zlr h.wid i hi j hj]
theorem Cl.free{g cap:Nat}(h:Cl Z e B G w0 wr (F (dJ ⟨g,0,aD⟩) n cap) n K L k)(j:Nat):wr.frozen? ⟨g,j,aD⟩=false:=h.own.frozenAt j
theorem Cl.step{g cap:Nat}(h:Cl Z e B G w0 wr (F (dJ ⟨g,0,aD⟩) n cap) n K L k)(hk:k<L.length){cs}(hc:Fresh G wr (λw2=>Z.C w2 cs L[k]))(hg:Gr wr w' (λq=>q=g))(ho:w'.ownsRow B e Z.sz (F (dJ ⟨g,0,aD⟩) n cap) n (K.set k cs).flatten):Cl Z e B G w0 w' (F (dJ ⟨g,0,aD⟩) n cap) n (K.set k cs) L (k+1):=by have ae:=h.gt g rfl;have hw:=Z.wide _ _ _ hc.now;have hm:Gr wr w' (λq=>q<G):=hg.mono λq _ e=>(by omega);refine⟨ho,Qz h.wid k hw,by rw[List.length_set];exact h.len,h.ln,h.gt,λi a b c=>?_,λi a b c=>?_⟩;{by_cases e:i=k;{subst e;rw[List.getElem_set_self];exact hc.on hm};rw[List.getElem_set_ne (by omega)];exact (h.new i a (by simpa using b) (by omega)).on hm};rw[List.getElem_set_ne (by omega)];exact h.old i a (by simpa using b) (by omega)
theorem Cl.done(h:Cl Z e B G w0 wr v n K L n):Fresh G wr (λw2=>AllC Z w2 K L):=λw2 g2=> ⟨h.len,λi a b=>h.new i a b (by rw[<-h.ln];exact a) w2 g2⟩
theorem Cl.rows(h:Cl Z e B G w0 wr v n K L n)(hB:B<=G):∃ a c,v = F a n c/\Fresh B wr (λw2=>RowsAt Z.R Z.sz w2 a n L/\SlOk a n c):=by obtain⟨a,c,rfl,_,_⟩:=rows_of_own Z h.own h.done.now h.ln;refine⟨a,c,rfl,λw2 g2=>?_⟩;have ho:=g2.own h.own (λq hq=>by have:=(h.own.lt q hq).1;omega);have⟨a',c',e,h1,h2⟩:=rows_of_own Z ho (h.done w2 (g2.mono λq _ hq=>by omega)) h.ln;cases e;exact⟨h1,h2⟩
end
theorem set_cells{w:World}{b:Nat}{X:List Value}{t:aZ}(h:w.heap[b]? = dJ (dC X.toArray t (0,0)))(j:Nat)(u):(w.setCell ⟨b,j,aD⟩ u).heap[b]? = dJ (dC (X.set j u).toArray t (0,0)):=by rw[setCell_eq_setRow w b j X.toArray t (0,0) u h];have:=setRow_heap w b _ (X.toArray.setIfInBounds j u) t _ h;simpa using this
theorem len1{c:List Value}(h:c.length=2):∃ x y,c=[x,y]:=by match c,h with|[x,y],_=>exact⟨x,y,rfl⟩
theorem len3{c:List Value}(h:c.length=3):∃ x y z,c=[x,y,z]:=by match c,h with|[x,y,z],_=>exact⟨x,y,z,rfl⟩
theorem len5{c:List Value}(h:c.length=5):∃ x y z r s,c=[x,y,z,r,s]:=by match c,h with|[x,y,z,r,s],_=>exact⟨x,y,z,r,s,rfl⟩
theorem put2{K:List (List Value)}(hw:Wid 2 K)(k:Nat)(h:k<K.length)(a b):((K.flatten.set (k*2) a).set (k*2+1) b)=(K.set k [a,b]).flatten:=by have⟨x,y,e⟩:=len1 (hw _ (aT h));have h1:=Wf hw k h 0 (by decide) a;rw[Nat.add_zero] at h1;rw[h1,Wf (Qz hw k (by rw[List.length_set,e];rfl)) k (by rw[List.length_set];exact h) 1 (by decide) b,List.getElem_set_self,List.set_set,e];rfl
theorem put3{K:List (List Value)}(hw:Wid 3 K)(k:Nat)(h:k<K.length)(a b c):(((K.flatten.set (k*3) a).set (k*3+1) b).set (k*3+2) c)=(K.set k [a,b,c]).flatten:=by have⟨x,y,z,e⟩:=len3 (hw _ (aT h));have h1:=Wf hw k h 0 (by decide) a;rw[Nat.add_zero] at h1;rw[h1,Wf (Qz hw k (by rw[List.length_set,e];rfl)) k (by rw[List.length_set];exact h) 1 (by decide) b,List.getElem_set_self,List.set_set,e];rw[Wf (Qz hw k rfl) k (by rw[List.length_set];exact h) 2 (by decide) c,List.getElem_set_self,List.set_set];rfl
theorem put5{K:List (List Value)}(hw:Wid 5 K)(k:Nat)(h:k<K.length)(a b c d f):(((((K.flatten.set (k*5) a).set (k*5+1) b).set (k*5+2) c).set (k*5+3) d).set (k*5+4) f)=(K.set k [a,b,c,d,f]).flatten:=by have⟨x,y,z,r,s,e⟩:=len5 (hw _ (aT h));have h1:=Wf hw k h 0 (by decide) a;rw[Nat.add_zero] at h1;rw[h1,Wf (Qz hw k (by rw[List.length_set,e];rfl)) k (by rw[List.length_set];exact h) 1 (by decide) b,List.getElem_set_self,List.set_set,e];rw[Wf (Qz hw k rfl) k (by rw[List.length_set];exact h) 2 (by decide) c,List.getElem_set_self,List.set_set];rw[Wf (Qz hw k rfl) k (by rw[List.length_set];exact h) 3 (by decide) d,List.getElem_set_self,List.set_set];rw[Wf (Qz hw k rfl) k (by rw[List.length_set];exact h) 4 (by decide) f,List.getElem_set_self,List.set_set];rfl
theorem S8(x:Int)(a)(n c:Nat)(l)(w:World)(hn:n<=8796093022208)(h:OpsAt w a n l)(hs:SlOk a n c) : Calls aB 141 #[.agg #[E J x,F a n c]] w λe w'=>∃ a' c',e = dE (.agg #[E J x,F a' n c'])/\Fresh w.heap.size w' (λw2=>OpsAt w2 a' n l/\SlOk a' n c')/\ZD w w':=by have⟨X,hX⟩:=ZG ((w.alloc (dC #[E J x,F a n c] 61)).alloc (dC #[E J 0,F aD 0 0] 61));have ah:ZD w X:=(by rw[hX];exact Ze (Zh _ _) (Zh _ _));have x0:dV X w.heap.size 0 (E J x):=(by rw[hX];exact Zf (Zh _ _) (Ym w _ _ _).1);have x1:dV X w.heap.size 1 (F a n c):=(by rw[hX];exact Zf (Zh _ _) (Ym w _ _ _).2);have al:X.heap[w.heap.size+1]? = dJ (dC [E J 0,F aD 0 0].toArray 61 (0,0)):=(by rw[hX];have:=two_heap (w.alloc (dC #[E J x,F a n c] 61)) (E J 0) (F aD 0 0) 61;rw[show (w.alloc (dC #[E J x,F a n c] 61)).heap.size=w.heap.size+1 by simp] at this;exact this);have⟨C,af,ak⟩:=kh3 (cloneOp_any a n c l X.drew hn (h.later (Ze ah (Zj X))) hs) al ah;go_enter func141,ntmps141;go_wp2_with fail;rw[<-hX];clear hX;go_region_with (go_at_call 140;refine C.mono ?_;rintro e w3 ⟨a',c',rfl,ae,ab⟩;have o2:dV w3 w.heap.size 0 (E J x):=Zf ab (Zf (Zj _) x0);have ad:=ZE ab af;have c0:=Zd ad 0 _ rfl;have c1:=Zd ad 1 _ rfl;have f0:=Zg ad 0;have f1:=Zg ad 1;have H3:Hid (Fresh X.drew.heap.size w3 (λw2=>OpsAt w2 a' n l/\SlOk a' n c')/\Below X.drew.heap.size X.drew w3):=⟨ae,ab⟩;clear ae ab ad);all_goals(go_wp2;have⟨ae,ab⟩:=Za H3;have hG:=((Gr.refl w3 (λq=>q=w.heap.size+1)).one (w.heap.size+1) 0 (.inl rfl) (E J x)).one (w.heap.size+1) 1 (.inl rfl) (F a' n c');have au:w.heap.size+1<X.drew.heap.size:=aA af;refine aG (v:=.agg #[E J x,F a' n c']) ?_ rfl ⟨a',c',rfl,(ae.on (hG.mono λq _ e=>by omega)).less (by omega),?_⟩;{rw[Yu rfl];go_simp};have av:=ab.size;exact hG.below (Ze (Ze ak (Zj _)) ab) (by omega) (λk hk=>by omega))
end
theorem Wc{w:World}{B B':Nat}{e e':aZ}{sz af n n':Nat}{v v':Value}{xs ag}(h:w.ownsRow B e sz v n xs)(h':w.ownsRow B' e' af v' n' ag)(hn:e≠e')(q:Nat)(hq:v.ownBlock=dJ q):v'.ownBlock≠dJ q:=by intro ad;have⟨c,f,h1⟩:=Lib.ownsRow_kind h q hq;have⟨c',f',h2⟩:=Lib.ownsRow_kind h' q ad;rw[h1] at h2;injection h2 with h2;injection h2 with _ h2;exact hn h2
theorem Zsv{G B ac:Nat}{w0 wr w5:World}{g cap n k:Nat}{K:List (List Value)}{I:List InD}{x:InD}{a a5 m c c5}(h:Cl inR 133 B G w0 wr (F (dJ ⟨g,0,aD⟩) n cap) n K I k)(hk:k<I.length)(ah:k<K.length)(hx:I[k]=x)(e:K[k]=[E J x.1,E J x.2.1,F a m c])(hb:ZD wr w5)(hf:Fresh ac w5 (λw2=>OpsAt w2 a5 m x.2.2/\SlOk a5 m c5))(hG:G<=ac) : Cl inR 133 B G w0 (w5.setCell ⟨g,k*3+2,aD⟩ (F a5 m c5)) (F (dJ ⟨g,0,aD⟩) n cap) n (K.set k [E J x.1,E J x.2.1,F a5 m c5]) I (k+1):=by have h5:=h.keep hb;refine h5.step hk ?_ ((Gr.refl w5 (λq=>q=g)).one g (k*3+2) (.inl rfl) _) ?_;{rw[hx];exact (hf.less hG).imp λw2 q=>⟨a5,m,c5,rfl,q.1,q.2⟩};have h1:=(h5.own.stored (k*3+2) (F a5 m c5)).1;have h2:=Wf (sz:=3) h5.wid k ah 2 (by decide) (F a5 m c5);rw[e] at h2;rw[h2] at h1;exact h1
theorem Zod{G B ac:Nat}{w0 wr w5:World}{g cap n k:Nat}{K:List (List Value)}{O:List Z0}{x:Z0}{a5 m c5}(h:Cl outR 61 B G w0 wr (F (dJ ⟨g,0,aD⟩) n cap) n K O k)(hk:k<O.length)(ah:k<K.length)(hx:O[k]=x)(hb:ZD wr w5)(hf:Fresh ac w5 (λw2=>OpsAt w2 a5 m x.2/\SlOk a5 m c5))(hG:G<=ac) : Cl outR 61 B G w0 ((w5.setCell ⟨g,k*2,aD⟩ (E J x.1)).setCell ⟨g,k*2+1,aD⟩ (F a5 m c5)) (F (dJ ⟨g,0,aD⟩) n cap) n (K.set k [E J x.1,F a5 m c5]) O (k+1):=by have h5:=h.keep hb;refine h5.step hk ?_ (((Gr.refl w5 (λq=>q=g)).one g (k*2) (.inl rfl) _).one g (k*2+1) (.inl rfl) _) ?_;{rw[hx];exact (hf.less hG).imp λw2 q=>⟨a5,m,c5,rfl,q.1,q.2⟩};have h1:=((h5.own.stored (k*2) (E J x.1)).1.stored (k*2+1) (F a5 m c5)).1;rw[put2 h5.wid k ah] at h1;exact h1
def Ztz(w:World)(h:Int)(I:List InD)(O:List Z0)(ni no:Nat)(v1 v2:Value)(wx:World):Prop:=
 ∃ K1 K2,AllC inR w K1 I/\AllC outR w K2 O/\wx.ownsRow (w.heap.size+2) 133 3 v1 ni K1.flatten/\wx.ownsRow (w.heap.size+2) 61 2 v2 no K2.flatten /\
  wx.heap[w.heap.size]? = dJ (dC [E J h,v1,v2].toArray 35 (0,0))/\wx.heap[w.heap.size+1]? = dJ (dC [E J 0,F aD 0 0,F aD 0 0].toArray 35 (0,0))/\ZD w wx
theorem Zcp{w W wx:World}{h:Int}{I O}{ni no:Nat}{v1 v2}{K1 K2:List (List Value)}(h1:AllC inR w K1 I)(h2:AllC outR w K2 O)(o1:W.ownsRow (w.heap.size+2) 133 3 v1 ni K1.flatten)(o2:W.ownsRow (w.heap.size+2) 61 2 v2 no K2.flatten)(hb:ZD w W) (hz:W.heap[w.heap.size+1]? = dJ (dC [E J 0,F aD 0 0,F aD 0 0].toArray 35 (0,0))) (hg:Gr W wx (λq=>q=w.heap.size)) (hx:wx.heap[w.heap.size]? = dJ (dC [E J h,v1,v2].toArray 35 (0,0))):Ztz w h I O ni no v1 v2 wx:=⟨K1,K2,h1,h2,hg.own o1 (λk hk=>by have:=(o1.lt k hk).1;omega),hg.own o2 (λk hk=>by have:=(o2.lt k hk).1;omega),hx,hg.heap hz (by omega),hg.below hb (by have:=aA hz;omega) (λk hk=>by omega)⟩
theorem clTx_is(h:Int)(ai ao ni ci no co I O)(w:World)(hI:InsAt w ai ni I)(hO:OutsAt w ao no O)(sI:SlOk ai ni ci)(sO:SlOk ao no co)(fe:ni<=3518437208883)(ff:no<=4398046511104)(hk:∀ x∈I,x.2.2.length<=8796093022208)(hl:∀ x∈O,x.2.length<=8796093022208) : Calls aB 95 #[.agg #[E J h,F ai ni ci,F ao no co]] w λe w'=>∃ a1 c1 a2 c2,e = dE (.agg #[E J h,F a1 ni c1,F a2 no c2])/\Fresh w.heap.size w' (λw2=>txR.C w2 [E J h,F a1 ni c1,F a2 no c2] (h,I,O))/\ZD w w':=by have⟨X,hX⟩:=ZG ((w.alloc (dC #[E J h,F ai ni ci,F ao no co] 35)).alloc (dC #[E J 0,F aD 0 0,F aD 0 0] 35));have dc:ZD w X:=(by rw[hX];exact Ze (Zh _ _) (Zh _ _));have db:X.heap[w.heap.size]? = dJ (dC [E J h,F ai ni ci,F ao no co].toArray 35 (0,0)):=(by rw[hX,bJ _ _ _ (by simp)];exact Zp _ _ _ _ _);have ee:X.heap.size=w.heap.size+2:=(by rw[hX];simp);have av:X.heap[w.heap.size+1]? = dJ (dC [E J 0,F aD 0 0,F aD 0 0].toArray 35 (0,0)):=(by rw[hX];have:=Zp (w.alloc (dC #[E J h,F ai ni ci,F ao no co] 35)) (E J 0) (F aD 0 0) (F aD 0 0) 35;rw[show (w.alloc (dC #[E J h,F ai ni ci,F ao no co] 35)).heap.size=w.heap.size+1 by simp] at this;exact this);have⟨eo,dx,et,dy,er,es,dz,ea⟩:=kh8 dc db av ee hk hl hI.1 hO.1;have C1:=Zb (Zcy ai ni ci I w X.drew fe hI (Ze dc (Zj X)) sI);have C2:=Zb (λW (hb:ZD w W)=>Ea ao no co O w W ff hO hb sO);obtain⟨-,x1,x2,xl⟩:=kc3 db;clear dc db av hI hO sI sO hk hl ee;go_enter func95,ntmps95;go_upto_region 1 with fail;rw[<-hX];clear hX;go_cut [9,12] from 7 to 14 (λs9 fl wx=>Hid (Ztz w h I O ni no s9 fl wx));{(go_region_with (first | (go_at_call 138;refine C1.mono ?_;rintro e w3 ⟨v1,K1,rfl,hA1,bi,bz⟩;have h30:=ZE bz dx;have d1:=Zd h30 1 _ rfl;have d2:=Zd h30 2 _ rfl;have gx:=aA h30;have dm:=Zb hA1;have dv:Hid (w3.ownsRow (w.heap.size+2) 133 3 v1 ni K1.flatten):=Wa bi (Nat.le_of_eq dy.symm);have dq:=Zb (Ze (Ze eo (Zj _)) bz);have dr:=Zb (Ze (Zj X) bz);clear hA1 bi bz h30) | (go_at_call 139;refine (C2 _ dq).mono ?_;rintro e w4 ⟨v2,K2,rfl,hA2,bj,ca⟩;have dd:=Ze dr ca;have h40:=ZE dd dx;have h41:=ZE dd et;have e0:=Zd h40 0 _ rfl;have e1:=Zd h40 1 _ rfl;have e2:=Zd h40 2 _ rfl;have z1:=Zg h40 1;have z2:=Zg h40 2;have el:=aA h40;have dn:=Zb hA2;have cm:Hid (w4.ownsRow (w.heap.size+2) 61 2 v2 no K2.flatten):=Wa bj (by have:=dr.size;have:=Za dy;omega);have dw:=Zb ((Gr.of (S:=λ_=>False) ca).own dv (λ_ _ q=>q));have ds:=Zb (Ze dq ca);have dj:=Zb h40;have dl:=Zb h41;obtain⟨a2,c2,rfl,_,_⟩:=Yx cm;obtain⟨a1,c1,rfl,_,_⟩:=Yx dv;clear hA2 bj ca dd h40 h41)));all_goals(go_wp2_with fail;go_meet;first|exact Zcp (W:=w4) dm dn dw cm ds dl (((Gr.refl w4 (λq=>q=w.heap.size)).one w.heap.size 1 (.inl rfl) _).one w.heap.size 2 (.inl rfl) _) (set_cells (set_cells dj 1 _) 2 _)|exact Zcp (W:=w4) dm dn dw cm ds dl (((Gr.refl w4 (λq=>q=w.heap.size)).one w.heap.size 2 (.inl rfl) _).one w.heap.size 1 (.inl rfl) _) (set_cells (set_cells dj 2 _) 1 _))};have⟨K1,K2,hA1,hA2,bi,bj,h0,h1,hb⟩:=Za hcut;obtain⟨a1,c1,rfl,_,_⟩:=Yx bi;obtain⟨a2,c2,rfl,_,_⟩:=Yx bj;have⟨G,hG⟩:=ZF (wc.heap.size);have ed:w.heap.size+2<=G:=(by rw[<-hG];exact aA h1);have eu:Hid (Cl inR 133 (w.heap.size+2) G w wc (F a1 ni c1) ni K1 I 0):=Cl.start bi hA1 dz (Nat.le_of_eq hG);have ev:Hid (Cl outR 61 (w.heap.size+2) G w wc (F a2 no c2) no K2 O 0):=Cl.start bj hA2 ea (Nat.le_of_eq hG);have⟨H0,H1,HB⟩:=kh3 h0 h1 hb;have eq:Hid (G<=wc.heap.size):=Nat.le_of_eq hG.symm;obtain⟨-,ew,cp⟩:=kc2 h0;clear hcut hA1 hA2 bi bj h0 h1 hb x1 x2 xl hG;go_wp2;go_loopw [18] (λi wr=>∃ (k:Nat) (K:List (List Value)),k<=ni/\i = E J k/\Hid (Cl inR 133 (w.heap.size+2) G w wr (F a1 ni c1) ni K I k)/\Hid (Cl outR 61 (w.heap.size+2) G w wr (F a2 no c2) no K2 O 0)/\Hid (wr.heap[w.heap.size]? = dJ (dC [E J h,F a1 ni c1,F a2 no c2].toArray 35 (0,0)))/\Hid (wr.heap[w.heap.size+1]? = dJ (dC [E J 0,F aD 0 0,F aD 0 0].toArray 35 (0,0)))/\Hid (ZD w wr)/\Hid (G<=wr.heap.size)) (λi _=>ni - (intOf i).toNat);{exact⟨0,K1,aH _,rfl,eu,ev,H0,H1,HB,eq⟩};obtain⟨k,K,hk,rfl,ak,cf,ay,dp,ce,du⟩:=hrel;clear ew cp;by_cases fc:k<ni;{have ap:k<I.length:=(by rw[Za dz];exact fc);have al:k<K.length:=(by rw[(Za ak).len];exact ap);have⟨g,cap,gw,ez,fa,bh⟩:=ak.form (by omega);cases gw;have⟨a,m,c,eK,aq,bs⟩:=ak.old k ap al (aF _);have az:=er _ (aT ap);have⟨x,hx⟩:=ZF (I[k]);rw[hx] at eK aq az;have r0:=ak.cell k al 0 (by decide);have r1:=ak.cell k al 1 (by decide);have r2:=ak.cell k al 2 (by decide);rw[eK] at r0 r1 r2;have r0:dV wr g (k*3) (E J x.1):=r0;have r1:dV wr g (k*3+1) (E J x.2.1):=r1;have r2:dV wr g (k*3+2) (F a m c):=r2;have hm:m<=8796093022208:=(by rw[<-aq.1];exact az);have⟨X1,av,ah,br⟩:=ka00 wr [E J x.1,E J x.2.1,F a m c] 133;obtain⟨-,-,b2,bl⟩:=kc3 br;have t1:=Zf ah (Zd ay 1 _ rfl);have tl:=aE (aA ay) ah.size;have⟨cd,CO⟩:=kh2 ah (cloneOp_any a m c x.2.2 X1.drew hm (aq.later (Ze (Ze ce ah) (Zj _))) bs);have NX:Hid (∀ w5 a5 c5,ZD wr w5->Fresh X1.drew.heap.size w5 (λw2=>OpsAt w2 a5 m x.2.2/\SlOk a5 m c5) -> Hid (Cl inR 133 (w.heap.size+2) G w (w5.setCell ⟨g,k*3+2,aD⟩ (F a5 m c5)) (F (dJ ⟨g,0,aD⟩) ni c1) ni (K.set k [E J x.1,E J x.2.1,F a5 m c5]) I (k+1))/\Hid (Cl outR 61 (w.heap.size+2) G w (w5.setCell ⟨g,k*3+2,aD⟩ (F a5 m c5)) (F a2 no c2) no K2 O 0)/\Hid ((w5.setCell ⟨g,k*3+2,aD⟩ (F a5 m c5)).heap[w.heap.size]? = dJ (dC [E J h,F (dJ ⟨g,0,aD⟩) ni c1,F a2 no c2].toArray 35 (0,0)))/\Hid ((w5.setCell ⟨g,k*3+2,aD⟩ (F a5 m c5)).heap[w.heap.size+1]? = dJ (dC [E J 0,F aD 0 0,F aD 0 0].toArray 35 (0,0)))/\Hid (ZD w (w5.setCell ⟨g,k*3+2,aD⟩ (F a5 m c5)))/\Hid (G<=(w5.setCell ⟨g,k*3+2,aD⟩ (F a5 m c5)).heap.size)):=(by intro w5 a5 c5 ac an;have bq:=Za du;have aj:=(Gr.refl w5 (λq=>q=g)).one g (k*3+2) (.inl rfl) (F a5 m c5);have dh:=ac.size;refine⟨Zsv ak ap al hx eK ac an (aR bq ah.size),?_,?_,?_,?_,?_⟩;{exact (cf.keep ac).gr aj (λq e=>by omega) (λq hq e=>Wc ak.own cf.own (by decide) q (by rw[e];rfl) hq)};{exact aj.heap (ZE ac ay) (by omega)};{exact aj.heap (ZE ac dp) (by omega)};{exact aj.below (Ze ce ac) (by have:=aA ay;omega) (λq e=>by omega)};exact aR bq (aR dh aj.size));have FR:=Zb (λj=>ak.free j);have fb:(k:Int)<(ni:Int):=(by omega);clear aq bs az hx eK ah br;go_wp2_with fail;rw[<-av];clear av;go_region_with (go_at_call 140;refine CO.mono ?_;rintro e w5 ⟨a5,c5,rfl,an,ac⟩;have ag:=Ze (Ze cd (Zj _)) ac;have HN:=Zb (NX w5 a5 c5 ag an);have q1:=Zf ac (Zf (Zj _) t1);have q2:=Zf ag r2;have q3:w5.frozen? ⟨g,k*3+2,aD⟩=false:=(bR (a:=⟨g,k*3+2,aD⟩) (ag.block g bh)).trans (FR _);have q4:=aE bh ag.size;have q5:=aE (aA ay) ag.size;clear an ac ag);all_goals(go_wp2;go_roundw;{have⟨f1,f2,f3,f4,f5,f6⟩:=Za HN;exact⟨k+1,_,by omega,by go_num,f1,f2,f3,f4,f5,f6⟩};simp[intOf];omega)};have e:k=ni:=(by omega);subst e;obtain⟨-,-,ey,cp⟩:=kc3 ay;have DN:=ak;go_wp2;go_loopw [35] (λi w2=>∃ (j:Nat) (Ko:List (List Value)),j<=no/\i = E J j/\Hid (Cl inR 133 (w.heap.size+2) G w w2 (F a1 k c1) k K I k)/\Hid (Cl outR 61 (w.heap.size+2) G w w2 (F a2 no c2) no Ko O j)/\Hid (w2.heap[w.heap.size]? = dJ (dC [E J h,F a1 k c1,F a2 no c2].toArray 35 (0,0)))/\Hid (w2.heap[w.heap.size+1]? = dJ (dC [E J 0,F aD 0 0,F aD 0 0].toArray 35 (0,0)))/\Hid (ZD w w2)/\Hid (G<=w2.heap.size)) (λi _=>no - (intOf i).toNat);{exact⟨0,K2,aH _,rfl,DN,cf,ay,dp,ce,du⟩};obtain⟨j,Ko,hj,rfl,cg,am,be,dt,cj,ep⟩:=hrel;clear DN ey cp;by_cases fd:j<no;{have ap:j<O.length:=(by rw[Za ea];exact fd);have al:j<Ko.length:=(by rw[(Za am).len];exact ap);have⟨g,cap,gw,ez,fa,bh⟩:=am.form (by omega);cases gw;have⟨a,m,c,eK,aq,bs⟩:=am.old j ap al (aF _);have az:=es _ (aT ap);have⟨x,hx⟩:=ZF (O[j]);rw[hx] at eK aq az;have r0:=am.cell j al 0 (by decide);have r1:=am.cell j al 1 (by decide);rw[eK] at r0 r1;have r0:dV wr g (j*2) (E J x.1):=r0;have r1:dV wr g (j*2+1) (F a m c):=r1;have hm:m<=8796093022208:=(by rw[<-aq.1];exact az);have⟨X1,av,ah,br⟩:=ka00 wr [E J x.1,F a m c] 61;have⟨b0,b1,bl⟩:=kc2 br;have t2:=Zf ah (Zd be 2 _ rfl);have tl:=aE (aA be) ah.size;have⟨cd,CO⟩:=kh2 ah (S8 x.1 a m c x.2 X1.drew hm (aq.later (Ze (Ze cj ah) (Zj _))) bs);have NX:Hid (∀ w5 a5 c5,ZD wr w5->Fresh X1.drew.heap.size w5 (λw2=>OpsAt w2 a5 m x.2/\SlOk a5 m c5) -> Hid (Cl inR 133 (w.heap.size+2) G w ((w5.setCell ⟨g,j*2,aD⟩ (E J x.1)).setCell ⟨g,j*2+1,aD⟩ (F a5 m c5)) (F a1 k c1) k K I k)/\Hid (Cl outR 61 (w.heap.size+2) G w ((w5.setCell ⟨g,j*2,aD⟩ (E J x.1)).setCell ⟨g,j*2+1,aD⟩ (F a5 m c5)) (F (dJ ⟨g,0,aD⟩) no c2) no (Ko.set j [E J x.1,F a5 m c5]) O (j+1))/\Hid (((w5.setCell ⟨g,j*2,aD⟩ (E J x.1)).setCell ⟨g,j*2+1,aD⟩ (F a5 m c5)).heap[w.heap.size]? = dJ (dC [E J h,F a1 k c1,F (dJ ⟨g,0,aD⟩) no c2].toArray 35 (0,0)))/\Hid (((w5.setCell ⟨g,j*2,aD⟩ (E J x.1)).setCell ⟨g,j*2+1,aD⟩ (F a5 m c5)).heap[w.heap.size+1]? = dJ (dC [E J 0,F aD 0 0,F aD 0 0].toArray 35 (0,0)))/\Hid (ZD w ((w5.setCell ⟨g,j*2,aD⟩ (E J x.1)).setCell ⟨g,j*2+1,aD⟩ (F a5 m c5)))/\Hid (G<=((w5.setCell ⟨g,j*2,aD⟩ (E J x.1)).setCell ⟨g,j*2+1,aD⟩ (F a5 m c5)).heap.size)):=(by intro w5 a5 c5 ac an;have bq:=Za ep;have aj:=((Gr.refl w5 (λq=>q=g)).one g (j*2) (.inl rfl) (E J x.1)).one g (j*2+1) (.inl rfl) (F a5 m c5);have dh:=ac.size;refine⟨?_,Zod am ap al hx ac an (aR bq ah.size),?_,?_,?_,?_⟩;{exact (cg.keep ac).gr aj (λq e=>by omega) (λq hq e=>Wc am.own cg.own (by decide) q (by rw[e];rfl) hq)};{exact aj.heap (ZE ac be) (by omega)};{exact aj.heap (ZE ac dt) (by omega)};{exact aj.below (Ze cj ac) (by have:=aA be;omega) (λq e=>by omega)};exact aR bq (aR dh aj.size));have FR:=Zb (λj=>am.free j);have fb:(j:Int)<(no:Int):=(by omega);clear aq bs az hx eK ah br;go_wp2_with fail;rw[<-av];clear av;go_region_with (go_at_call 141;refine CO.mono ?_;rintro e w5 ⟨a5,c5,rfl,an,ac⟩;have ag:=Ze (Ze cd (Zj _)) ac;have HN:=Zb (NX w5 a5 c5 ag an);have q1:=Zf ac (Zf (Zj _) t2);have q2:=Zf ag r0;have gi:=Zf ag r1;have q3:w5.frozen? ⟨g,j*2,aD⟩=false:=(bR (a:=⟨g,j*2,aD⟩) (ag.block g bh)).trans (FR _);have gj:w5.frozen? ⟨g,j*2+1,aD⟩=false:=(bR (a:=⟨g,j*2+1,aD⟩) (ag.block g bh)).trans (FR _);have q4:=aE bh ag.size;have q5:=aE (aA be) ag.size;clear an ac ag);all_goals(go_wp2;go_roundw;{have⟨f1,f2,f3,f4,f5,f6⟩:=Za HN;exact⟨j+1,_,by omega,by go_num,f1,f2,f3,f4,f5,f6⟩};simp[intOf];omega)};have e:j=no:=(by omega);subst e;have⟨s0,s1,s2,sl⟩:=kc3 be;have⟨y0,y1,y2,z0,z1,z2,yl⟩:=kf3 dt;have R:Hid (Fresh (w.heap.size+2) wr (λw2=>txR.C w2 [E J h,F a1 k c1,F a2 j c2] (h,I,O))):=(by have⟨a',c',e1,h1⟩:=cg.rows ed;have⟨fw,gb,e2,h2⟩:=am.rows ed;cases e1;cases e2;exact λw2 g2=>⟨_,_,_,_,_,_,rfl,(h1 w2 g2).1,(h1 w2 g2).2,(h2 w2 g2).1,(h2 w2 g2).2⟩);go_wp2;(try simp only[aQ,Exit.then]);have hG:=((Gr.refl wr (λq=>q=w.heap.size+1)).one (w.heap.size+1) 0 (.inl rfl) (E J h)).one (w.heap.size+1) 1 (.inl rfl) (F a1 k c1) |>.one (w.heap.size+1) 2 (.inl rfl) (F a2 j c2);refine aG (v:=.agg #[E J h,F a1 k c1,F a2 j c2]) ?_ rfl ⟨a1,c1,a2,c2,rfl,(R.on (hG.mono λq _ e=>by omega)).less (by omega),?_⟩;{rw[Yu rfl];go_simp};exact hG.below cj (by omega) (λq e=>by omega)
def TxSmall(t:TxD):Prop:=t.2.1.length<=3518437208883/\t.2.2.length<=4398046511104/\(∀ x∈t.2.1,x.2.2.length<=8796093022208)/\∀ x∈t.2.2,x.2.length<=8796093022208
theorem Zrb{G B aa:Nat}{w0 wr w5:World}{g cap n k:Nat}{K:List (List Value)}{T:List TxD}{x u0 u1 u2}(h:Cl txR 35 B G w0 wr (F (dJ ⟨g,0,aD⟩) n cap) n K T k)(hk:k<T.length)(af:k<K.length)(hx:T[k]=x)(hb:ZD wr w5)(hf:Fresh aa w5 (λw2=>txR.C w2 [u0,u1,u2] x))(hG:G<=aa) : Cl txR 35 B G w0 (((w5.setCell ⟨g,k*3,aD⟩ u0).setCell ⟨g,k*3+1,aD⟩ u1).setCell ⟨g,k*3+2,aD⟩ u2) (F (dJ ⟨g,0,aD⟩) n cap) n (K.set k [u0,u1,u2]) T (k+1):=by have h5:=h.keep hb;refine h5.step hk ?_ ((((Gr.refl w5 (λq=>q=g)).one g (k*3) (.inl rfl) _).one g (k*3+1) (.inl rfl) _).one g (k*3+2) (.inl rfl) _) ?_;{rw[hx];exact hf.less hG};have h1:=(((h5.own.stored (k*3) u0).1.stored (k*3+1) u1).1.stored (k*3+2) u2).1;rw[put3 h5.wid k af] at h1;exact h1
theorem clTxs_is(ah m c T)(w:World)(hT:TxsAt w ah m T)(sT:SlOk ah m c)(hm:m<=2513169434916)(hs:∀ t∈T,TxSmall t) : Calls aB 111 #[F ah m c] w λe w'=>∃ a' c',e = dE (F a' m c')/\Fresh w.heap.size w' (λw2=>TxsAt w2 a' m T/\SlOk a' m c')/\ZD w w':=by have⟨bx,ay,C1⟩:=kh3 hs hT.1 (cloneTx_any ah m c T w w hm hT ⟨rfl,rfl,rfl,aF _,λ_ _=>rfl⟩ sT);go_enter func111,ntmps111;go_wp2_with fail;refine C1.mono ?_;rintro e w3 ⟨v,K1,rfl,hA,ho,bf⟩;obtain⟨a1,c1,rfl,_,_⟩:=Yx ho;have⟨G,hG⟩:=ZF (w3.heap.size);have cj:w.heap.size<=G:=(by rw[<-hG];exact bf.size);have ca:Hid (Cl txR 35 w.heap.size G w w3 (F a1 m c1) m K1 T 0):=Cl.start ho hA ay (Nat.le_of_eq hG);have HB:=Zb bf;have bu:Hid (G<=w3.heap.size):=Nat.le_of_eq hG.symm;go_wp2;go_loopw [9] (λi wr=>∃ (k:Nat) (K:List (List Value)),k<=m/\i = E J k/\Hid (Cl txR 35 w.heap.size G w wr (F a1 m c1) m K T k)/\Hid (ZD w wr)/\Hid (G<=wr.heap.size)) (λi _=>m - (intOf i).toNat);{exact⟨0,K1,aH _,rfl,ca,HB,bu⟩};obtain⟨k,K,hk,rfl,aa,ag,bv⟩:=hrel;by_cases cn:k<m;{have ak:k<T.length:=(by rw[Za ay];exact cn);have ae:k<K.length:=(by rw[(Za aa).len];exact ak);have⟨g,cap,ev,de,df,aj⟩:=aa.form (by omega);cases ev;have⟨ai,ni,ci,ao,no,co,eK,hI,sI,hO,sO⟩:=aa.old k ak ae (aF _);have af:=bx _ (aT ak);have⟨x,hx⟩:=ZF (T[k]);rw[hx] at eK hI hO af;have r0:=aa.cell k ae 0 (by decide);have r1:=aa.cell k ae 1 (by decide);have r2:=aa.cell k ae 2 (by decide);rw[eK] at r0 r1 r2;have r0:dV wr g (k*3) (E J x.1):=r0;have r1:dV wr g (k*3+1) (F ai ni ci):=r1;have r2:dV wr g (k*3+2) (F ao no co):=r2;have⟨X1,cl,aw,cm⟩:=ka00 wr [E J x.1,F ai ni ci,F ao no co] 35;have⟨b0,b1,b2,bl⟩:=kc3 cm;have bs:=Zb aw;have bg:=Ze ag aw;have CO:=Zb (clTx_is x.1 ai ao ni ci no co x.2.1 x.2.2 X1 (hI.later bg) (hO.later bg) sI sO (by rw[<-hI.1];exact af.1) (by rw[<-hO.1];exact af.2.1) af.2.2.1 af.2.2.2);have NX:Hid (∀ w5 u0 u1 u2,ZD wr w5->Fresh X1.heap.size w5 (λw2=>txR.C w2 [u0,u1,u2] x) -> Hid (Cl txR 35 w.heap.size G w (((w5.setCell ⟨g,k*3,aD⟩ u0).setCell ⟨g,k*3+1,aD⟩ u1).setCell ⟨g,k*3+2,aD⟩ u2) (F (dJ ⟨g,0,aD⟩) m c1) m (K.set k [u0,u1,u2]) T (k+1))/\Hid (ZD w (((w5.setCell ⟨g,k*3,aD⟩ u0).setCell ⟨g,k*3+1,aD⟩ u1).setCell ⟨g,k*3+2,aD⟩ u2))/\Hid (G<=(((w5.setCell ⟨g,k*3,aD⟩ u0).setCell ⟨g,k*3+1,aD⟩ u1).setCell ⟨g,k*3+2,aD⟩ u2).heap.size)):=(by intro w5 u0 u1 u2 ad ax;have be:=Za bv;have bh:=(((Gr.refl w5 (λq=>q=g)).one g (k*3) (.inl rfl) u0).one g (k*3+1) (.inl rfl) u1).one g (k*3+2) (.inl rfl) u2;have ct:=ad.size;refine⟨Zrb aa ak ae hx ad ax (aR be aw.size),?_,?_⟩;{exact bh.below (Ze ag ad) (by have:=ag.size;omega) (λq e=>by omega)};exact aR be (aR ct bh.size));have FR:=Zb (λj=>aa.free j);have dh:(k:Int)<(m:Int):=(by omega);go_wp2_with fail;rw[<-cl];(try go_wp2_with fail);refine CO.mono ?_;rintro e w5 ⟨a5,c5,a6,c6,rfl,ax,ad⟩;have ab:=Ze bs ad;have HN:=Zb (NX w5 _ _ _ ab ax);have s0:=Zf ab r0;have s1:=Zf ab r1;have s2:=Zf ab r2;have q3:w5.frozen? ⟨g,k*3,aD⟩=false:=(bR (a:=⟨g,k*3,aD⟩) (ab.block g aj)).trans (FR _);have dj:w5.frozen? ⟨g,k*3+1,aD⟩=false:=(bR (a:=⟨g,k*3+1,aD⟩) (ab.block g aj)).trans (FR _);have dl:w5.frozen? ⟨g,k*3+2,aD⟩=false:=(bR (a:=⟨g,k*3+2,aD⟩) (ab.block g aj)).trans (FR _);have q4:=aE aj ab.size;go_wp2;go_roundw;{have⟨f1,f5,f6⟩:=Za HN;exact⟨k+1,_,by omega,by go_num,f1,f5,f6⟩};simp[intOf];omega};have e:k=m:=(by omega);subst e;have R:Hid (Fresh w.heap.size wr (λw2=>TxsAt w2 a1 k T/\SlOk a1 k c1)):=(by have⟨a',c',e1,h1⟩:=aa.rows cj;cases e1;exact h1);go_wp2;go_ret;exact⟨a1,c1,rfl,Za R,Za ag⟩
theorem Pg(p h k0 o:Int)(ab m c T)(w:World)(hT:TxsAt w ab m T)(sT:SlOk ab m c)(hm:m<=2513169434916)(hs:∀ t∈T,TxSmall t) : Calls aB 143 #[.agg #[E J p,E J h,E J k0,E J o,F ab m c]] w λe w'=>∃ a' c',e = dE (.agg #[E J p,E J h,E J k0,E J o,F a' m c'])/\Fresh w.heap.size w' (λw2=>blkR.C w2 [E J p,E J h,E J k0,E J o,F a' m c'] (p,h,k0,o,T))/\ZD w w':=by have⟨X,hX⟩:=ZG ((w.alloc (dC #[E J p,E J h,E J k0,E J o,F ab m c] 41)).alloc (dC #[E J 0,E J 0,E J 0,E J 0,F aD 0 0] 41));have ak:ZD w X:=(by rw[hX];exact Ze (Zh _ _) (Zh _ _));have aj:X.heap[w.heap.size]? = dJ (dC [E J p,E J h,E J k0,E J o,F ab m c].toArray 41 (0,0)):=(by rw[hX,bJ _ _ _ (by simp)];exact Zu _ _ _ _ _ _ _);have av:X.heap.size=w.heap.size+2:=(by rw[hX];simp);have au:X.heap[w.heap.size+1]? = dJ (dC [E J 0,E J 0,E J 0,E J 0,F aD 0 0].toArray 41 (0,0)):=(by rw[hX];have:=Zu (w.alloc (dC #[E J p,E J h,E J k0,E J o,F ab m c] 41)) (E J 0) (E J 0) (E J 0) (E J 0) (F aD 0 0) 41;rw[show (w.alloc (dC #[E J p,E J h,E J k0,E J o,F ab m c] 41)).heap.size=w.heap.size+1 by simp] at this;exact this);have⟨an,aq,ar,af,C1⟩:=kh5 ak aj au av (clTxs_is ab m c T X (hT.later ak) sT hm hs);obtain⟨-,-,-,-,x4,xl⟩:=kc5 aj;go_enter func143,ntmps143;go_wp2_with fail;rw[<-hX];(try go_wp2_with fail);refine C1.mono ?_;rintro e w3 ⟨a1,c1,rfl,aw,ae⟩;have h30:=ZE ae aq;have h31:=ZE ae ar;obtain⟨s0,s1,s2,s3,d4,-,-,-,-,z9,dl⟩:=kf5 h30;have⟨y0,y1,y2,y3,y4,z0,z1,z2,z3,z4,yl⟩:=kf5 h31;have⟨am,HF⟩:=kh2 (Ze an ae) aw;go_wp2;have hG:=((((((Gr.refl w3 (λq=>q=w.heap.size\/q=w.heap.size+1)).one w.heap.size 4 (.inl (.inl rfl)) (F a1 m c1)).one (w.heap.size+1) 0 (.inl (.inr rfl)) (E J p)).one (w.heap.size+1) 1 (.inl (.inr rfl)) (E J h)).one (w.heap.size+1) 2 (.inl (.inr rfl)) (E J k0)).one (w.heap.size+1) 3 (.inl (.inr rfl)) (E J o)).one (w.heap.size+1) 4 (.inl (.inr rfl)) (F a1 m c1);refine aG (v:=.agg #[E J p,E J h,E J k0,E J o,F a1 m c1]) ?_ rfl ⟨a1,c1,rfl,?_,?_⟩;{rw[Yu rfl];go_simp};{refine ((Fresh.imp HF λw2 h=>⟨_,_,_,rfl,h.1,h.2⟩).on (hG.mono λq _ e=>by have:=Za af;omega)).less (by have:=Za af;omega)};exact hG.below am (by omega) (λq e=>by omega)
theorem Zqc{G B aa:Nat}{w0 wr w5:World}{g cap n k:Nat}{K:List (List Value)}{T:List Zk}{x:Zk}{u0 u1 u2 u3 u4}(h:Cl blkR 41 B G w0 wr (F (dJ ⟨g,0,aD⟩) n cap) n K T k)(hk:k<T.length)(af:k<K.length)(hx:T[k]=x)(hb:ZD wr w5)(hf:Fresh aa w5 (λw2=>blkR.C w2 [u0,u1,u2,u3,u4] x))(hG:G<=aa) : Cl blkR 41 B G w0 (((((w5.setCell ⟨g,k*5,aD⟩ u0).setCell ⟨g,k*5+1,aD⟩ u1).setCell ⟨g,k*5+2,aD⟩ u2).setCell ⟨g,k*5+3,aD⟩ u3).setCell ⟨g,k*5+4,aD⟩ u4) (F (dJ ⟨g,0,aD⟩) n cap) n (K.set k [u0,u1,u2,u3,u4]) T (k+1):=by have h5:=h.keep hb;refine h5.step hk ?_ ((((((Gr.refl w5 (λq=>q=g)).one g (k*5) (.inl rfl) _).one g (k*5+1) (.inl rfl) _).one g (k*5+2) (.inl rfl) _).one g (k*5+3) (.inl rfl) _).one g (k*5+4) (.inl rfl) _) ?_;{rw[hx];exact hf.less hG};have h1:=(((((h5.own.stored (k*5) u0).1.stored (k*5+1) u1).1.stored (k*5+2) u2).1.stored (k*5+3) u3).1.stored (k*5+4) u4).1;rw[put5 h5.wid k af] at h1;exact h1
def Zic(w:World)(N:List Int)(T:List Zk)(n:Nat)(v1 v2:Value)(wx:World):Prop:=
 ∃ K,AllC blkR w K T/\wx.ownsRow (w.heap.size+2) 3 1 v1 n (N.map (aV .i64))/\wx.ownsRow (w.heap.size+2) 41 5 v2 n K.flatten /\
  wx.heap[w.heap.size]? = dJ (dC [v1,v2].toArray 28 (0,0))/\wx.heap[w.heap.size+1]? = dJ (dC [F aD 0 0,F aD 0 0].toArray 28 (0,0))/\ZD w wx
theorem Dj{w W wx:World}{N:List Int}{T}{n:Nat}{v1 v2}{K:List (List Value)}(h1:AllC blkR w K T)(o1:W.ownsRow (w.heap.size+2) 3 1 v1 n (N.map (aV .i64)))(o2:W.ownsRow (w.heap.size+2) 41 5 v2 n K.flatten)(hb:ZD w W) (hz:W.heap[w.heap.size+1]? = dJ (dC [F aD 0 0,F aD 0 0].toArray 28 (0,0))) (hg:Gr W wx (λq=>q=w.heap.size)) (hx:wx.heap[w.heap.size]? = dJ (dC [v1,v2].toArray 28 (0,0))):Zic w N T n v1 v2 wx:=⟨K,h1,hg.own o1 (λk hk=>by have:=(o1.lt k hk).1;omega),hg.own o2 (λk hk=>by have:=(o2.lt k hk).1;omega),hx,hg.heap hz (by omega),hg.below hb (by have:=aA hz;omega) (λk hk=>by omega)⟩
def BlkSmall(b:Zk):Prop:=b.2.2.2.2.length<=2513169434916/\∀ t∈b.2.2.2.2,TxSmall t
def TreeOwn(B:Nat)(w:World)(v1 v2:Value)(n:Nat)(N:List Int)(T:List Zk):Prop:=
 ∃ K G,w.ownsRow B 3 1 v1 n (N.map (aV .i64))/\w.ownsRow B 41 5 v2 n K.flatten/\(∀ q,v1.ownBlock=dJ q->q<G)/\(∀ q,v2.ownBlock=dJ q->q<G)/\B<=G/\T.length=n/\Fresh G w (λw2=>AllC blkR w2 K T)
theorem TreeOwn.gr{B:Nat}{w w' v1 v2}{n:Nat}{N T}(h:TreeOwn B w v1 v2 n N T)(g:Gr w w' (λq=>q<B)):TreeOwn B w' v1 v2 n N T:=by have⟨K,G,h1,h2,h3,h4,h5,h6,h7⟩:=h;exact⟨K,G,g.own h1 (λq hq=>by have:=(h1.lt q hq).1;omega),g.own h2 (λq hq=>by have:=(h2.lt q hq).1;omega),h3,h4,h5,h6,h7.on (g.mono λq _ hq=>by omega)⟩
theorem TreeOwn.less{B B':Nat}{w v1 v2}{n:Nat}{N T}(h:TreeOwn B' w v1 v2 n N T)(hb:B<=B'):TreeOwn B w v1 v2 n N T:=by have⟨K,G,h1,h2,h3,h4,h5,h6,h7⟩:=h;exact⟨K,G,Wa h1 hb,Wa h2 hb,h3,h4,by omega,h6,h7⟩
theorem TreeOwn.read{B:Nat}{w v1 v2}{n:Nat}{N T}(h:TreeOwn B w v1 v2 n N T):∃ a1 c1 a2 c2,v1 = F a1 n c1/\v2 = F a2 n c2/\IntsAt w a1 n N/\SlOk a1 n c1/\BlksAt w a2 n T/\SlOk a2 n c2:=by have⟨K,G,h1,h2,h3,h4,h5,h6,h7⟩:=h;obtain⟨a1,c1,rfl,s1,i1⟩:=ints_of_own h1;obtain⟨a2,c2,rfl,r2,s2⟩:=rows_of_own blkR h2 h7.now h6;exact⟨a1,c1,a2,c2,rfl,rfl,i1,s1,r2,s2⟩
theorem clTree_is(a b n c d N T)(w:World)(hN:IntsAt w a n N)(hT:BlksAt w b n T)(sN:SlOk a n c)(sT:SlOk b n d)(hn:n<=4096)(hs:∀ t∈T,BlkSmall t) : Calls aB 110 #[.agg #[F a n c,F b n d]] w λe w'=>∃ v1 v2,e = dE (.agg #[v1,v2])/\TreeOwn (w.heap.size+2) w' v1 v2 n N T/\ZD w w':=by have⟨X,hX⟩:=ZG ((w.alloc (dC #[F a n c,F b n d] 28)).alloc (dC #[F aD 0 0,F aD 0 0] 28));have bx:ZD w X:=(by rw[hX];exact Ze (Zh _ _) (Zh _ _));have bs:X.heap[w.heap.size]? = dJ (dC [F a n c,F b n d].toArray 28 (0,0)):=(by rw[hX,bJ _ _ _ (by simp)];exact two_heap _ _ _ _);have cu:X.heap.size=w.heap.size+2:=(by rw[hX];simp);have an:X.heap[w.heap.size+1]? = dJ (dC [F aD 0 0,F aD 0 0].toArray 28 (0,0)):=(by rw[hX];have:=two_heap (w.alloc (dC #[F a n c,F b n d] 28)) (F aD 0 0) (F aD 0 0) 28;rw[show (w.alloc (dC #[F a n c,F b n d] 28)).heap.size=w.heap.size+1 by simp] at this;exact this);have⟨dg,cn,dp,cp,dn,eo,bq,C1⟩:=kh8 bx bs an cu hs hN.1 hT.1 (Rk a n c N X.drew (aR hn (by decide)) (hN.later (Ze bx (Zj X))) sN);have C2:=Zb (λW (hb:ZD w W)=>Gv b n d T w W (aR hn (by decide)) hT hb sT);have⟨x0,x1,xl⟩:=kc2 bs;clear bx bs an hN hT sN sT hs cu;go_enter func110,ntmps110;go_upto_region 1 with fail;rw[<-hX];clear hX;go_cut [7,10] from 5 to 12 (λs7 eg wx=>Hid (Zic w N T n s7 eg wx));{(go_region_with (first | (go_at_call 68;refine C1.mono ?_;rintro e w3 ⟨v1,rfl,ar,bv⟩;have h30:=ZE bv cn;have d0:=Zd h30 0 _ rfl;have d1:=Zd h30 1 _ rfl;have ga:=aA h30;have cl:Hid (w3.ownsRow (w.heap.size+2) 3 1 v1 n (N.map (aV .i64))):=Wa ar (Nat.le_of_eq cp.symm);have cf:=Zb (Ze (Ze dg (Zj _)) bv);have cg:=Zb (Ze (Zj X) bv);skip) | (go_at_call 131;refine (C2 _ cf).mono ?_;rintro e w4 ⟨v2,K2,rfl,hA2,az,bw⟩;have cw:=Ze cg bw;have h40:=ZE cw cn;have h41:=ZE cw dp;have e0:=Zd h40 0 _ rfl;have e1:=Zd h40 1 _ rfl;have z0:=Zg h40 0;have z1:=Zg h40 1;have el:=aA h40;have cd:=Zb hA2;have bo:Hid (w4.ownsRow (w.heap.size+2) 41 5 v2 n K2.flatten):=Wa az (by have:=cg.size;have:=Za cp;omega);have cm:=Zb ((Gr.of (S:=λ_=>False) bw).own cl (λ_ _ q=>q));have cj:=Zb (Ze cf bw);have cb:=Zb h40;have cc:=Zb h41;obtain⟨a2,c2,rfl,_,_⟩:=Yx bo;obtain⟨a1,c1,rfl,_,_⟩:=Yx cl;skip)));all_goals(go_wp2_with fail;go_meet;first|exact Dj (W:=w4) cd cm bo cj cc (((Gr.refl w4 (λq=>q=w.heap.size)).one w.heap.size 0 (.inl rfl) _).one w.heap.size 1 (.inl rfl) _) (set_cells (set_cells cb 0 _) 1 _)|exact Dj (W:=w4) cd cm bo cj cc (((Gr.refl w4 (λq=>q=w.heap.size)).one w.heap.size 1 (.inl rfl) _).one w.heap.size 0 (.inl rfl) _) (set_cells (set_cells cb 1 _) 0 _))};have⟨K1,hA1,ar,az,h0,h1,hb⟩:=Za hcut;obtain⟨a1,c1,rfl,_,_⟩:=Yx ar;obtain⟨a2,c2,rfl,_,_⟩:=Yx az;have⟨G,hG⟩:=ZF (wc.heap.size);have ea:w.heap.size+2<=G:=(by rw[<-hG];exact aA h1);have ds:Hid (wc.ownsRow (w.heap.size+2) 3 1 (F a1 n c1) n (N.map (aV .i64))):=ar;have di:Hid (∀ q,(cF a1 n c1).ownBlock=dJ q->q<G):=λq hq=>(by have:=(ar.lt q hq).2;omega);have dt:Hid (Cl blkR 41 (w.heap.size+2) G w wc (F a2 n c2) n K1 T 0):=Cl.start az hA1 bq (Nat.le_of_eq hG);have⟨H0,H1,HB⟩:=kh3 h0 h1 hb;have dj:Hid (G<=wc.heap.size):=Nat.le_of_eq hG.symm;obtain⟨-,eu,ew⟩:=kc2 h0;go_wp2;go_loopw [16] (λi wr=>∃ (k:Nat) (K:List (List Value)),k<=n/\i = E J k/\Hid (wr.ownsRow (w.heap.size+2) 3 1 (F a1 n c1) n (N.map (aV .i64)))/\Hid (Cl blkR 41 (w.heap.size+2) G w wr (F a2 n c2) n K T k)/\Hid (wr.heap[w.heap.size]? = dJ (dC [F a1 n c1,F a2 n c2].toArray 28 (0,0)))/\Hid (wr.heap[w.heap.size+1]? = dJ (dC [F aD 0 0,F aD 0 0].toArray 28 (0,0)))/\Hid (ZD w wr)/\Hid (G<=wr.heap.size)) (λi _=>n - (intOf i).toNat);{exact⟨0,K1,aH _,rfl,ds,dt,H0,H1,HB,dj⟩};obtain⟨k,K,hk,rfl,bj,aa,ah,ce,bi,dl⟩:=hrel;by_cases ed:k<n;{have ay:k<T.length:=(by rw[Za bq];exact ed);have ag:k<K.length:=(by rw[(Za aa).len];exact ay);have⟨g,cap,ev,fd,fe,al⟩:=aa.form (by omega);cases ev;have⟨ta,tn,tc,eK,hI,sI⟩:=aa.old k ay ag (aF _);have ca:=dn _ (aT ay);have⟨x,hx⟩:=ZF (T[k]);rw[hx] at eK hI ca;have⟨x0,x1,x2,x3,x4⟩:=x;simp only at eK hI;have r0:=aa.cell k ag 0 (by decide);have r1:=aa.cell k ag 1 (by decide);have r2:=aa.cell k ag 2 (by decide);have r3:=aa.cell k ag 3 (by decide);have r4:=aa.cell k ag 4 (by decide);rw[eK] at r0 r1 r2 r3 r4;have r0:dV wr g (k*5) (E J x0):=r0;have r1:dV wr g (k*5+1) (E J x1):=r1;have r2:dV wr g (k*5+2) (E J x2):=r2;have r3:dV wr g (k*5+3) (E J x3):=r3;have r4:dV wr g (k*5+4) (F ta tn tc):=r4;have⟨X1,an,ap,eb⟩:=ka00 wr [E J x0,E J x1,E J x2,E J x3,F ta tn tc] 41;have⟨b0,b1,b2,b3,b4,bl⟩:=kc5 eb;have t1:=Zf ap (Zd ah 1 _ rfl);have tl:=aE (aA ah) ap.size;have dh:=Zb ap;have ec:=Ze (Ze bi ap) (Zj _);have CO:=Zb (Pg x0 x1 x2 x3 ta tn tc x4 X1.drew (hI.later ec) sI (by rw[<-hI.1];exact ca.1) ca.2);have NX:Hid (∀ w5 u0 u1 u2 u3 u4,ZD wr w5->Fresh X1.drew.heap.size w5 (λw2=>blkR.C w2 [u0,u1,u2,u3,u4] (x0,x1,x2,x3,x4)) -> Hid ((((((w5.setCell ⟨g,k*5,aD⟩ u0).setCell ⟨g,k*5+1,aD⟩ u1).setCell ⟨g,k*5+2,aD⟩ u2).setCell ⟨g,k*5+3,aD⟩ u3).setCell ⟨g,k*5+4,aD⟩ u4).ownsRow (w.heap.size+2) 3 1 (F a1 n c1) n (N.map (aV .i64)))/\Hid (Cl blkR 41 (w.heap.size+2) G w (((((w5.setCell ⟨g,k*5,aD⟩ u0).setCell ⟨g,k*5+1,aD⟩ u1).setCell ⟨g,k*5+2,aD⟩ u2).setCell ⟨g,k*5+3,aD⟩ u3).setCell ⟨g,k*5+4,aD⟩ u4) (F (dJ ⟨g,0,aD⟩) n c2) n (K.set k [u0,u1,u2,u3,u4]) T (k+1))/\Hid ((((((w5.setCell ⟨g,k*5,aD⟩ u0).setCell ⟨g,k*5+1,aD⟩ u1).setCell ⟨g,k*5+2,aD⟩ u2).setCell ⟨g,k*5+3,aD⟩ u3).setCell ⟨g,k*5+4,aD⟩ u4).heap[w.heap.size]? = dJ (dC [F a1 n c1,F (dJ ⟨g,0,aD⟩) n c2].toArray 28 (0,0)))/\Hid ((((((w5.setCell ⟨g,k*5,aD⟩ u0).setCell ⟨g,k*5+1,aD⟩ u1).setCell ⟨g,k*5+2,aD⟩ u2).setCell ⟨g,k*5+3,aD⟩ u3).setCell ⟨g,k*5+4,aD⟩ u4).heap[w.heap.size+1]? = dJ (dC [F aD 0 0,F aD 0 0].toArray 28 (0,0)))/\Hid (ZD w (((((w5.setCell ⟨g,k*5,aD⟩ u0).setCell ⟨g,k*5+1,aD⟩ u1).setCell ⟨g,k*5+2,aD⟩ u2).setCell ⟨g,k*5+3,aD⟩ u3).setCell ⟨g,k*5+4,aD⟩ u4))/\Hid (G<=(((((w5.setCell ⟨g,k*5,aD⟩ u0).setCell ⟨g,k*5+1,aD⟩ u1).setCell ⟨g,k*5+2,aD⟩ u2).setCell ⟨g,k*5+3,aD⟩ u3).setCell ⟨g,k*5+4,aD⟩ u4).heap.size)):=(by intro w5 u0 u1 u2 u3 u4 ad ax;have ct:=Za dl;have aq:=(((((Gr.refl w5 (λq=>q=g)).one g (k*5) (.inl rfl) u0).one g (k*5+1) (.inl rfl) u1).one g (k*5+2) (.inl rfl) u2).one g (k*5+3) (.inl rfl) u3).one g (k*5+4) (.inl rfl) u4;have ee:=ad.size;refine⟨?_,Zqc aa ay ag hx ad ax (aR ct ap.size),?_,?_,?_,?_⟩;{exact aq.own ((Gr.of (S:=λ_=>False) ad).own bj (λ_ _ q=>q)) (λq hq e=>Wc aa.own bj (by decide) q (by rw[e];rfl) hq)};{exact aq.heap (ZE ad ah) (by omega)};{exact aq.heap (ZE ad ce) (by omega)};{exact aq.below (Ze bi ad) (by have:=aA ah;omega) (λq e=>by omega)};exact aR ct (aR ee aq.size));have FR:=Zb (λj=>aa.free j);have fg:(k:Int)<(n:Int):=(by omega);go_wp2_with fail;rw[<-an];clear an;go_region_with (go_at_call 143;refine CO.mono ?_;rintro e w5 ⟨a5,c5,rfl,ax,ad⟩;have ab:=Ze (Ze dh (Zj _)) ad;have HN:=Zb (NX w5 _ _ _ _ _ ab ax);have q1:=Zf ad (Zf (Zj _) t1);have s0:=Zf ab r0;have s1:=Zf ab r1;have s2:=Zf ab r2;have s3:=Zf ab r3;have s4:=Zf ab r4;have q3:w5.frozen? ⟨g,k*5,aD⟩=false:=(bR (a:=⟨g,k*5,aD⟩) (ab.block g al)).trans (FR _);have fj:w5.frozen? ⟨g,k*5+1,aD⟩=false:=(bR (a:=⟨g,k*5+1,aD⟩) (ab.block g al)).trans (FR _);have fk:w5.frozen? ⟨g,k*5+2,aD⟩=false:=(bR (a:=⟨g,k*5+2,aD⟩) (ab.block g al)).trans (FR _);have fl:w5.frozen? ⟨g,k*5+3,aD⟩=false:=(bR (a:=⟨g,k*5+3,aD⟩) (ab.block g al)).trans (FR _);have fm:w5.frozen? ⟨g,k*5+4,aD⟩=false:=(bR (a:=⟨g,k*5+4,aD⟩) (ab.block g al)).trans (FR _);have q4:=aE al ab.size;have q5:=aE (aA ah) ab.size;clear ax ad ab);all_goals(go_wp2;go_roundw;{have⟨f1,f2,f3,f4,f5,f6⟩:=Za HN;exact⟨k+1,_,by omega,by go_num,f1,f2,f3,f4,f5,f6⟩};simp[intOf];omega)};have e:k=n:=(by omega);subst e;have⟨s0,s1,sl⟩:=kc2 ah;have⟨y0,y1,z0,z1,yl⟩:=kf2 ce;have R:Hid (TreeOwn (w.heap.size+2) wr (F a1 k c1) (F a2 k c2) k N T):= ⟨K,G,Za bj,aa.own,Za di,aa.gt,ea,Za bq,aa.done⟩;go_wp2;have hG:=((Gr.refl wr (λq=>q=w.heap.size+1)).one (w.heap.size+1) 0 (.inl rfl) (F a1 k c1)).one (w.heap.size+1) 1 (.inl rfl) (F a2 k c2);refine aG (v:=.agg #[F a1 k c1,F a2 k c2]) ?_ rfl ⟨_,_,rfl,R.gr (hG.mono λq _ e=>by omega),?_⟩;{rw[Yu rfl];go_simp};exact hG.below bi (by omega) (λq e=>by omega)
