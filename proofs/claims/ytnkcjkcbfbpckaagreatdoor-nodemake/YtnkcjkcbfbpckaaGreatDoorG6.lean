import Derived.Test.YtnkcjkcbfbpckaaGreatDoorH
import Derived.Test.YtnkcjkcbfbpckaaGreatDoorG5
import Derived.RangeFuncBound
import Derived.RangeFuncNested
open Option renaming none->aD,some->dJ
open Go.Proofs.Tryz
open Classical renaming not_not->cK
open Decidable renaming not_not->bE
open Go renaming maxLen->aS,info_parts->cB,lt_of_block->aA,bodyPost_ret->aG,heap_alloc_new->aM,wp_loop_rounds->bC,rounds_succ->aU
open Go.Act renaming put->cV
open Go.Ending renaming returned->dE
open Go.IntKind renaming wrap_i64->aP,i64->J
open Go.Obj renaming cells->dC
open Go.Region renaming wanted->cG
open Go.RowKit.Below renaming heap_alloc->bJ
open Go.Value renaming int->aV,slice->cF,int->E,slice->F,tuple->dF,pointer->dG,bool->dH
open Go.World renaming news_of_block->bU,cell?_of_block->bO,block_lt_of_cell?->aC
open List renaming drop_eq_getElem_cons->aL,drop_of_length_le->bB,length_cons->bX,take_succ_eq_append_getElem->aI,mem_append->bN,mem_singleton->cP,mem_cons->aY,length_append->bF,getElem_mem->aT,take_of_length_le->aK,length_eq_zero_iff->aJ,length_take->aW,getElem?_eq_some_iff->cD,getElem?_eq_getElem->bQ
open Nat renaming le_trans->aR,le_refl->aF,zero_le->aH,lt_of_lt_of_le->aE
set_option maxHeartbeats 12800000
set_option maxRecDepth 10000
namespace Go.Proofs.YtnkcjkcbfbpckaaGreatDoor.Tr
open Go.RowKit
structure Up(B g H:Nat)(N:List Int)(T:List Zk)(s:Int)(wr:World)(k:Nat)(y:Int):Prop where
 ex:∃ xs:List Value,wr.ownsRow B 3 1 (F (dJ ⟨g,0,aD⟩) H H) H xs/\(upD N T H s).map (aV .i64)=(upD N T (H - k) y).map (aV .i64)++xs.drop (H - k)
theorem Up.old{B g H:Nat}{N T}{s:Int}{wr:World}{k:Nat}{y:Int}(h:Up B g H N T s wr k y){r:Nat}(hr:r<H):(∃ v,wr.cell? ⟨g,r,aD⟩=dJ v)/\wr.frozen? ⟨g,r,aD⟩=false/\B<=g/\g<wr.heap.size:=by have⟨xs,ho,_⟩:=h.ex;have hl:xs.length=H:=(by simpa using ho.1);exact⟨⟨xs[r]'(by omega),by rw[ho.cellAt r (by omega)];simp[hl,hr]⟩,ho.frozenAt r,(ho.lt g rfl).1,(ho.lt g rfl).2⟩
theorem Up.step{B g H:Nat}{N T}{s:Int}{wr:World}{k:Nat}{y:Int}(h:Up B g H N T s wr k y)(hk:k<H){r:Nat}(hr:r=H - 1 - k):Up B g H N T s (wr.setCell ⟨g,r,aD⟩ (E J y)) (k+1) (fnd y N T).1:=by have⟨xs,ho,hx⟩:=h.ex;have hl:xs.length=H:=(by simpa using ho.1);refine⟨xs.set r (E J y),(ho.stored r _).1,?_⟩;rw[hx,show H - k=(H - (k+1))+1 by omega,upD,List.map_append,List.append_assoc];congr 1;have e:r=H - (k+1):=(by omega);rw[<-e];rw[aL (l:=xs.set r (E J y)) (i:=r) (by rw[List.length_set];omega),List.drop_set_of_lt (by omega)];simp
theorem Up.keep{B g H:Nat}{N T}{s:Int}{wr w':World}{k:Nat}{y:Int}(h:Up B g H N T s wr k y)(hb:ZD wr w'):Up B g H N T s w' k y:=by have⟨xs,ho,hx⟩:=h.ex;exact⟨xs,(Gr.of (S:=λ_=>False) hb).own ho (λ_ _ q=>q),hx⟩
theorem Zjp(a b)(n c d:Nat)(N T)(s:Int)(w:World)(hn:n<=aS)(hN:IntsAt w a n N)(hT:BlksAt w b n T)(hH:Xx T) : Calls Tryz.prog 109 #[.agg #[F a n c,F b n d],E J s] w λe w'=>∃ v,e = dE v/\w'.ownsRow w.heap.size 3 1 v (Y5 N T s).length ((Y5 N T s).map (aV .i64))/\ZD w w':=by have⟨i0,hi,cc,cd,ce⟩:=cB Tryz.infoInt;have⟨X,hX,af,am⟩:=ka00 w [F a n c,F b n d] 28;obtain⟨H,hh⟩:∃ H:Nat,(fnd s N T).2.1=(H:Int):=⟨_,(Int.toNat_of_nonneg (Ux hH s N).1).symm⟩;have cl:H<=1000:=(by have:=(Ux hH s N).2.1;omega);have HP:Hid (Y5 N T s=upD N T H s):=(by show _=_;unfold Y5;rw[hh];rfl);have⟨C,HB,bi,HN,HT⟩:=kh5 (Kv a b n c d N T s H X hn (hN.later af) (hT.later af) hh) af am hN hT;have CF:=Zb (λy W (hb:ZD w W)=>L0 a b n c d N T y _ W hn (hN.later hb) (hT.later hb) rfl);have bu:w.heap.size+1<=X.heap.size:=aA am;go_enter func109,ntmps109;go_wp2_with fail;rw[<-hX];refine dQ C λw1 ad=>?_;have cb:w.heap.size+1<=w1.heap.size:=aR bu ad.size;have⟨be,C1⟩:=kh2 (Ze HB ad) (ZE ad bi);go_wp2_with (at_make;refine wpList_make_full _ rfl _ _ 25 rfl (w.heap.size+1) 3 i0 (E J 0) 1 underlying25 hi cc cd .i64 .i64 _ _ H rfl rfl rfl rfl (by rw[ce];omega) (by unfold aS;omega) cb ?_;intro w3 ar bw);have ap:ZD w1 w3:=(Below.refl _ _).grown bw (aF _) (λk h=>by cases h);have HU:Hid (Up (w.heap.size+1) w1.heap.size H N T s w3 0 s):=⟨_,ar,by rw[Nat.sub_zero,bB (by rw[ar.1];omega),List.append_nil]⟩;have⟨C3,bd⟩:=kh2 (ZE ap C1) (Ze be ap);have⟨g,hg⟩:=ZF (w1.heap.size);rw[hg] at HU ⊢;go_loopw [1,14] (λnm i wr=>∃ (k:Nat) (y:Int),k<=H/\nm = E J y/\i = E J k/\Hid (Up (w.heap.size+1) g H N T s wr k y)/\Hid (ZD w wr)/\Hid (wr.heap[w.heap.size]? = dJ (dC [F a n c,F b n d].toArray 28 (0,0)))) (λ_ i _=>H - (intOf i).toNat);{exact⟨0,s,aH _,rfl,rfl,HU,bd,C3⟩};obtain⟨k,y,hk,rfl,rfl,ab,aj,bg⟩:=hrel;clear C3;by_cases bx:k<H;{have⟨r,hr⟩:=ZG (H - 1 - k);have ca:r<H:=(by omega);have⟨⟨v0,cy⟩,cn,cp,cq⟩:=ab.old ca;have cz:IntKind.i64.wrap ((H:Int) - 1)=(H:Int) - 1:=(by rw[aP];omega);have da:IntKind.i64.wrap ((H:Int) - 1 - (k:Int))=(r:Int):=(by rw[aP];omega);have cx:(r:Int)<(H:Int):=(by omega);have ST:=Zb (ab.step bx hr);have hG:Gr wr (wr.setCell ⟨g,r,aD⟩ (E J y)) (λq=>q=g):=(Gr.refl wr (λq=>q=g)).one g r (.inl rfl) _;have ah:=Zb (hG.below aj (by omega) (λq hq=>by omega));have ag:=hG.heap bg (by omega);have⟨bf,CC⟩:=kh2 ag (CF y _ ah);have⟨t0,t1,tl⟩:=kc2 ag;have cu:(k:Int)<(H:Int):=(by omega);clear hG hr ag;go_wp2_with fail;refine CC.mono ?_;rintro e w5 ⟨ta,tn,tc,rfl,_,_,ae⟩;unfold Pj;have hf:=(Hr (E J (fnd y N T).1) (E J (fnd y N T).2.1) (E J (fnd y N T).2.2.1) (E J (fnd y N T).2.2.2.1) (F ta tn tc) w5).1;have⟨R1,R2,R3⟩:=kh3 (ST.keep ae) (Ze ah ae) (ZE ae bf);go_wp2;go_roundw;{exact⟨k+1,_,by omega,rfl,by go_num,R1,R2,R3⟩};simp[intOf];omega};have e:k=H:=(by omega);subst e;have R:Hid (wr.ownsRow w.heap.size 3 1 (F (dJ ⟨g,0,aD⟩) k k) (Y5 N T s).length ((Y5 N T s).map (aV .i64))):=(by show World.ownsRow _ _ _ _ _ _ _;rw[Za HP];have⟨xs,ho,hx⟩:=ab.ex;rw[Nat.sub_self,List.drop_zero,upD,List.map_nil,List.nil_append] at hx;rw[hx,Jx];exact Wa ho (by omega));go_wp2;go_ret;exact⟨_,rfl,Za R,Za aj⟩
theorem Er{N T}(hH:Xx T):∀ (P:List Int) (s:Int),s<=Vw N T s P/\Vw N T s P<=s+1000*P.length
 | [],s=>by simp[Vw]
 | x :: P,s=>by
  have h1:=(Ux hH x N).2.2;have h2:=Er hH P (s+(fnd x N T).2.2.1) (N:=N);simp only[Vw,bX];omega
theorem Zie(a b pa)(n c d pn pc:Nat)(N T P)(x:Int)(w:World)(hn:n<=aS)(hN:IntsAt w a n N)(hT:BlksAt w b n T)(hP:IntsAt w pa pn P)(hp:pn<=1000)(hH:Xx T)(hx:Vw N T 0 P=x) : ZH 108 #[.agg #[F a n c,F b n d],F pa pn pc] w (E J x):=by have⟨X,hX,ab,bd⟩:=ka00 w [F a n c,F b n d] 28;have⟨HB,av,aq,HZ,HO⟩:=kh5 ab bd (hP.later ab) hP.1 hH;have CF:=Zb (λy W (hb:ZD X W)=>L0 a b n c d N T y _ W hn (hN.later (Ze ab hb)) (hT.later (Ze ab hb)) rfl);have HX:Hid (Vw N T 0 (P.drop 0)=x):=hx;go_enter func108,ntmps108;go_wp2_with fail;rw[<-hX];go_wp2;go_loopw [5,10] (λsv i wr=>∃ (k:Nat) (s:Int),k<=pn/\sv = E J s/\i = E J k/\Hid (Vw N T s (P.drop k)=x)/\Hid (0<=s/\s<=1000*k)/\Hid (ZD X wr)) (λ_ i _=>pn - (intOf i).toNat);{exact⟨0,0,aH _,rfl,rfl,HX,(⟨by omega,by omega⟩:(0:Int)<=0/\(0:Int)<=1000*(0:Nat)),(Below.refl _ _:ZD X X)⟩};obtain⟨k,s,hk,rfl,rfl,A,BD,aa⟩:=hrel;by_cases bi:k<pn;{have h1:k<P.length:=(by rw[Za HZ];exact bi);obtain⟨b1,bz,rfl,bh,bf⟩:=aq.2 (by omega);have f1:=Zf aa (bf k h1);have AT:=Zb (Zra N T s P k h1);have⟨y,hy⟩:=ZF (P[k]);rw[hy] at f1 AT;have ll:=aE bh aa.size;have bg:=ZE aa av;have⟨t0,t1,tl⟩:=kc2 bg;have CC:=Zb (CF y _ aa);have hq:=(Ux HO y N).2.2;have br:=Za BD;have⟨v,hv⟩:=ZF ((fnd y N T).2.2.1);rw[hv] at hq AT;have HV:=Zb hv;have bx:IntKind.i64.wrap (s+v)=s+v:=(by rw[aP];omega);have R:Hid (Vw N T (s+v) (P.drop (k+1))=x):=(by show _=_;rw[<-Za A,Za AT]);have aj:Hid (0<=s+v/\s+v<=1000*((k+1:Nat):Int)):=(by show _/\_;omega);have bv:(k:Int)<(pn:Int):=(by omega);go_wp2_with fail;refine CC.mono ?_;rintro e w5 ⟨ta,tn,tc,rfl,_,_,be⟩;unfold Pj;rw[Za HV];have hf:=(Hr (E J (fnd y N T).1) (E J (fnd y N T).2.1) (E J v) (E J (fnd y N T).2.2.2.1) (F ta tn tc) w5).2.2;have R2:=Zb (Ze aa be);go_wp2;go_roundw;{exact⟨k+1,s+v,by omega,rfl,by go_num,R,aj,R2⟩};simp[intOf];omega};have R:Hid (s=x):=(by show _=_;rw[<-Za A,Zlq N T s P k (by rw[Za HZ];omega)]);have an:=Zb (Ze HB aa);go_wp2;go_ret;exact⟨by rw[<-Za R];rfl,Za an⟩
theorem Zpg(a b)(n c d k:Nat)(w:World)(hk:k<=n)(ha:SlOk a n c)(hb:SlOk b n d) : ZH 154 #[.agg #[F a n c,F b n d],E J k] w (.agg #[F a k c,F b k d]):=by have hc:=aR hk ha.1;have hd:=aR hk hb.1;have hm:=ha.2.1;have ae:=hb.2.1;unfold aS at hm ae;have ag:(k:Int)<=(c:Int):=(by omega);have aj:(k:Int)<=(d:Int):=(by omega);go_enter func154,ntmps154;go_wp2_with fail;go_region;all_goals(go_wp2);(all_goals skip);all_goals(refine aG (v:=.agg #[F a k c,F b k d]) ?_ rfl ⟨rfl,?_⟩;{rw[Yu rfl];go_simp};exact Ze (Ze (Zh _ _) (Zh _ _)) (Zj _))
theorem Zhn(a b)(n c d:Nat)(N T)(s:Int)(p h k m:Int)(ta tn tc L)(x:Int)(w:World)(hn:n<=aS)(hN:IntsAt w a n N)(hT:BlksAt w b n T)(hL:TxsAt w ta tn L)(hH:Xx T)(hx:Yc N T s (p,h,k,m,L)=x) : ZH 151 #[.agg #[F a n c,F b n d],E J s,.agg #[E J p,E J h,E J k,E J m,F ta tn tc]] w (E J x):=by have⟨X,hX⟩:=ZG ((w.alloc (dC #[F a n c,F b n d] 28)).alloc (dC #[E J p,E J h,E J k,E J m,F ta tn tc] 41));have aj:ZD w X:=(by rw[hX];exact Ze (Zh _ _) (Zh _ _));have cg:X.heap[w.heap.size]? = dJ (dC [F a n c,F b n d].toArray 28 (0,0)):=(by rw[hX,bJ _ _ _ (by simp)];exact two_heap _ _ _ _);have cj:X.heap[w.heap.size+1]? = dJ (dC [E J p,E J h,E J k,E J m,F ta tn tc].toArray 41 (0,0)):=(by rw[hX];have:=Zu (w.alloc (dC #[F a n c,F b n d] 28)) (E J p) (E J h) (E J k) (E J m) (F ta tn tc) 41;rw[show (w.alloc (dC #[F a n c,F b n d] 28)).heap.size=w.heap.size+1 by simp] at this;exact this);obtain⟨o1,bx⟩:∃ o,(decide (1<=s) && decide (s<=120))=o:=⟨_,rfl⟩;obtain⟨x2,cb⟩:∃ x,Yr (p,h,k,m,L)=x:=⟨_,rfl⟩;obtain⟨o3,bz⟩:∃ o,decide (s∈N)=o:=⟨_,rfl⟩;obtain⟨o4,ca⟩:∃ o,decide (p∈N)=o:=⟨_,rfl⟩;have⟨z,hz⟩:=ZF ((fnd p N T).2.1);have cm:=(Ux hH p N).1;have cn:=(Ux hH p N).2.1;rw[hz] at cm cn;have cw:IntKind.i64.wrap (z+1)=z+1:=(by rw[aP];omega);unfold Yc at hx;simp only at hx;rw[bx,cb,bz,ca,hz] at hx;have⟨HB,bo,bq⟩:=kh3 aj cg cj;have C1:=Zb (λW=>Y6 s 1 120 o1 W bx.symm);have C2:=Zb (Qc p h k m ta tn tc L x2 X (hL.later aj) cb);have C3:=Zb (λW (hb:ZD X W)=>Zfj a b n c n d N s o3 W hn (hN.later (Ze aj hb)) bz);have C4:=Zb (λW (hb:ZD X W)=>Zfj a b n c n d N p o4 W hn (hN.later (Ze aj hb)) ca);have C5:=Zb (λW (hb:ZD X W)=>Kv a b n c d N T p z W hn (hN.later (Ze aj hb)) (hT.later (Ze aj hb)) hz);have bu:=Zb hx;clear hx;go_enter func151,ntmps151;go_wp2_with fail;rw[<-hX];clear hX;refine dR (C1 _) ?_;cases o1 with|false=>have R:Hid (x=3):=(by show _=_;rw[<-Za bu,if_pos rfl]);go_wp2;go_ret;exact⟨by rw[Za R];rfl,Za HB⟩|true=>(have⟨c0,c1,c2,c3,c4,db⟩:=kc5 bq;have br:Hid ((if x2≠0 then x2 else if o3=true then 6 else if p≠0/\o4=false then 5 else if h≠z+1 then 4 else 0)=x):=(by have q:=Za bu;rw[if_neg (by decide)] at q;exact q);go_wp2_with fail;refine dQ C2 λw2 bw=>?_;have av:=Zb bw;have h20:=ZE bw bo;by_cases q2:x2=0;{subst q2;have bs:Hid ((if o3=true then 6 else if p≠0/\o4=false then 5 else if h≠z+1 then 4 else 0)=x):=(by have q:=Za br;rw[if_neg (by decide)] at q;exact q);have⟨c0,c1,db⟩:=kc2 h20;go_wp2_with fail;refine dQ (C3 _ av) λw3 cl=>?_;have ac:=Zb (Ze av cl);have h30:=ZE ac bo;have h31:=ZE ac bq;have HF:=Zb (Ze HB ac);cases o3 with|true=>have R:Hid (x=6):=(by show _=_;rw[<-Za bs,if_pos rfl]);go_wp2;go_ret;exact⟨by rw[Za R];rfl,Za HF⟩|false=>(have ay:Hid ((if p≠0/\o4=false then 5 else if h≠z+1 then 4 else 0)=x):=(by have q:=Za bs;rw[if_neg (by decide)] at q;exact q);have⟨c0,c1,db⟩:=kc2 h30;have⟨d0,d1,dl⟩:=kc2 h31;by_cases q4:p=0;{subst q4;have al:Hid ((if h≠z+1 then (4:Int) else 0)=x):=(by have q:=Za ay;rw[if_neg (by simp)] at q;exact q);by_cases q5:h=z+1;{have R:Hid (x=0):=(by show _=_;rw[<-Za al,if_neg (by simp[q5])]);have g5:(h != z+1)=false:=(by simp[q5]);go_wp2_with fail;go_region_with (go_at_call 155;refine dQ (C5 _ (Ze ac (Zj _))) λw5 aa=>?_;have e0:=Zf aa (Zf (Zj _) d0);have e1:=Zf aa (Zf (Zj _) d1);have el:=aE dl aa.size;have ad:=Zb (Ze HF (Ze (Zj _) aa)));all_goals(go_wp2;go_ret;exact⟨by rw[Za R];rfl,Za ad⟩)};have R:Hid (x=4):=(by show _=_;rw[<-Za al,if_pos q5]);have g5:(h != z+1)=true:=(by simp[q5]);go_wp2_with fail;go_region_with (go_at_call 155;refine dQ (C5 _ (Ze ac (Zj _))) λw5 aa=>?_;have e0:=Zf aa (Zf (Zj _) d0);have e1:=Zf aa (Zf (Zj _) d1);have el:=aE dl aa.size;have ad:=Zb (Ze HF (Ze (Zj _) aa)));all_goals(go_wp2;go_ret;exact⟨by rw[Za R];rfl,Za ad⟩)};have g4:=dS q4;go_wp2_with fail;refine dQ (C4 _ ac) λw4 ae=>?_;have aw:=Zb (Ze ac ae);have ax:=Zb (Ze HB aw);have k0:=Zf ae c0;have k1:=Zf ae c1;have kl:=aE db ae.size;have d0:=Zf ae d0;have d1:=Zf ae d1;have dl:=aE dl ae.size;cases o4 with|false=>have R:Hid (x=5):=(by show _=_;rw[<-Za ay,if_pos ⟨q4,rfl⟩]);go_wp2;go_ret;exact⟨by rw[Za R];rfl,Za ax⟩|true=>have al:Hid ((if h≠z+1 then (4:Int) else 0)=x):=(by have q:=Za ay;rw[if_neg (by simp)] at q;exact q);by_cases q5:h=z+1;{have R:Hid (x=0):=(by show _=_;rw[<-Za al,if_neg (by simp[q5])]);have g5:(h != z+1)=false:=(by simp[q5]);go_wp2_with fail;go_region_with (go_at_call 155;refine dQ (C5 _ (Ze aw (Zj _))) λw5 aa=>?_;have e0:=Zf aa (Zf (Zj _) d0);have e1:=Zf aa (Zf (Zj _) d1);have el:=aE dl aa.size;have ad:=Zb (Ze ax (Ze (Zj _) aa)));all_goals(go_wp2;go_ret;exact⟨by rw[Za R];rfl,Za ad⟩)};have R:Hid (x=4):=(by show _=_;rw[<-Za al,if_pos q5]);have g5:(h != z+1)=true:=(by simp[q5]);go_wp2_with fail;go_region_with (go_at_call 155;refine dQ (C5 _ (Ze aw (Zj _))) λw5 aa=>?_;have e0:=Zf aa (Zf (Zj _) d0);have e1:=Zf aa (Zf (Zj _) d1);have el:=aE dl aa.size;have ad:=Zb (Ze ax (Ze (Zj _) aa)));all_goals(go_wp2;go_ret;exact⟨by rw[Za R];rfl,Za ad⟩))};have R:Hid (x=x2):=(by show _=_;rw[<-Za br,if_pos q2]);have g2:=dS q2;have HF:=Zb (Ze HB av);go_wp2;go_ret;exact⟨by rw[Za R];rfl,Za HF⟩)
theorem R8{N T}{x:Int}{b:Zk}(h:Yc N T x b=0):Yr b=0:=by unfold Yc at h;split at h;{cases h};split at h;{next q=>exact absurd h q};next q=>exact cK.1 q
theorem N5{T:List Zk}{j:Nat}(hj:j<T.length)(h:Xx (T.take j))(hb:Yr T[j]=0):Xx (T.take (j+1)):=by rw[aI hj];intro b hm;rcases bN.1 hm with q|q;{exact h b q};rw[cP.1 q];exact Tx hb
theorem Ru(a b n c m d N T)(x:Int)(w:World)(hN:IntsAt w a n N)(hT:BlksAt w b m T)(sN:SlOk a n c)(sT:SlOk b m d)(hx:chkTr N T=x) : ZH 107 #[.agg #[F a n c,F b m d]] w (E J x):=by subst hx;have⟨X,hX,ar,bi⟩:=ka00 w [F a n c,F b m d] 28;have⟨HB,cp⟩:=kh2 ar bi;have⟨x0,x1,xl⟩:=kc2 bi;have⟨HN,HT,bf,bv⟩:=kh4 (hN.later ar) (hT.later ar) hN.1 hT.1;have hm:=sN.2.1;have cf:=sT.2.1;have ct:=sN.1;unfold aS at hm cf;by_cases e:n=m;{subst e;by_cases h24:24<n;{have R:Hid (chkTr N T=2):=(by show _=_;unfold chkTr;rw[hN.1,hT.1,if_neg (by simp),if_pos h24]);have g0:((n:Int) != (n:Int))=false:=(by simp);have g1:(24:Int)<(n:Int):=(by omega);go_enter func107,ntmps107;go_wp2_with fail;rw[<-hX];go_wp2;go_ret;exact⟨by rw[Za R];rfl,Za HB⟩};have R:Hid (chkTr N T=Yz (N.take 0) (T.take 0) (N.drop 0) (T.drop 0)):=(by show _=_;unfold chkTr;rw[hN.1,hT.1,if_neg (by simp),if_neg h24];rfl);have g0:((n:Int) != (n:Int))=false:=(by simp);have g1:¬(24:Int)<(n:Int):=(by omega);have⟨SN,ST⟩:=kh2 sN sT;go_enter func107,ntmps107;go_wp2_with fail;rw[<-hX];go_wp2;go_loopw [19] (λi wr=>∃ j:Nat,j<=n/\i = E J j/\Hid (chkTr N T=Yz (N.take j) (T.take j) (N.drop j) (T.drop j))/\Hid (Xx (T.take j))/\Hid (ZD X wr)) (λi _=>n - (intOf i).toNat);{exact⟨0,aH _,rfl,R,(λb hb=>(by simp at hb):Xx (T.take 0)),(Below.refl _ _:ZD X X)⟩};obtain⟨j,hj,rfl,A,HH,ad⟩:=hrel;by_cases bo:j<n;{have h1:j<N.length:=(by rw[Za bf];exact bo);have h2:j<T.length:=(by rw[Za bv];exact bo);obtain⟨b1,af,rfl,cc,bz⟩:=HN.2 (by omega);obtain⟨b2,ac,rfl,cd,ca⟩:=HT.2 (by omega);have f1:=Zf ad (bz j h1);have bj:=BlkAt.kept _ _ _ _ _ ad (ca j h2);have⟨AT,HM⟩:=kh2 (Zdd N T j h1 h2) (N5 h2 HH);have⟨s,hs⟩:=ZF (N[j]);have⟨t,ht⟩:=ZF (T[j]);rw[hs] at f1 AT;rw[ht] at bj AT HM;have⟨p,h,k,o,L⟩:=t;have⟨am,an,g2,g3,ta,tn,tc,g4,hL,_⟩:=bj;simp only at am an g2 g3 hL;have⟨y,hy⟩:=ZF (Yc (N.take j) (T.take j) s (p,h,k,o,L));have w0:=Zf ad x0;have w1:=Zf ad x1;have wl:=aE xl ad.size;have cu:=aE cc ad.size;have cw:=aE cd ad.size;have C1:=Zb (λW=>Zpg (dJ ⟨b1,af,aD⟩) (dJ ⟨b2,ac,aD⟩) n c d j W hj SN ST);have cb:j<=aS:=(by unfold aS;omega);have C2:=Zb (λW (hb:ZD wr W)=>Zhn (dJ ⟨b1,af,aD⟩) (dJ ⟨b2,ac,aD⟩) j c d (N.take j) (T.take j) s p h k o ta tn tc L y W cb ((HN.later (Ze ad hb)).take j hj) (RowsAt.take (HT.later (Ze ad hb)) j hj) (hL.later hb) HH hy);rw[hy] at AT;have HY:Hid (y=0->Yr (p,h,k,o,L)=0):=λq=>R8 (hy.trans q);by_cases q:y=0;{subst q;have R:Hid (chkTr N T=Yz (N.take (j+1)) (T.take (j+1)) (N.drop (j+1)) (T.drop (j+1))):=(by show _=_;rw[Za A,Za AT,if_neg (by simp)]);have bs:=Zb (HM (HY rfl));go_wp2_with fail;(go_region_held3 (λW'=>ZD wr W'/\dV W' w.heap.size 0 (F (dJ ⟨b1,af,aD⟩) n c)/\dV W' w.heap.size 1 (F (dJ ⟨b2,ac,aD⟩) n d)/\dV W' b1 (af+j) (E J s)/\dV W' b2 (ac+j*5) (E J p)/\dV W' b2 (ac+j*5+1) (E J h)/\dV W' b2 (ac+j*5+2) (E J k)/\dV W' b2 (ac+j*5+3) (E J o)/\dV W' b2 (ac+j*5+4) (F ta tn tc)) (first | exact⟨Zj _,w0,w1,f1,am,an,g2,g3,g4⟩ | (go_split_ands;refine⟨Ze (by assumption) aa,?_⟩;(repeat' apply And.intro)<;>exact Zf aa (by assumption))) (first|(go_at_call 154;refine dQ (C1 _) λw' aa=>?_)|(go_at_call 151;go_split_ands;refine dQ (C2 _ (by assumption)) λw' aa=>?_)));rename_i hq;have ak:=Zb (Ze ad hq.1);go_wp2;go_roundw;{exact⟨j+1,by omega,by go_num,R,bs,ak⟩};simp[intOf];omega};have R:Hid (chkTr N T=y):=(by show _=_;rw[Za A,Za AT,if_pos q]);have gy:=dS q;go_wp2_with fail;(go_region_held3 (λW'=>ZD wr W'/\dV W' w.heap.size 0 (F (dJ ⟨b1,af,aD⟩) n c)/\dV W' w.heap.size 1 (F (dJ ⟨b2,ac,aD⟩) n d)/\dV W' b1 (af+j) (E J s)/\dV W' b2 (ac+j*5) (E J p)/\dV W' b2 (ac+j*5+1) (E J h)/\dV W' b2 (ac+j*5+2) (E J k)/\dV W' b2 (ac+j*5+3) (E J o)/\dV W' b2 (ac+j*5+4) (F ta tn tc)) (first | exact⟨Zj _,w0,w1,f1,am,an,g2,g3,g4⟩ | (go_split_ands;refine⟨Ze (by assumption) aa,?_⟩;(repeat' apply And.intro)<;>exact Zf aa (by assumption))) (first|(go_at_call 154;refine dQ (C1 _) λw' aa=>?_)|(go_at_call 151;go_split_ands;refine dQ (C2 _ (by assumption)) λw' aa=>?_)));rename_i hq;have ak:=Zb (Ze HB (Ze ad hq.1));go_wp2;go_ret;exact⟨by rw[Za R];rfl,Za ak⟩};have R:Hid (chkTr N T=0):=(by show _=_;rw[Za A,Bn N T j (by rw[Za bf];omega)]);have br:=Zb (Ze HB ad);go_wp2;go_ret;exact⟨by rw[Za R];rfl,Za br⟩};have R:Hid (chkTr N T=4):=(by show _=_;unfold chkTr;rw[hN.1,hT.1,if_pos e]);have g0:((n:Int) != (m:Int))=true:=(by simp;omega);go_enter func107,ntmps107;go_wp2_with fail;rw[<-hX];go_wp2;go_ret;exact⟨by rw[Za R];rfl,Za HB⟩
theorem Le:∀ (M:List Int) (U:List Zk) (N:List Int) (T:List Zk),M.length=U.length->Yz N T M U=0->Xx U
 | [],[],_,_,_,_=>λb hb=>by cases hb
 | [],_ :: _,_,_,h,_=>by cases h
 | _ :: _,[],_,_,h,_=>by cases h
 | x :: M,b :: U,N,T,h,hc=>by
  rw[Yz] at hc;split at hc
  ·next q=>exact absurd hc q
  next q=>
  have h1:=Tx (R8 (cK.1 q));have h2:=Le M U _ _ (by simpa using h) hc;intro y hy
  rcases aY.1 hy with rfl|hy
  ·exact h1
  exact h2 y hy
theorem Uv{N:List Int}{T:List Zk}(h:chkTr N T=0):N.length=T.length/\N.length<=24/\Xx T/\Yz [] [] N T=0:=by
 unfold chkTr at h;split at h
 ·cases h
 next q=>
 split at h
 ·cases h
 next q2=>exact⟨cK.1 q,by omega,Le N T [] [] (cK.1 q) h,h⟩
theorem pth_len{N T}(h:Xx T)(s:Int):(Y5 N T s).length<=1000:=by unfold Y5;rw[Jx];have:=(Ux h s N);omega
theorem Zjq(a b)(n c d:Nat)(N T)(s:Int)(P:List Int)(pn:Nat)(w:World)(hn:n<=aS)(hN:IntsAt w a n N)(hT:BlksAt w b n T)(hH:Xx T)(hP:Y5 N T s=P)(ac:P.length=pn) : Calls Tryz.prog 109 #[.agg #[F a n c,F b n d],E J s] w λe w'=>∃ v,e = dE v/\w'.ownsRow w.heap.size 3 1 v pn (P.map (aV .i64))/\ZD w w':=by subst hP ac;exact Zjp a b n c d N T s w hn hN hT hH
theorem pathE_ok{N T}{s:Int}(h:(Znv N T s).2=0):chkTr N T=0/\(s=0\/s∈N)/\(Znv N T s).1=Y5 N T s:=by unfold Znv at h ⊢;by_cases q:chkTr N T=0;{rw[if_neg (by simp[q])] at h ⊢;by_cases q1:s≠0/\decide (s∈N)=false;{rw[if_pos q1] at h;cases h};rw[if_neg q1];refine⟨q,?_,rfl⟩;by_cases e:s=0;{exact .inl e};right;by_cases e2:s∈N;{exact e2};exact absurd ⟨e,by simp[e2]⟩ q1};rw[if_pos q] at h;exact absurd h q
end Tr
open Go.RowKit
theorem Yo{P:Program}{ops}{o:Oper}{a:Act}{w}{K:Act->World->Prop}{Q:Exit->Act->World->Prop}{ab:Prop} (hw:cG o (yielded ops a.tmps)=true) (f:FuncId) (vs) (he:(execOp a.eval o).run P w = .ok (.enter f vs) w) {R:Ending->World->Prop} (hc:Calls P f vs w R) (h:∀ e w',R e w'->∃ v,e = dE v/\K (a.put o.dst v) w') : if cG o (yielded ops a.tmps)=true then Oper.wp P o a w K Q else ab:=by rw[if_pos hw];unfold Oper.wp;rw[he,Oper.upon_enter];refine hc.mono ?_;intro e w' hr;obtain⟨v,rfl,hk⟩:=h e w' hr;exact hk
theorem J0{P:Program}{ops}{o:Oper}{a:Act}{w}{K:Act->World->Prop}{Q:Exit->Act->World->Prop}{ab:Prop} (hg:o.guard=aD) (f:FuncId) (vs) (he:(execOp a.eval o).run P w = .ok (.enter f vs) w) {R:Ending->World->Prop} (hc:Calls P f vs w R) (h:∀ e w',R e w'->∃ v,e = dE v/\K (a.put o.dst v) w') : if cG o (yielded ops a.tmps)=true then Oper.wp P o a w K Q else ab:=Yo (by simp[cG,hg]) f vs he hc h
namespace Tr
open Go.RowKit
def addE(N:List Int)(T:List Zk)(x:Int)(b:Zk):List Int×List Zk×Int:=
 if chkTr N T≠0 then ([],[],chkTr N T) else if Yc N T x b≠0 then ([],[],Yc N T x b) else if N.length=24 then ([],[],12) else (N++[x],T++[b],0)
theorem Az:∀ (l pre:List InD),Yb pre l=0->∀ x∈l,x.2.2.length<=16
 | [],_,_,x,hx=>by cases hx
 | y :: r,pre,h,x,hx=>by
  rw[Yb] at h;split at h
  ·next q=>
   rcases aY.1 hx with rfl|hx
   ·unfold Wv at q;split at q
    ·cases q
    split at q
    ·next q1=>exact absurd q q1
    next q1=>exact Gw (cK.1 q1)
   exact Az r _ h x hx
  next q=>exact absurd h q
theorem Nb:∀ (l:List Z0),Z6 l=0->∀ x∈l,x.2.length<=16
 | [],_,x,hx=>by cases hx
 | y :: r,h,x,hx=>by
  rw[Z6] at h;split at h
  ·next q=>
   rcases aY.1 hx with rfl|hx
   ·unfold Y3 at q;split at q
    ·cases q
    exact Gw q
   exact Nb r h x hx
  next q=>exact absurd h q
theorem tx_small{t}(h:Zq t=0):TxSmall t:=by
 unfold Zq at h;split at h
 ·cases h
 next q0=>
 split at h
 ·cases h
 split at h
 ·cases h
 split at h
 ·next q=>exact absurd h q
 next q=>
 have h1:=Az _ _ (cK.1 q);unfold Zx at h;split at h
 ·next q2=>
  have h2:=Nb _ q2;exact⟨by omega,by omega,λx hx=>by have:=h1 x hx;omega,λx hx=>by have:=h2 x hx;omega⟩
 next q2=>exact absurd h q2
theorem Jt(h:Int):∀ (T:List TxD) (i:Nat),Yy h i T=0->∀ t∈T,Zq t=0
 | [],_,_,t,ht=>by cases ht
 | u :: r,i,q,t,ht=>by
  rw[Yy] at q;split at q
  ·next q1=>exact absurd q q1
  next q1=>
  split at q
  ·cases q
  rcases aY.1 ht with rfl|ht
  ·exact cK.1 q1
  exact Jt h r _ q t ht
theorem blk_small{b:Zk}(h:Yr b=0):BlkSmall b:=by
 unfold Yr at h;split at h
 ·cases h
 split at h
 ·cases h
 next q=>
 split at h
 ·cases h
 exact⟨by omega,λt ht=>tx_small (Jt _ _ _ h t ht)⟩
theorem Pi:∀ (M:List Int) (U:List Zk) (N:List Int) (T:List Zk),M.length=U.length->Yz N T M U=0->∀ b∈U,Yr b=0
 | [],[],_,_,_,_=>λb hb=>by cases hb
 | [],_ :: _,_,_,h,_=>by cases h
 | _ :: _,[],_,_,h,_=>by cases h
 | x :: M,b :: U,N,T,h,hc=>by
  rw[Yz] at hc;split at hc
  ·next q=>exact absurd hc q
  next q=>
  have h1:=R8 (cK.1 q);have h2:=Pi M U _ _ (by simpa using h) hc;intro y hy
  rcases aY.1 hy with rfl|hy
  ·exact h1
  exact h2 y hy
def AddR(w w':World)(N:List Int)(T:List Zk)(n:Nat)(x:Int)(e:Ending):Prop:=
 ∃ a1 c1 a2 c2,e = dE (dF #[.agg #[F a1 n c1,F a2 n c2],E J x])/\Fresh w.heap.size w' (λw2=>IntsAt w2 a1 n N/\BlksAt w2 a2 n T)/\SlOk a1 n c1/\SlOk a2 n c2/\ZD w w'
theorem Fb{w w':World}{x:Int}(hb:ZD w w'):AddR w w' [] [] 0 x (dE (dF #[.agg #[F aD 0 0,F aD 0 0],E J x])):=⟨aD,0,aD,0,rfl,λ_ _=>⟨IntsAt.nil _ _,RowsAt.nil _ _⟩,⟨aF _,aH _,λ_=>⟨rfl,rfl⟩⟩,⟨aF _,aH _,λ_=>⟨rfl,rfl⟩⟩,hb⟩
theorem Rn{w W:World}{t:Nat}(hb:ZD w W)(ht:w.heap.size<=t)(hs:w.heap.size<=W.heap.size)(u v):ZD w ((W.setCell ⟨t,0,aD⟩ u).setCell ⟨t,1,aD⟩ v):=(((Gr.refl W (λq=>q=t)).one t 0 (.inl rfl) u).one t 1 (.inl rfl) v).below hb hs (λk e=>by omega)
theorem Ztn{B B5 G O t6 n:Nat}{w5 w9 an ap wF:World}{v1 v2:Value}{g cap g2 cap2:Nat}{N}{T:List Zk}{s:Int}{b:Zk}{K:List (List Value)}{cs} (hB:B<=B5) (cc:t6<B5) (bz:B5<=G) (be:T.length=n) (hF:Fresh G w5 (λw2=>AllC blkR w2 K T)) (hf:Fresh w9.heap.size an (λw2=>blkR.C w2 cs b)) (h1:∀ q,v1.ownBlock=dJ q->q<G) (h2:∀ q,v2.ownBlock=dJ q->q<G) (ay:∀ q,v2.ownBlock=dJ q->B5<=q/\q<w5.heap.size) (hO:O=w5.heap.size) (cb:O<w9.heap.size) (bx:B<=w9.heap.size) (cd:t6<w9.heap.size) (g9:Gr w5 w9 (λq=>v1.ownBlock=dJ q)) (gF:Gr w9 wF (λq=>v2.ownBlock=dJ q\/q=O\/q=t6)) (av:Gr an wF (λq=>v2.ownBlock=dJ q\/q=O\/q=t6)) (aw:Gr ap wF (λq=>q=O\/q=t6)) (am:w9.ownsRow B5 3 1 (F (dJ ⟨g,0,aD⟩) (n+1) cap) (n+1) ((N++[s]).map (aV .i64))) (hg:g≠O) (bj:v2.ownBlock≠dJ g) (o12:ap.ownsRow B5 41 5 (F (dJ ⟨g2,0,aD⟩) (n+1) cap2) (n+1) (K.flatten++cs)) (bo:g2≠O) : Fresh B wF (λw2=>IntsAt w2 (dJ ⟨g,0,aD⟩) (n+1) (N++[s])/\BlksAt w2 (dJ ⟨g2,0,aD⟩) (n+1) (T++[b]))/\SlOk (dJ ⟨g,0,aD⟩) (n+1) cap/\SlOk (dJ ⟨g2,0,aD⟩) (n+1) cap2:=by have gb:=(am.lt g rfl).1;have bv:=(o12.lt g2 rfl).1;have ag:=gF.own am (λq hq e=>by cases hq;rcases e with e|e|e;{exact bj e};{exact hg e};simp only at e;omega);have af:=aw.own o12 (λq hq e=>by cases hq;rcases e with e|e;{exact bo e};simp only at e;omega);have bd:Fresh G wF (λw2=>AllC blkR w2 K T):=hF.on (((g9.mono (T:=λq=>v1.ownBlock=dJ q\/v2.ownBlock=dJ q\/q=O\/q=t6) λq _ e=>.inl e).trans (gF.mono λq _ e=>.inr e)).mono λq hq e=>by rcases e with e|e|e|e;{exact h1 q e};{exact h2 q e};{omega};omega);have bg:Fresh w9.heap.size wF (λw2=>blkR.C w2 cs b):=hf.on (av.mono λq _ e=>by rcases e with e|e|e;{have:=(ay q e).2;omega};{omega};omega);have s1:=Yx ag;have s2:=Yx af;have⟨a1,c1,e1,s1,_⟩:=s1;have⟨a2,c2,e2,s2,_⟩:=s2;cases e1;cases e2;refine⟨λw2 g2=>?_,s1,s2⟩;have br:=g2.own ag (λq hq=>by have:=(ag.lt q hq).1;omega);have al:=g2.own af (λq hq=>by have:=(af.lt q hq).1;omega);have⟨a1,c1,e1,_,i1⟩:=ints_of_own br;cases e1;have hA:=(bd w2 (g2.mono λq _ e=>by omega)).snoc (bg w2 (g2.mono λq _ e=>by omega));have bh:K.flatten++cs=(K++[cs]).flatten:=(by simp);rw[bh] at al;have⟨a2,c2,e2,r2,_⟩:=rows_of_own blkR al hA (by rw[bF,be];rfl);cases e2;exact⟨i1,r2⟩
theorem add_is(a b n c m d N T)(s p h k o:Int)(ta tn tc L)(N':List Int)(T')(n':Nat)(x:Int)(w)(hN:IntsAt w a n N)(hT:BlksAt w b m T)(sN:SlOk a n c)(sT:SlOk b m d)(hL:TxsAt w ta tn L)(sL:SlOk ta tn tc)(hx:addE N T s (p,h,k,o,L)=(N',T',x))(cw:N'.length=n') : Calls Tryz.prog 102 #[.agg #[F a n c,F b m d],E J s,.agg #[E J p,E J h,E J k,E J o,F ta tn tc]] w λe w'=>AddR w w' N' T' n' x e:=by have⟨i0,hi,gs,gu,gv⟩:=cB Tryz.infoInt;have⟨j0,ji,gz,ia,ib⟩:=cB Tryz.infoBlkC;have⟨X,hX⟩:=ZG (((w.alloc (dC #[F a n c,F b m d] 28)).alloc (dC #[E J p,E J h,E J k,E J o,F ta tn tc] 41)).alloc (dC #[F aD 0 0,F aD 0 0] 28));have ag:ZD w X:=(by rw[hX];exact Ze (Ze (Zh _ _) (Zh _ _)) (Zh _ _));have bs:X.heap[w.heap.size]? = dJ (dC [F a n c,F b m d].toArray 28 (0,0)):=(by rw[hX,bJ _ _ _ (by simp;omega),bJ _ _ _ (by simp)];exact two_heap _ _ _ _);have cl:X.heap[w.heap.size+1]? = dJ (dC [E J p,E J h,E J k,E J o,F ta tn tc].toArray 41 (0,0)):=(by rw[hX,bJ _ _ _ (by simp)];have:=Zu (w.alloc (dC #[F a n c,F b m d] 28)) (E J p) (E J h) (E J k) (E J o) (F ta tn tc) 41;rw[show (w.alloc (dC #[F a n c,F b m d] 28)).heap.size=w.heap.size+1 by simp] at this;exact this);have cm:X.heap[w.heap.size+2]? = dJ (dC [F aD 0 0,F aD 0 0].toArray 28 (0,0)):=(by rw[hX];have:=two_heap ((w.alloc (dC #[F a n c,F b m d] 28)).alloc (dC #[E J p,E J h,E J k,E J o,F ta tn tc] 41)) (F aD 0 0) (F aD 0 0) 28;rw[show ((w.alloc (dC #[F a n c,F b m d] 28)).alloc (dC #[E J p,E J h,E J k,E J o,F ta tn tc] 41)).heap.size=w.heap.size+2 by simp] at this;exact this);have hm:=sN.2.1;unfold aS at hm;have iy:=sN.1;have⟨HB,dh,di,dj⟩:=kh4 ag bs cl cm;have⟨y,hy⟩:=ZF (chkTr N T);have⟨z,hz⟩:=ZF (Yc N T s (p,h,k,o,L));have C1:=Zb (Ru a b n c m d N T y X (hN.later ag) (hT.later ag) sN sT hy);have⟨x0,x1,xl⟩:=kc2 bs;unfold addE at hx;rw[hy,hz] at hx;by_cases q:y=0;{subst q;rw[if_neg (by simp)] at hx;have⟨hl,h24,hH,dz⟩:=Uv hy;obtain rfl:n=m:=(by rw[<-hN.1,<-hT.1,hl]);have ea:n<=aS:=sN.len;have ix:n<=24:=(by rw[<-hN.1];exact h24);have HS:=Zb (λt ht=>blk_small (Pi N T [] [] hl dz t ht));have C2:=Zb (λW (hb:ZD X W)=>Zhn a b n c d N T s p h k o ta tn tc L z W ea (hN.later (Ze ag hb)) (hT.later (Ze ag hb)) (hL.later (Ze ag hb)) hH hz);rw[hN.1] at hx;have⟨cc,cb⟩:=kh2 hx cw;have CT:=Zb (λW (hb:ZD X W)=>clTree_is a b n c d N T W (hN.later (Ze ag hb)) (hT.later (Ze ag hb)) sN sT (by omega) HS);have CB:=Zb (λW (hb:ZD w W) (q:z=0)=>Pg p h k o ta tn tc L W (hL.later hb) sL (by rw[<-hL.1];exact (blk_small (R8 (hz.trans q))).1) (blk_small (R8 (hz.trans q))).2);have fu:=Zb hN.1;clear ag bs cl cm hN hT sN sT hL sL hy hz hl h24 hH dz ea hx cw;go_enter func102,ntmps102;go_wp2_with fail;rw[<-hX];clear hX;refine dQ C1 λw1 ak=>?_;have av:=Zb ak;have h0:=ZE ak dh;have h1:=ZE ak di;have⟨a0,a1,jh⟩:=kc2 h0;have⟨b0,b1,b2,b3,b4,bl⟩:=kc5 h1;clear ak h0 h1 x0 x1 xl;go_wp2_with fail;refine dQ (C2 _ av) λw2 dv=>?_;have aw:=Zb (Ze av dv);clear dv a0 a1 jh b0 b1 b2 b3 b4 bl;have h0:=ZE aw dh;have h1:=ZE aw di;have h2:=ZE aw dj;have⟨c0,c1,f0,f1,jj⟩:=kf2 h2;have ax:=Zb (Ze HB aw);by_cases q2:z=0;{subst q2;have⟨a0,a1,jh⟩:=kc2 h0;by_cases q3:n=24;{subst q3;obtain⟨rfl,rfl,rfl⟩:([]:List Int)=N'/\([]:List Zk)=T'/\12=x:=(by have q:=Za cc;rw[if_neg (by simp),if_pos rfl] at q;exact⟨congrArg (·.1) q,congrArg (·.2.1) q,congrArg (·.2.2) q⟩);obtain rfl:0=n':=Za cb;clear h0 h1 h2;go_wp2;refine aG (v:=dF #[.agg #[F aD 0 0,F aD 0 0],E J 12]) ?_ rfl (Fb ?_);{rw[Zo rfl];go_simp};exact Rn ax (by omega) ax.size _ _};have R:Hid (N++[s]=N'/\T++[(p,h,k,o,L)]=T'/\0=x):=(by have q:=Za cc;rw[if_neg (by simp),if_neg q3] at q;exact⟨congrArg (·.1) q,congrArg (·.2.1) q,congrArg (·.2.2) q⟩);obtain rfl:0=x:=R.2.2;have g3:((n:Int) == 24)=false:=(by simp;omega);have⟨H0,H1,H2⟩:=kh3 h0 h1 h2;obtain rfl:n+1=n':=(by rw[<-Za cb,<-(Za R).1,bF,Za fu];rfl);clear q3 h0 h1 h2 c0 c1 f0 f1;go_wp2_with fail;refine (CT _ aw).mono ?_;rintro e w5 ⟨v1,v2,rfl,gj,cn⟩;have⟨K,G,o1,o2,g1,g2,dr,dt,hF⟩:=gj;obtain⟨ad,ae,rfl,s1,r1⟩:=Yx o1;obtain⟨aa,ab,rfl,s2,r2⟩:=Yx o2;have⟨t6,ja⟩:=ZG (w.heap.size+2);have iu:w.heap.size+3<=w2.heap.size+2:=(by omega);have iz:w2.heap.size<=w5.heap.size:=cn.size;have du:∀ q,(cF ad n ae).ownBlock=dJ q->w2.heap.size+2<=q/\q<w5.heap.size:=λq hq=>o1.lt q hq;have dw:∀ q,(cF aa n ab).ownBlock=dJ q->w2.heap.size+2<=q/\q<w5.heap.size:=λq hq=>o2.lt q hq;have cd:Hid (((w5.alloc (dC #[F ad n ae,F aa n ab] 28)).alloc (dC #[E J s] 3)).ownsRow (w2.heap.size+2) 3 1 (F ad n ae) n (N.map (aV .i64))):=(o1.alloc _).alloc _;have fv:Hid (∀ j u,([E J s]:List Value)[j]? = dJ u->((w5.alloc (dC #[F ad n ae,F aa n ab] 28)).alloc (dC #[E J s] 3)).cell? ((⟨w5.heap.size+1,0,aD⟩:Addr).add j)=dJ u):=(by have:=aM (w5.alloc (dC #[F ad n ae,F aa n ab] 28)) (dC #[E J s] 3);rw[show (w5.alloc (dC #[F ad n ae,F aa n ab] 28)).heap.size=w5.heap.size+1 by simp] at this;exact bU (cs:=#[E J s]) (t:=3) (fr:=(0,0)) this);have BX:Hid (((w5.alloc (dC #[F ad n ae,F aa n ab] 28)).alloc (dC #[E J s] 3)).heap[w5.heap.size]? = dJ (dC [F ad n ae,F aa n ab].toArray 28 (0,0))):=(by show _=_;rw[bJ _ _ _ (by simp)];exact two_heap _ _ _ _);have⟨bj,HF,ff,fg,ay,az,ca,fq⟩:=kh8 o2 hF g1 g2 du dw cn dt;have⟨ey,ir⟩:=kh2 dr s2;clear o1 o2 hF g1 g2 du dw cn a0 a1 jh r1 r2 dt dr s1 s2;go_wp2_with (at_builtin;refine wpList_append_lies _ rfl _ _ 25 rfl (w2.heap.size+2) 3 i0 (E J 0) 1 8 underlying25 hi gs gu gv rfl (by decide) _ _ _ rfl cd ⟨w5.heap.size+1,0,aD⟩ 1 1 [E J s] rfl rfl fv (λu hu=>by simp at hu;subst hu;rfl) (by decide) (by unfold aS;omega) (by omega) (by simp;omega) (w5.heap.size+2) (by simp) ?_;intro g cap w8 ee ct ec iw;have am:=(ct.block w5.heap.size (by simp;omega) (λe=>by have:=(ay _ e.symm).2;omega)).trans BX;have d0:=Zd am 0 _ rfl;have d1:=Zd am 1 _ rfl;have jk:=Zg am 0;have dl:=aA am;have dg:=Zb ee;have fi:=Zb ct;have fo:=Zb ec;have ft:=Zb am;clear ee ct ec am);have⟨w9,bi⟩:=ZG (w8.setCell ⟨w5.heap.size,0,aD⟩ (F (dJ ⟨g,0,aD⟩) (n+1) cap));rw[<-bi];have cj:Gr w5 w8 (λq=>(cF ad n ae).ownBlock=dJ q):=(((Gr.refl w5 (λq=>(cF ad n ae).ownBlock=dJ q)).new _).new _).grown fi (λk hk=>.inl hk);have an:Gr w5 w9 (λq=>(cF ad n ae).ownBlock=dJ q):=(by rw[bi];exact cj.one w5.heap.size 0 (.inr (aF _)) _);have bo:w9.heap[w5.heap.size]? = dJ (dC [F (dJ ⟨g,0,aD⟩) (n+1) cap,F aa n ab].toArray 28 (0,0)):=(by rw[bi];exact set_cells ft 0 _);have cp:ZD w w9:=an.below (Ze ax ca) (by omega) (λq hq=>by have:=(ay q hq).1;omega);have h91:=an.heap (ZE ca H1) (λhq=>by have:=(ay _ hq).1;have:=aA H1;omega);have h92:=an.heap (ZE ca H2) (λhq=>by have:=(ay _ hq).1;omega);have dy:g≠w5.heap.size/\w2.heap.size+2<=g:=(by rcases Za fo with e|e;{have:=ay g e;omega};omega);have gm:(cF aa n ab).ownBlock≠dJ g:=(by have ik:w8.ownsRow (w2.heap.size+2) 41 5 (F aa n ab) n K.flatten:=cj.own bj (λq hq e=>Wc (((cd.kept (w':=(w5.alloc (dC #[F ad n ae,F aa n ab] 28)).alloc (dC #[E J s] 3)) (row:=aD) (World.grownBy.refl _ _) (by cases ad <;> simp[Value.ownBlock])))) ((bj.alloc _).alloc _) (by decide) q e hq);exact Wc dg ik (by decide) g rfl);have ei:w9.ownsRow (w2.heap.size+2) 3 1 (F (dJ ⟨g,0,aD⟩) (n+1) cap) (n+1) ((N++[s]).map (aV .i64)):=(by rw[bi];have:=((Gr.refl w8 (λq=>q=w5.heap.size)).one w5.heap.size 0 (.inl rfl) (F (dJ ⟨g,0,aD⟩) (n+1) cap)).own dg (λq hq e=>by cases hq;exact dy.1 e);simpa using this);have eh:w9.ownsRow (w2.heap.size+2) 41 5 (F aa n ab) n K.flatten:=an.own bj (λq hq e=>Wc cd ((bj.alloc _).alloc _) (by decide) q e hq);have l9:w5.heap.size<w9.heap.size:=aA bo;have CC:=Zb (CB w9.drew (Ze cp (Zj _)) (by trivial));obtain⟨e0,e1,-⟩:=kc2 bo;have⟨k0,k1,k2,k3,k4,kl⟩:=kc5 h91;have⟨fb,fh,dc,fl,fk,ev⟩:=kh6 bo an h92 ei eh cp;clear bi cj an bo cp h91 h92 ei eh d0 d1 jk dl;(go_region_law (first | (refine J0 (by rfl) 143 #[.agg #[E J p,E J h,E J k,E J o,F ta tn tc]] (by kernel_rfl) CC ?_;rintro e ar ⟨a5,c5,rfl,dx,bu⟩;refine⟨_,rfl,?_⟩;have bd:=ZE bu fb;have m0:=Zd bd 0 _ rfl;have m1:=Zd bd 1 _ rfl;have ml:=aA bd;have fd:=Zb dx;have de:=Zb bu;have ez:=Zb bd;have fj:=Zb ((Gr.of (S:=λ_=>False) bu).own fk.drew (λ_ _ q=>q));clear dx bu bd) | (refine step_append_lies _ (by rfl) _ _ _ (by rfl) (w2.heap.size+2) 41 j0 _ 5 56 underlying26 ji gz ia ib rfl (by decide) (F aa n ab) n K.flatten (by rfl) (fj.alloc _) ⟨ar.heap.size,0,aD⟩ 1 1 [E J p,E J h,E J k,E J o,F a5 tn c5] (by rfl) (by rfl) (bU (cs:=#[E J p,E J h,E J k,E J o,F a5 tn c5]) (t:=41) (fr:=(0,0)) (aM ar _)) (by simp[Value.oneCell']) (by decide) (by unfold aS;omega) (by omega) (by simp;omega) (ar.heap.size+1) (by simp) ?_;intro g2 cap2 au ed cq eb iv;have al:=(cq.block w5.heap.size (by simp;omega) (λe=>by have:=(az _ e.symm).2;omega)).trans ((bJ _ _ _ ml).trans ez);have n0:=Zd al 0 _ rfl;have n1:=Zd al 1 _ rfl;have nf:=Zg al 1;have nl:=aA al;have fs:=Zb ed;have df:=Zb cq;have fm:=Zb eb;have fa:=Zb al;clear ed cq eb al)));all_goals(have br:Gr w9 au (λq=>(cF aa n ab).ownBlock=dJ q):=((Gr.of (Ze (Zj w9) de)).new _).grown df (λk hk=>.inl hk);have dq:Gr ar au (λq=>(cF aa n ab).ownBlock=dJ q):=((Gr.refl ar _).new _).grown df (λk hk=>.inl hk);have ek:=br.heap dc (λe=>by have:=(az _ e).1;omega);have⟨bx,bh⟩:=ZG (au.setCell ⟨w5.heap.size,1,aD⟩ (F (dJ ⟨g2,0,aD⟩) (n+1) cap2));have dm:bx.heap[w5.heap.size]? = dJ (dC [F (dJ ⟨g,0,aD⟩) (n+1) cap,F (dJ ⟨g2,0,aD⟩) (n+1) cap2].toArray 28 (0,0)):=(by rw[bh];exact set_cells fa 1 _);have el:bx.heap[w.heap.size+2]? = dJ (dC [F aD 0 0,F aD 0 0].toArray 28 (0,0)):=(by rw[bh];exact ((Gr.refl au (λq=>q=w5.heap.size)).one w5.heap.size 1 (.inl rfl) _).heap ek (by omega));have gf:∀ {W:World} {S:Nat->Prop},Gr W au S->Gr W ((bx.setCell ⟨w.heap.size+2,0,aD⟩ (F (dJ ⟨g,0,aD⟩) (n+1) cap)).setCell ⟨w.heap.size+2,1,aD⟩ (F (dJ ⟨g2,0,aD⟩) (n+1) cap2)) (λq=>S q\/q=w5.heap.size\/q=w.heap.size+2):=(by intro W S hW;rw[bh];exact (((hW.mono (λq _ e=>.inl e)).one w5.heap.size 1 (.inl (.inr (.inl rfl))) _).one (w.heap.size+2) 0 (.inl (.inr (.inr rfl))) _).one (w.heap.size+2) 1 (.inl (.inr (.inr rfl))) _);have gp:=de.size;have da:=Ztn (w9:=w9) (B:=w.heap.size) (t6:=w.heap.size+2) (by omega) (by omega) ey fq HF fd ff fg az rfl l9 (by omega) (by have:=aA dc;omega) fh (gf br) (gf dq) ((gf (Gr.refl au (λ_=>False))).mono λq _ e=>by rcases e with e|e;exact e.elim;exact e) fl dy.1 gm fs (by rcases Za fm with e|e;{have:=az g2 e;omega};have:w9.heap.size<=ar.heap.size:=gp;omega);have fe:=Zb da;have ew:Hid (ZD w ((bx.setCell ⟨w.heap.size+2,0,aD⟩ (F (dJ ⟨g,0,aD⟩) (n+1) cap)).setCell ⟨w.heap.size+2,1,aD⟩ (F (dJ ⟨g2,0,aD⟩) (n+1) cap2))):=(gf br).below ev (by omega) (λq e=>by rcases e with e|e|e;{have:=(az _ e).1;omega};{omega};omega);have⟨y0,y1,yl⟩:=kc2 dm;have⟨u0,u1,jb,jc,ul⟩:=kf2 el;rw[<-bh];clear bh gf da br dq ek dm el n0 n1 nf nl m0 m1 ml e0 e1 k0 k1 k2 k3 k4 kl;go_wp2;refine aG (v:=dF #[.agg #[F (dJ ⟨g,0,aD⟩) (n+1) cap,F (dJ ⟨g2,0,aD⟩) (n+1) cap2],E J 0]) ?_ rfl ?_;{rw[Zo rfl];go_simp};have⟨f1,f2,f3⟩:=Za fe;rw[<-(Za R).1,<-(Za R).2.1];exact⟨_,_,_,_,rfl,f1,f2,f3,Za ew⟩)};obtain⟨rfl,rfl,rfl⟩:([]:List Int)=N'/\([]:List Zk)=T'/\z=x:=(by have q:=Za cc;rw[if_pos q2] at q;exact⟨congrArg (·.1) q,congrArg (·.2.1) q,congrArg (·.2.2) q⟩);obtain rfl:0=n':=Za cb;have g2:=dS q2;clear h0 h1 h2 q2;go_wp2;refine aG (v:=dF #[.agg #[F aD 0 0,F aD 0 0],E J z]) ?_ rfl (Fb ?_);{rw[Zo rfl];go_simp};exact Rn ax (by omega) ax.size _ _};rw[if_pos q] at hx;obtain⟨rfl,rfl,rfl⟩:([]:List Int)=N'/\([]:List Zk)=T'/\y=x:=⟨congrArg (·.1) hx,congrArg (·.2.1) hx,congrArg (·.2.2) hx⟩;obtain rfl:0=n':=cw;have g:=dS q;clear ag bs cl cm hN hT sN sT hL sL hy hz hx q;go_enter func102,ntmps102;go_wp2_with fail;rw[<-hX];clear hX;refine dQ C1 λw1 ak=>?_;have h2:=ZE ak dj;have⟨c0,c1,f0,f1,jj⟩:=kf2 h2;have av:=Zb (Ze HB ak);clear ak h2 x0 x1 xl;go_wp2;refine aG (v:=dF #[.agg #[F aD 0 0,F aD 0 0],E J y]) ?_ rfl (Fb ?_);{rw[Zo rfl];go_simp};exact Rn av (by omega) av.size _ _
def blockE(N:List Int)(T:List Zk)(s:Int):Zk×Int:=
 if chkTr N T≠0 then (Ys,chkTr N T) else if decide (s∈N)=true then (fnd s N T,0) else (Ys,5)
theorem fnd_at{N:List Int}{T:List Zk}{s:Int}(hl:N.length=T.length)(h:s∈N):fnd s N T∈T:=by rcases idxI_fnd s N T 0 hl with ⟨_,q,_⟩|⟨i,hi,_,_,q⟩;{exact absurd h q};rw[q];exact aT hi
def Zqz(w w':World)(x:Zk)(y:Int)(e:Ending):Prop:=
 ∃ ta tn tc,e = dE (dF #[.agg #[E J x.1,E J x.2.1,E J x.2.2.1,E J x.2.2.2.1,F ta tn tc],E J y])/\TxsAt w' ta tn x.2.2.2.2/\SlOk ta tn tc/\ZD w w'
theorem D8{w w':World}{y:Int}(hb:ZD w w'):Zqz w w' Ys y (dE (dF #[.agg #[E J 0,E J 0,E J 0,E J 0,F aD 0 0],E J y])):=⟨aD,0,0,rfl,RowsAt.nil _ _,⟨aF _,aH _,λ_=>⟨rfl,rfl⟩⟩,hb⟩
theorem Ek(W:World)(t:Nat)(a b c d e):Gr W (((((W.setCell ⟨t,0,aD⟩ a).setCell ⟨t,1,aD⟩ b).setCell ⟨t,2,aD⟩ c).setCell ⟨t,3,aD⟩ d).setCell ⟨t,4,aD⟩ e) (λq=>q=t):=(((((Gr.refl W (λq=>q=t)).one t 0 (.inl rfl) _).one t 1 (.inl rfl) _).one t 2 (.inl rfl) _).one t 3 (.inl rfl) _).one t 4 (.inl rfl) _
theorem block_is(a b n c m d N T)(s:Int)(x:Zk)(y:Int)(w)(hN:IntsAt w a n N)(hT:BlksAt w b m T)(sN:SlOk a n c)(sT:SlOk b m d)(hx:blockE N T s=(x,y)) : Calls Tryz.prog 96 #[.agg #[F a n c,F b m d],E J s] w λe w'=>Zqz w w' x y e:=by have⟨X,hX⟩:=ZG ((w.alloc (dC #[F a n c,F b m d] 28)).alloc (dC #[E J 0,E J 0,E J 0,E J 0,F aD 0 0] 41));have af:ZD w X:=(by rw[hX];exact Ze (Zh _ _) (Zh _ _));have bs:X.heap[w.heap.size]? = dJ (dC [F a n c,F b m d].toArray 28 (0,0)):=(by rw[hX,bJ _ _ _ (by simp)];exact two_heap _ _ _ _);have cw:X.heap[w.heap.size+1]? = dJ (dC [E J 0,E J 0,E J 0,E J 0,F aD 0 0].toArray 41 (0,0)):=(by rw[hX];have:=Zu (w.alloc (dC #[F a n c,F b m d] 28)) (E J 0) (E J 0) (E J 0) (E J 0) (F aD 0 0) 41;rw[show (w.alloc (dC #[F a n c,F b m d] 28)).heap.size=w.heap.size+1 by simp] at this;exact this);have⟨HB,bo,av⟩:=kh3 af bs cw;have⟨z,hz⟩:=ZF (chkTr N T);have C1:=Zb (Ru a b n c m d N T z X (hN.later af) (hT.later af) sN sT hz);have⟨x0,x1,xl⟩:=kc2 bs;unfold blockE at hx;rw[hz] at hx;by_cases q:z=0;{subst q;rw[if_neg (by simp)] at hx;have⟨hl,h24,hH,cz⟩:=Uv hz;obtain rfl:n=m:=(by rw[<-hN.1,<-hT.1,hl]);have bz:n<=aS:=sN.len;have⟨o,ho⟩:=ZF (decide (s∈N));rw[ho] at hx;have C2:=Zb (λW (hb:ZD X W)=>Zfj a b n c n d N s o W bz (hN.later (Ze af hb)) ho);cases o with|false=>rw[if_neg (by simp)] at hx;obtain⟨rfl,rfl⟩:Ys=x/\5=y:=⟨congrArg Prod.fst hx,congrArg Prod.snd hx⟩;go_enter func96,ntmps96;go_wp2_with fail;rw[<-hX];refine dQ C1 λw1 aa=>?_;have CC:=Zb (C2 _ aa);have hc:=ZE aa bo;have ay:=ZE aa av;have⟨H0,H1⟩:=kh2 hc ay;have⟨t0,t1,tl⟩:=kc2 hc;have⟨bh,ag⟩:=kh2 aa (Ze HB aa);go_wp2_with fail;refine dQ CC λw2 ad=>?_;have hd:=ZE ad H1;have⟨z0,z1,z2,z3,z4,f0,f1,f2,f3,f4,zl⟩:=kf5 hd;have au:=Zb (Ze ag ad);go_wp2;refine aG (v:=dF #[.agg #[E J 0,E J 0,E J 0,E J 0,F aD 0 0],E J 5]) ?_ rfl (D8 ?_);{rw[Zo rfl];go_simp};exact (Ek _ _ _ _ _ _ _).below au (by omega) (λk hk=>by omega)|true=>rw[if_pos rfl] at hx;obtain⟨bv,rfl⟩:fnd s N T=x/\0=y:=⟨congrArg Prod.fst hx,congrArg Prod.snd hx⟩;have da:x∈T:=(by rw[<-bv];exact fnd_at hl (by simpa using ho));have db:=blk_small (Pi N T [] [] hl cz x da);have C3:=Zb (λW (hb:ZD X W)=>L0 a b n c d N T s x W bz (hN.later (Ze af hb)) (hT.later (Ze af hb)) bv);have bj:=Zb db;have⟨p,h,k,r,L⟩:=x;go_enter func96,ntmps96;go_wp2_with fail;rw[<-hX];refine dQ C1 λw1 aa=>?_;have CC:=Zb (C2 _ aa);have hc:=ZE aa bo;have ay:=ZE aa av;have⟨H0,H1⟩:=kh2 hc ay;have⟨t0,t1,tl⟩:=kc2 hc;have⟨bh,ag⟩:=kh2 aa (Ze HB aa);go_wp2_with fail;refine dQ CC λw2 ad=>?_;have C4:=Zb (C3 _ (Ze bh ad));have cx:=ZE ad H0;have hd:=ZE ad H1;have HD:=Zb hd;have⟨u0,u1,ul⟩:=kc2 cx;have cn:=Zb (Ze ag ad);go_wp2_with fail;refine C4.mono ?_;rintro e w3 ⟨ta,tn,tc,rfl,hL,sL,ax⟩;have hL:TxsAt w2 ta tn L:=hL;have C5:=Zb (Pg p h k r ta tn tc L w3 (hL.later ax) sL (by rw[<-hL.1];exact bj.1) bj.2);have hd:=ZE ax HD;have⟨bi,cp,dg⟩:=kh3 hd (Ze cn ax) hL.1;unfold Pj;go_wp2_with fail;refine C5.mono ?_;rintro e w4 ⟨a',c',rfl,hf,bu⟩;have hd:=ZE bu bi;have⟨z0,z1,z2,z3,z4,f0,f1,f2,f3,f4,zl⟩:=kf5 hd;have hg:=Ek w4 (w.heap.size+1) (E J p) (E J h) (E J k) (E J r) (F a' tn c');have dl:=aA bi;have HW:=Zb (hf _ (hg.mono λq _ e=>by omega));have au:Hid (ZD w (((((w4.setCell ⟨w.heap.size+1,0,aD⟩ (E J p)).setCell ⟨w.heap.size+1,1,aD⟩ (E J h)).setCell ⟨w.heap.size+1,2,aD⟩ (E J k)).setCell ⟨w.heap.size+1,3,aD⟩ (E J r)).setCell ⟨w.heap.size+1,4,aD⟩ (F a' tn c'))):=hg.below (Ze cp bu) (by omega) (λk hk=>by omega);go_wp2;refine aG (v:=dF #[.agg #[E J p,E J h,E J k,E J r,F a' tn c'],E J 0]) ?_ rfl ?_;{rw[Zo rfl];go_simp};have⟨a2,n2,c2,e2,f1,f2⟩:=Za HW;cases e2;exact⟨_,_,_,rfl,f1,f2,Za au⟩};rw[if_pos q] at hx;obtain⟨rfl,rfl⟩:Ys=x/\z=y:=⟨congrArg Prod.fst hx,congrArg Prod.snd hx⟩;have g:=dS q;go_enter func96,ntmps96;go_wp2_with fail;rw[<-hX];refine dQ C1 λw1 aa=>?_;have hd:=ZE aa av;have⟨z0,z1,z2,z3,z4,f0,f1,f2,f3,f4,zl⟩:=kf5 hd;have ag:=Zb (Ze HB aa);go_wp2;refine aG (v:=dF #[.agg #[E J 0,E J 0,E J 0,E J 0,F aD 0 0],E J z]) ?_ rfl (D8 ?_);{rw[Zo rfl];go_simp};exact (Ek _ _ _ _ _ _ _).below ag (by omega) (λk hk=>by omega)
theorem L8(N T):∀ (d:Nat) (x:Int) (i:Nat),i<d->(upD N T d x).take (i+1)=upD N T (i+1) ((upD N T d x).getD i 0)
 | 0,_,_,h=>by omega
 | d+1,x,i,h=>by
  have hl:=Jx N T d (fnd x N T).1;by_cases e:i<d
  ·rw[upD,List.take_append_of_le_length (by omega),L8 N T d _ i e]
   congr 1
   simp[List.getD,List.getElem?_append_left (show i<(upD N T d (fnd x N T).1).length by omega)]
  have:i=d:=(by omega);subst this;rw[aK (by rw[Jx];omega)]
  congr 1
  simp[upD,List.getD,hl]
def Coh(P Q:List Int):Prop:=∀ i,i<P.length->i<Q.length->P.getD i 0=Q.getD i 0->P.take (i+1)=Q.take (i+1)
theorem upD_coh(N T)(d e:Nat)(x y:Int):Coh (upD N T d x) (upD N T e y):=by intro i h1 h2 h;rw[Jx] at h1 h2;rw[L8 N T d x i h1,L8 N T e y i h2,h]
theorem Ld:∀ (M:List Int) (U:List Zk) (N:List Int) (T:List Zk),M.length=U.length->Yz N T M U=0->∀ x∈M,1<=x/\x<=120
 | [],[],_,_,_,_=>λb hb=>by cases hb
 | [],_ :: _,_,_,h,_=>by cases h
 | _ :: _,[],_,_,h,_=>by cases h
 | x :: M,b :: U,N,T,h,hc=>by
  rw[Yz] at hc;split at hc
  ·next q=>exact absurd hc q
  next q=>
  have h1:Yc N T x b=0:=cK.1 q;have h2:=Ld M U _ _ (by simpa using h) hc;intro y hy
  rcases aY.1 hy with rfl|hy
  ·unfold Yc at h1;split at h1
   ·cases h1
   next q1=>simp at q1;exact q1
  exact h2 y hy
theorem Zpd{N:List Int}{T:List Zk}{x:Int}(hl:N.length=T.length)(h:x∈N):fnd x N T∈T:=by rcases idxI_fnd x N T 0 hl with ⟨_,h1,_⟩|⟨i,hi,_,_,h3⟩;{exact absurd h h1};rw[h3];exact aT hi
theorem fnd_out{N:List Int}{T:List Zk}{x:Int}(hl:N.length=T.length)(h:x∉N):fnd x N T=Ys:=by rcases idxI_fnd x N T 0 hl with ⟨_,_,h3⟩|⟨i,hi,_,h2,_⟩;{exact h3};exact absurd h2 h
theorem Nk{N T}{x:Int}{b:Zk}(h:Yc N T x b=0):(1<=x/\x<=120)/\Yr b=0/\x∉N/\(b.1=0\/b.1∈N)/\b.2.1=(fnd b.1 N T).2.1+1:=by
 unfold Yc at h;split at h
 ·cases h
 next q1=>
 split at h
 ·next q2=>exact absurd h q2
 next q2=>
 split at h
 ·cases h
 next q3=>
 split at h
 ·cases h
 next q4=>
 split at h
 ·cases h
 next q5=>
 refine⟨by simpa using q1,cK.1 q2,by simpa using q3,?_,cK.1 q5⟩;by_cases e:b.1=0
 ·exact .inl e
 right
 by_cases e2:b.1∈N
 ·exact e2
 exact absurd ⟨e,by simp[e2]⟩ q4
theorem Bb{N M:List Int}{T U:List Zk}{y:Int}:N.length=T.length->y∈N->fnd y (N++M) (T++U)=fnd y N T:=by induction N generalizing T with|nil=>intro _ h;cases h|cons a N ih=>(intro hl h;cases T with|nil=>cases hl|cons b T=>(simp only[List.cons_append,fnd];by_cases e:y=a;{simp[e]};rw[if_neg e,if_neg e];refine ih (by simpa using hl) ?_;rcases aY.1 h with h|h;{exact absurd h e};exact h))
theorem Jo{N M:List Int}{T U:List Zk}{y:Int}:N.length=T.length->y∉N->fnd y (N++M) (T++U)=fnd y M U:=by induction N generalizing T with|nil=>(intro hl _;cases T with|nil=>rfl|cons _ _=>cases hl)|cons a N ih=>(intro hl h;cases T with|nil=>cases hl|cons b T=>simp only[List.cons_append,fnd];rw[if_neg (λe=>h (by simp[e]))];exact ih (by simpa using hl) (λq=>h (by simp[q])))
theorem Zhu(x:Int)(b:Zk):fnd x [x] [b]=b:=by simp[fnd]
structure TrOk(N:List Int)(T:List Zk):Prop where
 len:N.length=T.length
 nd:N.Nodup
 nm:∀ x∈N,1<=x/\x<=120
 par:∀ x∈N,(fnd x N T).1=0\/(fnd x N T).1∈N
 hgt:∀ x∈N,(fnd x N T).2.1=(fnd (fnd x N T).1 N T).2.1+1
 chk:∀ b∈T,Yr b=0
theorem TrOk.nil:TrOk [] []:=⟨rfl,List.nodup_nil,λ_ h=>(by cases h),λ_ h=>(by cases h),λ_ h=>(by cases h),λ_ h=>(by cases h)⟩
theorem TrOk.zero{N T}(h:TrOk N T):(0:Int)∉N:=λq=>by have:=(h.nm 0 q).1;omega
theorem TrOk.heads{N T}(h:TrOk N T):Xx T:=λb hb=>Tx (h.chk b hb)
theorem TrOk.same{N T}{x:Int}{b:Zk}(h:TrOk N T)(hx:1<=x){y:Int}(hy:y=0\/y∈N):fnd y (N++[x]) (T++[b])=fnd y N T:=by by_cases e:y∈N;{exact Bb h.len e};have ab:y=0:=(by rcases hy with q|q;exact q;exact absurd q e);rw[Jo h.len e,fnd_out h.len e];unfold fnd;rw[if_neg (by omega)];unfold fnd;rfl
theorem TrOk.new{N T}{x:Int}{b:Zk}(h:TrOk N T)(hx:x∉N):fnd x (N++[x]) (T++[b])=b:=by rw[Jo h.len hx,Zhu]
theorem TrOk.add{N T}{x:Int}{b:Zk}(h:TrOk N T)(hn:Yc N T x b=0):TrOk (N++[x]) (T++[b]):=by have⟨h1,h2,h3,h4,h5⟩:=Nk hn;refine⟨by simp[h.len],?_,λy hy=>?_,λy hy=>?_,λy hy=>?_,λc hc=>?_⟩;{rw[List.nodup_append];exact⟨h.nd,by simp,λa ha c hc=>by rw[cP.1 hc];exact λe=>h3 (e ▸ ha)⟩};{rcases bN.1 hy with q|q;{exact h.nm y q};rw[cP.1 q];exact h1};{rcases bN.1 hy with q|q;{rw[h.same h1.1 (.inr q)];rcases h.par y q with e|e;{exact .inl e};exact .inr (by simp[e])};rw[cP.1 q,h.new h3];rcases h4 with e|e;{exact .inl e};exact .inr (by simp[e])};{rcases bN.1 hy with q|q;{rw[h.same h1.1 (.inr q),h.same h1.1 (h.par y q)];exact h.hgt y q};rw[cP.1 q,h.new h3,h.same h1.1 h4];exact h5};rcases bN.1 hc with q|q;{exact h.chk c q};rw[cP.1 q];exact h2
theorem Ds:∀ (M:List Int) (U:List Zk) (N:List Int) (T:List Zk),M.length=U.length->TrOk N T->Yz N T M U=0->TrOk (N++M) (T++U)
 | [],[],N,T,_,h,_=>by simpa using h
 | [],_ :: _,_,_,h,_,_=>by cases h
 | _ :: _,[],_,_,h,_,_=>by cases h
 | x :: M,b :: U,N,T,hl,h,hc=>by
  rw[Yz] at hc;split at hc
  ·next q=>exact absurd hc q
  next q=>
  have:=Ds M U _ _ (by simpa using hl) (h.add (cK.1 q)) hc;simpa using this
theorem TrOk.of{N T}(h:chkTr N T=0):TrOk N T:=by have⟨h1,_,_,h4⟩:=Uv h;simpa using Ds N T [] [] h1 TrOk.nil h4
theorem Dt:∀ (M:List Int) (U:List Zk) (N:List Int) (T:List Zk) (x:Int) (b:Zk),M.length=U.length->Yz N T M U=0->Yc (N++M) (T++U) x b=0->Yz N T (M++[x]) (U++[b])=0
 | [],[],N,T,x,b,_,_,h=>by
  rw[List.append_nil,List.append_nil] at h;simp[Yz,h]
 | [],_ :: _,_,_,_,_,h,_,_=>by cases h
 | _ :: _,[],_,_,_,_,h,_,_=>by cases h
 | y :: M,c :: U,N,T,x,b,h,hc,hn=>by
  rw[Yz] at hc;split at hc
  ·next q=>exact absurd hc q
  next q=>
  rw[List.cons_append,List.cons_append,Yz,if_neg q];exact Dt M U _ _ x b (by simpa using h) hc (by simpa using hn)
theorem chkTr_snoc{N:List Int}{T}{x:Int}{b:Zk}(h:chkTr N T=0)(hn:Yc N T x b=0)(hl:N.length≠24):chkTr (N++[x]) (T++[b])=0:=by have⟨h1,h2,_,h4⟩:=Uv h;unfold chkTr;rw[if_neg (by simp[h1]),if_neg (by simp;omega)];exact Dt N T [] [] x b h1 h4 (by simpa using hn)
theorem TrOk.up{N T}(h:TrOk N T)(y:Int):(fnd y N T).1=0\/(fnd y N T).1∈N:=by by_cases e:y∈N;{exact h.par y e};rw[fnd_out h.len e];exact .inl rfl
theorem TrOk.upD_same{N T}{x:Int}{b:Zk}(h:TrOk N T)(hx:1<=x):∀ (d:Nat) (y:Int),(y=0\/y∈N)->upD (N++[x]) (T++[b]) d y=upD N T d y
 | 0,_,_=>rfl
 | d+1,y,hy=>by
  rw[upD,upD,h.same hx hy,h.upD_same hx d _ (h.up y)]
theorem TrOk.pth_same{N T}{x:Int}{b:Zk}(h:TrOk N T)(hx:1<=x){y:Int}(hy:y=0\/y∈N):Y5 (N++[x]) (T++[b]) y=Y5 N T y:=by unfold Y5;rw[h.same hx hy,h.upD_same hx _ y hy]
theorem Zlp(N T):∀ (P Q:List Int) (s:Int),Vw N T s (P++Q)=Vw N T (Vw N T s P) Q
 | [],_,_=>rfl
 | y :: P,Q,s=>by rw[List.cons_append,Vw,Vw,Zlp N T P Q]
def Sc(N:List Int)(T:List Zk)(q:Int×Int)(P:List Int):Int×Int:=P.foldl (λq x=>if q.2<Xu N T x\/Xu N T x=q.2/\x<q.1 then (x,Xu N T x) else q) q
theorem Ej(N T):∀ (P:List Int) (b m:Int),bstGo N T b m P=(Sc N T (b,m) P).1
 | [],_,_=>rfl
 | x :: P,b,m=>by
  rw[bstGo];unfold Sc;rw[List.foldl_cons];split
  ·rw[Ej N T P];rfl
  rw[Ej N T P];rfl
theorem Dz(N T):∀ (P:List Int) (q:Int×Int),q.2=Xu N T q.1->(Sc N T q P).2=Xu N T (Sc N T q P).1
 | [],_,h=>h
 | x :: P,q,h=>by
  unfold Sc;rw[List.foldl_cons];split
  ·exact Dz N T P _ rfl
  exact Dz N T P _ h
theorem D7(N T):∀ (P:List Int) (q:Int×Int),(Sc N T q P).1=q.1\/(Sc N T q P).1∈P
 | [],_=>.inl rfl
 | x :: P,q=>by
  unfold Sc;rw[List.foldl_cons];split
  ·rcases D7 N T P (x,Xu N T x) with h|h
   ·exact .inr (by unfold Sc at h;rw[h];simp)
   exact .inr (by unfold Sc at h;simp[h])
  rcases D7 N T P q with h|h
  ·exact .inl h
  exact .inr (by unfold Sc at h;simp[h])
theorem TrOk.wrk_zero{N T}(h:TrOk N T):Xu N T 0=0:=by unfold Xu Y5;rw[fnd_out h.len h.zero];rfl
end Go.Proofs.YtnkcjkcbfbpckaaGreatDoor.Tr
namespace Go.Proofs.YtnkcjkcbfbpckaaGreatDoor.Bk
open Go.RowKit Go.Maps
theorem Ha{α : Type}{L M:List α}{j:Nat}(h1:j<L.length)(h2:j<M.length)(h:L.take j=M.take j)(e:L[j]=M[j]):L.take (j+1)=M.take (j+1):=by rw[aI h1,aI h2,h,e]
theorem Mb{α : Type}{L M:List α}{j:Nat}(h1:j<L.length)(h2:j<M.length)(e:L[j]≠M[j]):L≠M:=by intro h;subst h;exact e rfl
theorem Zrk{s t:ByteArray}(h:s≠t):s.toList≠t.toList:=λe=>h (by
 rw[ByteArray.toList_eq,ByteArray.toList_eq] at e;have h4:s.data=t.data:=by rw[<-Array.toList_inj];exact e
 cases s;cases t;simp_all)
theorem str_ne{s t:ByteArray}(h:s≠t):(s.toList == t.toList)=false:=by simp[Zrk h]
theorem Zfq(b off b2 ak n c d:Nat)(L M:List ByteArray)(o:Bool)(w:World)(hn:n<=aS)(hz:L.length=n)(aw:M.length=n) (hc:∀ i (h:i<L.length),dV w b (off+i) (.string L[i])) (ar:∀ i (h:i<M.length),dV w b2 (ak+i) (.string M[i])) (ho:decide (L=M)=o) : ZH 17 #[F (dJ ⟨b,off,aD⟩) n c,F (dJ ⟨b2,ak,aD⟩) n d] w (dH o):=by have⟨HC,am,HZ,ac,HO⟩:=kh5 hc ar hz aw ho;have g0:((n:Int) != (n:Int))=false:=(by simp);unfold aS at hn;go_enter func17,ntmps17;go_wp2;go_loopw [13] (λi wr=>∃ j m:Nat,j<=n/\i = E J j/\wr=w.drewN m/\Hid (L.take j=M.take j)) (λi _=>n - (intOf i).toNat);{exact⟨0,0,aH _,rfl,rfl,rfl⟩};obtain⟨j,m,hk,rfl,rfl,A⟩:=hrel;by_cases ag:j<n;{have h1:j<L.length:=(by rw[Za HZ];exact ag);have h2:j<M.length:=(by rw[Za ac];exact ag);have f1:=HC j h1;have f2:=am j h2;have⟨TM,TN⟩:=kh2 (Ha h1 h2 A) (Mb h1 h2);have⟨s,hs⟩:=ZF (L[j]);have⟨t,ht⟩:=ZF (M[j]);rw[hs] at f1;rw[ht] at f2;rw[hs,ht] at TM TN;by_cases e:s=t;{subst e;have R:=Zb (TM rfl);go_wp2;go_quiet (fail);go_wp2;go_roundw;{exact⟨j+1,m+nq,by omega,by go_num,rfl,R⟩};simp[intOf];omega};have R:Hid (o=false):=(by show _=_;rw[<-Za HO];exact decide_eq_false (TN e));have g:=str_ne e;go_wp2;go_quiet (fail);go_wp2;go_ret;exact⟨by rw[Za R];rfl,by simp only[World.drewN_drewN];exact Yw _ _⟩};have R:Hid (o=true):=(by have h:=Za A;rw[aK (by rw[Za HZ];omega),aK (by rw[Za ac];omega)] at h;show _=_;rw[<-Za HO];exact decide_eq_true h);go_wp2;go_ret;exact⟨by rw[Za R];rfl,Yw _ _⟩
theorem Zfp(a a2 c d)(w:World) : ZH 17 #[F a 0 c,F a2 0 d] w (dH true):=by go_enter func17,ntmps17;go_wp2;refine bC 1 ?_;rw[aU];go_wp2;go_ret;exact⟨rfl,Below.refl _ _⟩
theorem Zkq(a a2)(n m c d:Nat)(w:World)(h:n≠m) : ZH 17 #[F a n c,F a2 m d] w (dH false):=by have g:((n:Int) != (m:Int))=true:=(by simp;omega);go_enter func17,ntmps17;go_wp2;go_ret;exact⟨rfl,Below.refl _ _⟩
theorem eqStr_is(a a2)(n m c d:Nat)(L M)(o:Bool)(w:World)(hn:n<=aS)(h:TextsAt w a n L)(h2:TextsAt w a2 m M)(ho:decide (L=M)=o) : ZH 17 #[F a n c,F a2 m d] w (dH o):=by by_cases e:n=m;{subst e;by_cases h0:n=0;{subst h0;have e1:L=[]:=aJ.1 h.1;have e2:M=[]:=aJ.1 h2.1;subst e1 e2;have:o=true:=(by rw[<-ho];rfl);subst this;exact Zfp a a2 c d w};obtain⟨b,off,rfl,hc⟩:=h.2 (by omega);obtain⟨b2,ah,rfl,ag⟩:=h2.2 (by omega);exact Zfq b off b2 ah n c d L M o w hn h.1 h2.1 hc ag ho};have:o=false:=(by rw[<-ho];exact decide_eq_false (λe2=>e (by rw[<-h.1,<-h2.1,e2])));subst this;exact Zkq a a2 n m c d w e
theorem Zfv(b off b2 ak n c d:Nat)(L M:List Int)(o:Bool)(w:World)(hn:n<=aS)(hz:L.length=n)(aw:M.length=n) (hc:∀ i (h:i<L.length),dV w b (off+i) (E J L[i])) (ar:∀ i (h:i<M.length),dV w b2 (ak+i) (E J M[i])) (ho:decide (L=M)=o) : ZH 38 #[F (dJ ⟨b,off,aD⟩) n c,F (dJ ⟨b2,ak,aD⟩) n d] w (dH o):=by have⟨HC,am,HZ,ac,HO⟩:=kh5 hc ar hz aw ho;have g0:((n:Int) != (n:Int))=false:=(by simp);unfold aS at hn;go_enter func38,ntmps38;go_wp2;go_loopw [13] (λi wr=>∃ j m:Nat,j<=n/\i = E J j/\wr=w.drewN m/\Hid (L.take j=M.take j)) (λi _=>n - (intOf i).toNat);{exact⟨0,0,aH _,rfl,rfl,rfl⟩};obtain⟨j,m,hk,rfl,rfl,A⟩:=hrel;by_cases ag:j<n;{have h1:j<L.length:=(by rw[Za HZ];exact ag);have h2:j<M.length:=(by rw[Za ac];exact ag);have f1:=HC j h1;have f2:=am j h2;have⟨TM,TN⟩:=kh2 (Ha h1 h2 A) (Mb h1 h2);have⟨s,hs⟩:=ZF (L[j]);have⟨t,ht⟩:=ZF (M[j]);rw[hs] at f1;rw[ht] at f2;rw[hs,ht] at TM TN;by_cases e:s=t;{subst e;have R:=Zb (TM rfl);have g:(s != s)=false:=(by simp);go_wp2;go_quiet (fail);go_wp2;go_roundw;{exact⟨j+1,m+nq,by omega,by go_num,rfl,R⟩};simp[intOf];omega};have R:Hid (o=false):=(by show _=_;rw[<-Za HO];exact decide_eq_false (TN e));have g:=dS e;go_wp2;go_quiet (fail);go_wp2;go_ret;exact⟨by rw[Za R];rfl,by simp only[World.drewN_drewN];exact Yw _ _⟩};have R:Hid (o=true):=(by have h:=Za A;rw[aK (by rw[Za HZ];omega),aK (by rw[Za ac];omega)] at h;show _=_;rw[<-Za HO];exact decide_eq_true h);go_wp2;go_ret;exact⟨by rw[Za R];rfl,Yw _ _⟩
theorem Zfu(a a2 c d)(w:World) : ZH 38 #[F a 0 c,F a2 0 d] w (dH true):=by go_enter func38,ntmps38;go_wp2;refine bC 1 ?_;rw[aU];go_wp2;go_ret;exact⟨rfl,Below.refl _ _⟩
theorem Zks(a a2)(n m c d:Nat)(w:World)(h:n≠m) : ZH 38 #[F a n c,F a2 m d] w (dH false):=by have g:((n:Int) != (m:Int))=true:=(by simp;omega);go_enter func38,ntmps38;go_wp2;go_ret;exact⟨rfl,Below.refl _ _⟩
theorem eqInt_is(a a2)(n m c d:Nat)(L M)(o:Bool)(w:World)(hn:n<=aS)(h:IntsAt w a n L)(h2:IntsAt w a2 m M)(ho:decide (L=M)=o) : ZH 38 #[F a n c,F a2 m d] w (dH o):=by by_cases e:n=m;{subst e;by_cases h0:n=0;{subst h0;have e1:L=[]:=aJ.1 h.1;have e2:M=[]:=aJ.1 h2.1;subst e1 e2;have:o=true:=(by rw[<-ho];rfl);subst this;exact Zfu a a2 c d w};obtain⟨b,off,rfl,hc⟩:=h.2 (by omega);obtain⟨b2,ah,rfl,ag⟩:=h2.2 (by omega);exact Zfv b off b2 ah n c d L M o w hn h.1 h2.1 hc ag ho};have:o=false:=(by rw[<-ho];exact decide_eq_false (λe2=>e (by rw[<-h.1,<-h2.1,e2])));subst this;exact Zks a a2 n m c d w e
end Go.Proofs.YtnkcjkcbfbpckaaGreatDoor.Bk
namespace Go.Proofs.YtnkcjkcbfbpckaaGreatDoor.Tr
open Go.RowKit
theorem Zqh(w:World)(n:Nat):ZD w (w.drewN n):=⟨rfl,rfl,rfl,aF _,λ_ _=>rfl⟩
theorem Ha{α : Type}{L M:List α}{j:Nat}(h1:j<L.length)(h2:j<M.length)(h:L.take j=M.take j)(e:L[j]=M[j]):L.take (j+1)=M.take (j+1):=by rw[aI h1,aI h2,h,e]
theorem Mb{α : Type}{L M:List α}{j:Nat}(h1:j<L.length)(h2:j<M.length)(e:L[j]≠M[j]):L≠M:=by intro h;subst h;exact e rfl
theorem IntsAt.bk{w a n L}(h:IntsAt w a n L):Bk.IntsAt w a n L:=⟨h.1,λq=>let ⟨b,off,e,_,hc⟩:=h.2 q;⟨b,off,e,hc⟩⟩
theorem eqInt_is(a a2)(n m c d:Nat)(L M)(o:Bool)(w:World)(hn:n<=aS)(h:IntsAt w a n L)(h2:IntsAt w a2 m M)(ho:decide (L=M)=o) : ZH 38 #[F a n c,F a2 m d] w (dH o):=Bk.eqInt_is a a2 n m c d L M o w hn h.bk h2.bk ho
theorem best_is(a b n c m d N T)(z x:Int)(w:World)(hN:IntsAt w a n N)(hT:BlksAt w b m T)(sN:SlOk a n c)(sT:SlOk b m d)(hx:bstD N T=(z,x)) : ZH 60 #[.agg #[F a n c,F b m d]] w (dF #[E J z,E J x]):=by have⟨X,hX,ab,az⟩:=ka00 w [F a n c,F b m d] 28;have⟨HB,aw⟩:=kh2 ab az;have⟨y,hy⟩:=ZF (chkTr N T);have C1:=Zb (Ru a b n c m d N T y X (hN.later ab) (hT.later ab) sN sT hy);have⟨x0,x1,xl⟩:=kc2 az;unfold bstD at hx;rw[hy] at hx;by_cases q:y=0;{subst q;rw[if_neg (by simp)] at hx;have⟨hl,h24,hH,_⟩:=Uv hy;obtain rfl:n=m:=(by rw[<-hN.1,<-hT.1,hl]);have dd:n<=24:=(by rw[<-hN.1];exact h24);have bd:n<=aS:=sN.len;obtain⟨hz,rfl⟩:bstGo N T 0 0 N=z/\0=x:=⟨congrArg Prod.fst hx,congrArg Prod.snd hx⟩;have⟨HN,ax,HH⟩:=kh3 (hN.later ab) hN.1 hH;have CP:=Zb (λs P pn W (hb:ZD X W) (h1:Y5 N T s=P) (h2:P.length=pn)=>Zjq a b n c d N T s P pn W bd (hN.later (Ze ab hb)) (hT.later (Ze ab hb)) hH h1 h2);have CW:=Zb (λpa pc pn P v W (hb:ZD X W) (ap:IntsAt W pa pn P) (aq:pn<=1000) (hv:Vw N T 0 P=v)=>Zie a b pa n c d pn pc N T P v W bd (hN.later (Ze ab hb)) (hT.later (Ze ab hb)) ap aq hH hv);have HZ:Hid (bstGo N T 0 0 (N.drop 0)=z):=hz;go_enter func60,ntmps60;go_wp2_with fail;rw[<-hX];refine dQ C1 λw1 ah=>?_;have hc:=ZE ah aw;have⟨t0,tl⟩:=kc1 hc;have al:=Zb ah;go_wp2;go_loopw [5,6,18] (λbv mv i wr=>∃ (k:Nat) (bb mm:Int),k<=n/\bv = E J bb/\mv = E J mm/\i = E J k/\Hid (bstGo N T bb mm (N.drop k)=z)/\Hid (ZD X wr)) (λ_ _ i _=>n - (intOf i).toNat);{exact⟨0,0,0,aH _,rfl,rfl,rfl,HZ,al⟩};obtain⟨k,bb,mm,hk,rfl,rfl,rfl,A,af⟩:=hrel;by_cases cf:k<n;{have h1:k<N.length:=(by rw[Za ax];exact cf);obtain⟨b1,de,rfl,ce,cb⟩:=HN.2 (by omega);have f1:=Zf af (cb k h1);have AT:=Zb (Zqb N T bb mm N k h1);have⟨s,hs⟩:=ZF (N[k]);rw[hs] at f1 AT;have ll:=aE ce af.size;have cc:=ZE af aw;have⟨t0,t1,tl⟩:=kc2 cc;have⟨P,hP⟩:=ZF (Y5 N T s);have⟨pn,be⟩:=ZF (P.length);have⟨v,hv⟩:=ZF (Vw N T 0 P);have cm:Xu N T s=v:=(by unfold Xu;rw[hP,hv]);rw[cm] at AT;have aq:pn<=1000:=(by rw[<-be,<-hP];exact pth_len HH s);have CC:=Zb (CP s P pn wr.drew (Ze af (Zj _)) hP be);have CV:=Zb (λpa pc W hb ap=>CW pa pc pn P v W hb ap aq hv);have dc:(k:Int)<(n:Int):=(by omega);go_wp2_with fail;(go_region_with (first | (go_at_call 109;refine CC.mono ?_;rintro e w5 ⟨vv,rfl,cg,aj⟩;obtain⟨pa,pc,rfl,_,cj⟩:=ints_of_own cg;have e0:=Zf aj (Zf (Zj _) t0);have e1:=Zf aj (Zf (Zj _) t1);have el:=aE tl aj.size;have H5:=Zb (Ze af (Ze (Zj _) aj));have C5:=Zb (CV pa pc _ H5 cj);skip) | (go_at_call 108;refine dQ C5 λw6 bz=>?_;have H6:=Zb (Ze H5 bz);skip)));all_goals(by_cases q1:mm<v;{have R:Hid (bstGo N T s v (N.drop (k+1))=z):=(by show _=_;rw[<-Za A,Za AT,if_pos (.inl q1)]);go_wp2;go_roundw;{exact⟨k+1,s,v,by omega,rfl,rfl,by go_num,R,H6⟩};simp[intOf];omega};by_cases q2:v=mm;{subst q2;by_cases q3:s<bb;{have R:Hid (bstGo N T s v (N.drop (k+1))=z):=(by show _=_;rw[<-Za A,Za AT,if_pos (.inr ⟨rfl,q3⟩)]);go_wp2;go_roundw;{exact⟨k+1,s,v,by omega,rfl,rfl,by go_num,R,H6⟩};simp[intOf];omega};have R:Hid (bstGo N T bb v (N.drop (k+1))=z):=(by show _=_;rw[<-Za A,Za AT,if_neg (by omega)]);go_wp2;go_roundw;{exact⟨k+1,bb,v,by omega,rfl,rfl,by go_num,R,H6⟩};simp[intOf];omega};have R:Hid (bstGo N T bb mm (N.drop (k+1))=z):=(by show _=_;rw[<-Za A,Za AT,if_neg (by omega)]);have g2:=dU q2;go_wp2;go_roundw;{exact⟨k+1,bb,mm,by omega,rfl,rfl,by go_num,R,H6⟩};simp[intOf];omega)};have R:Hid (bb=z):=(by show _=_;rw[<-Za A,Zlf N T bb mm N k (by rw[Za ax];omega)]);have br:=Zb (Ze HB af);go_wp2;go_ret2;exact⟨by rw[<-Za R];rfl,Za br⟩};rw[if_pos q] at hx;obtain⟨rfl,rfl⟩:0=z/\y=x:=⟨congrArg Prod.fst hx,congrArg Prod.snd hx⟩;have g:=dS q;go_enter func60,ntmps60;go_wp2_with fail;rw[<-hX];refine dQ C1 λw1 ah=>?_;have al:=Zb (Ze HB ah);go_wp2;go_ret2;exact⟨rfl,Za al⟩
theorem addE_ok{N:List Int}{T}{x:Int}{b:Zk}{N' T'}(h:addE N T x b=(N',T',0)):chkTr N T=0/\Yc N T x b=0/\N.length≠24/\N'=N++[x]/\T'=T++[b]:=by
 unfold addE at h;split at h
 ·next q=>exact absurd (congrArg (·.2.2) h) q
 next q=>
 split at h
 ·next q2=>exact absurd (congrArg (·.2.2) h) q2
 next q2=>
 split at h
 ·next q3=>have:=congrArg (·.2.2) h;simp at this
 next q3=>exact⟨cK.1 q,cK.1 q2,q3,(congrArg (·.1) h).symm,(congrArg (·.2.1) h).symm⟩
theorem Zey:∀ (U N:List Int),U.Nodup->(∀ x∈U,x∈N)->U.length<=N.length
 | [],_,_,_=>aH _
 | x :: U,N,h,hs=>by
  have hx:x∈N:=hs x (by simp);have hn:=List.nodup_cons.1 h;have h1:=Zey U (N.erase x) hn.2 (λy hy=>(List.mem_erase_of_ne (λ(e:y=x)=>hn.1 (e ▸ hy))).2 (hs y (by simp[hy])));rw[List.length_erase_of_mem hx] at h1;have:0<N.length:=List.length_pos_of_mem hx;simp only[bX];omega
theorem Dv:∀ (M:List Int) (U:List Zk) (N:List Int) (T:List Zk),M.length=U.length->Yz N T M U=0->∀ i (h:i<M.length) (h':i<U.length),Yc (N++M.take i) (T++U.take i) M[i] U[i]=0
 | [],_,_,_,_,_,_,h,_=>absurd h (by simp)
 | _ :: _,[],_,_,h,_,_,_,_=>by cases h
 | x :: M,b :: U,N,T,hl,hc,0,_,_=>by
  rw[Yz] at hc;split at hc
  ·next q=>exact absurd hc q
  next q=>simpa using cK.1 q
 | x :: M,b :: U,N,T,hl,hc,i+1,h,h'=>by
  rw[Yz] at hc;split at hc
  ·next q=>exact absurd hc q
  next q=>
  have:=Dv M U _ _ (by simpa using hl) hc i (by simpa using h) (by simpa using h');simpa using this
theorem ahead{N:List Int}{T:List Zk}(hc:chkTr N T=0)(i:Nat)(h:i<N.length)(h':i<T.length):fnd N[i] N T=T[i]/\(T[i].1=0\/T[i].1∈N.take i):=by have⟨hl,_,_,ad⟩:=Uv hc;have h1:=Dv N T [] [] hl ad i h h';simp only[List.nil_append] at h1;have⟨_,_,q3,q4,_⟩:=Nk h1;refine⟨?_,q4⟩;have e1:N=N.take i++(N[i] :: N.drop (i+1)):=(by rw[<-aL h,List.take_append_drop]);have e2:T=T.take i++(T[i] :: T.drop (i+1)):=(by rw[<-aL h',List.take_append_drop]);have:=Jo (N:=N.take i) (M:=N[i] :: N.drop (i+1)) (T:=T.take i) (U:=T[i] :: T.drop (i+1)) (by rw[aW,aW];omega) q3;rw[<-e1,<-e2] at this;rw[this];simp[fnd]
structure Sub(U:List Int)(V:List Zk)(N:List Int)(T:List Zk):Prop where
 chk:chkTr U V=0
 mem:∀ y∈U,y∈N
 same:∀ y∈U,fnd y U V=fnd y N T
theorem Sub.nil(N T):Sub [] [] N T:=⟨rfl,λ_ h=>(by cases h),λ_ h=>(by cases h)⟩
theorem Sub.all{U V N T}(h:Sub U V N T)(hc:chkTr N T=0){y:Int}(hy:y=0\/y∈U):fnd y U V=fnd y N T:=by by_cases e:y∈U;{exact h.same y e};have ab:y=0:=(by rcases hy with q|q;exact q;exact absurd q e);subst ab;rw[fnd_out (TrOk.of h.chk).len e,fnd_out (TrOk.of hc).len (TrOk.of hc).zero]
theorem Sub.step{U V}{N:List Int}{T:List Zk}(h:Sub U V N T)(hc:chkTr N T=0){k:Nat}(hk:k<N.length)(af:k<T.length){U' V'}(ha:addE U V N[k] T[k]=(U',V',0)):Sub U' V' N T/\U'=U++[N[k]]:=by obtain⟨h1,h2,h3,rfl,rfl⟩:=addE_ok ha;have ok:=TrOk.of h1;have⟨g1,_,g3,_,_⟩:=Nk h2;refine⟨⟨chkTr_snoc h1 h2 h3,λy hy=>?_,λy hy=>?_⟩,rfl⟩;{rcases bN.1 hy with q|q;{exact h.mem y q};rw[cP.1 q];exact aT hk};rcases bN.1 hy with q|q;{rw[ok.same g1.1 (.inr q)];exact h.same y q};rw[cP.1 q,ok.new g3,(ahead hc k hk af).1]
theorem Sub.full{U:List Int}{V}{N:List Int}{T}(h:Sub U V N T)(hc:chkTr N T=0)(ha:∀ j (hj:j<N.length),N[j]∈U):U.length=N.length/\∀ y∈N,y∈U:=by have hs:∀ y∈N,y∈U:=λy hy=>(by obtain⟨j,hj,rfl⟩:=List.getElem_of_mem hy;exact ha j hj);have h1:=Zey U N (TrOk.of h.chk).nd h.mem;have h2:=Zey N U (TrOk.of hc).nd hs;exact⟨by omega,hs⟩
theorem Sub.up{U V N T}(h:Sub U V N T)(hc:chkTr N T=0):∀ (d:Nat) (y:Int),(y=0\/y∈U)->upD U V d y=upD N T d y
 | 0,_,_=>rfl
 | d+1,y,hy=>by
  rw[upD,upD,<-h.all hc hy,h.up hc d _ ((TrOk.of h.chk).up y)]
theorem Sub.wk{U V N T}(h:Sub U V N T)(hc:chkTr N T=0):∀ (P:List Int) (s:Int),(∀ z∈P,z=0\/z∈U)->Vw U V s P=Vw N T s P
 | [],_,_=>rfl
 | y :: P,s,hP=>by
  rw[Vw,Vw,h.all hc (hP y (by simp)),h.wk hc P _ (λz hz=>hP z (by simp[hz]))]
theorem TrOk.wrk_pos{N T}(h:TrOk N T){y:Int}(hy:y∈N):1<=Xu N T y:=by have hb:=h.heads _ (Zpd h.len hy);obtain⟨d,hd⟩:∃ d,(fnd y N T).2.1.toNat=d+1:=⟨(fnd y N T).2.1.toNat - 1,by omega⟩;unfold Xu Y5;rw[hd,upD,Zlp,Vw,Vw];have:=(Er h.heads (upD N T d (fnd y N T).1) 0 (N:=N)).1;omega
theorem Zdh(N T):∀ (P D:List Int) (q:Int×Int),(∀ y∈D,Xu N T y<q.2\/Xu N T y=q.2/\q.1<=y)->∀ y,y∈D\/y∈P->Xu N T y<(Sc N T q P).2\/Xu N T y=(Sc N T q P).2/\(Sc N T q P).1<=y
 | [],D,q,h,y,hy=>by
  rcases hy with hy|hy
  ·exact h y hy
  cases hy
 | x :: P,D,q,h,y,hy=>by
  have ab:Sc N T q (x :: P)=Sc N T (if q.2<Xu N T x\/Xu N T x=q.2/\x<q.1 then (x,Xu N T x) else q) P:=rfl;rw[ab]
  refine Zdh N T P (x :: D) _ (λz hz=>?_) y (by
   rcases hy with hy|hy
   ·exact .inl (by simp[hy])
   rcases aY.1 hy with rfl|hy
   ·exact .inl (by simp)
   exact .inr hy)
  rcases aY.1 hz with rfl|hz
  ·split
   ·exact .inr ⟨rfl,Int.le_refl _⟩
   next q1=>omega
  have:=h z hz;split
  ·next q1=>simp only;omega
  exact this
theorem best_max{N T}(h:TrOk N T):(bstGo N T 0 0 N=0\/bstGo N T 0 0 N∈N)/\(∀ y∈N,Xu N T y<Xu N T (bstGo N T 0 0 N)\/Xu N T y=Xu N T (bstGo N T 0 0 N)/\bstGo N T 0 0 N<=y):=by rw[Ej];have hw:=Dz N T N (0,0) h.wrk_zero.symm;rw[<-hw];exact⟨D7 N T N (0,0),λy hy=>Zdh N T N [] (0,0) (λ_ q=>by cases q) y (.inr hy)⟩
theorem TrOk.pth_zero{N T}(h:TrOk N T):Y5 N T 0=[]:=by unfold Y5;rw[fnd_out h.len h.zero];rfl
theorem TrOk.pth_step{N T}(h:TrOk N T){x:Int}(hx:x∈N):Y5 N T x=Y5 N T (fnd x N T).1++[x]:=by have e:=h.hgt x hx;have h0:=(Ux h.heads (fnd x N T).1 N).1;unfold Y5;rw[show (fnd x N T).2.1.toNat=(fnd (fnd x N T).1 N T).2.1.toNat+1 by omega];rfl
theorem pth_length(N T)(x:Int):(Y5 N T x).length=(fnd x N T).2.1.toNat:=Jx _ _ _ _
theorem TrOk.pth_at{N T}(h:TrOk N T):∀ (d:Nat) (x:Int),(x=0\/x∈N)->(fnd x N T).2.1.toNat=d->∀ (i:Nat) (z:Int),(Y5 N T x)[i]? = dJ z->z∈N/\(fnd z N T).2.1=i+1:=by
 intro d
 induction d with
 | zero=>
  intro x _ hd i z hz;have hl:=pth_length N T x;have:=(cD.1 hz).1;omega
 | succ d ih=>
  intro x hx hd i z hz
  have ab:x∈N:=by
   rcases hx with rfl|hx
   ·rw[fnd_out h.len h.zero] at hd;simp[Ys] at hd
   exact hx
  have e:=h.hgt x ab;have h0:=(Ux h.heads (fnd x N T).1 N).1;have hl:=pth_length N T (fnd x N T).1;rw[h.pth_step ab,List.getElem?_append] at hz;split at hz
  ·exact ih _ (h.par x ab) (by omega) i z hz
  next q=>
  have⟨af,hz⟩:=cD.1 hz;simp only[bX,List.length_nil] at af;have hi:i=(Y5 N T (fnd x N T).1).length:=(by omega);have ag:x=z:=(by simpa using hz);subst ag;exact⟨ab,by omega⟩
theorem TrOk.pth_in{N T}(h:TrOk N T){x:Int}(hx:x=0\/x∈N){i:Nat}{z:Int}(hz:(Y5 N T x)[i]? = dJ z):z∈N/\(fnd z N T).2.1=i+1:=h.pth_at _ x hx rfl i z hz
theorem TrOk.pth_nd{N T}(h:TrOk N T){x:Int}(hx:x=0\/x∈N):(Y5 N T x).Nodup:=by rw[List.nodup_iff_pairwise_ne,List.pairwise_iff_getElem];intro i j hi hj ac e;have h1:=(h.pth_in hx (bQ hi)).2;have h2:=(h.pth_in hx (bQ hj)).2;rw[e] at h1;omega
theorem TrOk.pth_sub{N T}(h:TrOk N T){x:Int}(hx:x=0\/x∈N):∀ z∈Y5 N T x,z∈N:=by intro z hz;obtain⟨i,hi,rfl⟩:=List.getElem_of_mem hz;exact (h.pth_in hx (bQ hi)).1
def Vu(P:List Int)(s:Int):List Int->List Zk->Int
 | x :: N,b :: T=>Vu P (if decide (x∈P)=true then s+b.2.2.1 else s) N T
 | _,_=>s
theorem Zrn(P)(s:Int)(N:List Int)(T:List Zk)(k:Nat)(h:k<N.length)(h':k<T.length):Vu P s (N.drop k) (T.drop k)=Vu P (if decide (N[k]∈P)=true then s+T[k].2.2.1 else s) (N.drop (k+1)) (T.drop (k+1)):=by rw[aL h,aL h'];rfl
theorem Znd(P)(s:Int)(N:List Int)(T:List Zk)(k:Nat)(h:N.length<=k):Vu P s (N.drop k) (T.drop k)=s:=by rw[bB h];unfold Vu;rfl
theorem Ga(P):∀ (N:List Int) (T:List Zk) (s t:Int),Vu P (s+t) N T=Vu P s N T+t
 | [],_,_,_=>by simp[Vu]
 | _ :: _,[],_,_=>by simp[Vu]
 | x :: N,b :: T,s,t=>by
  simp only[Vu];split
  ·rw[show s+t+b.2.2.1=s+b.2.2.1+t by omega];exact Ga P N T _ t
  exact Ga P N T s t
theorem Znc:∀ (N:List Int) (T:List Zk) (s:Int),Vu [] s N T=s
 | [],_,_=>by simp[Vu]
 | _ :: _,[],_=>by simp[Vu]
 | x :: N,b :: T,s=>by
  simp only[Vu];rw[if_neg (by simp)];exact Znc N T s
theorem Zhb{x:Int}{Q}:∀ (N:List Int) (T:List Zk) (s:Int),x∉N->Vu (x :: Q) s N T=Vu Q s N T
 | [],_,_,_=>by simp[Vu]
 | _ :: _,[],_,_=>by simp[Vu]
 | a :: N,b :: T,s,h=>by
  simp only[aY,not_or] at h;simp only[Vu];rw[show decide (a∈x :: Q)=decide (a∈Q) by simp[Ne.symm h.1]];exact Zhb N T _ h.2
theorem Zhc{x:Int}{Q}:∀ (N:List Int) (T:List Zk) (s:Int),N.Nodup->N.length=T.length->x∈N->x∉Q->Vu (x :: Q) s N T=Vu Q s N T+(fnd x N T).2.2.1
 | [],_,_,_,_,h,_=>by cases h
 | _ :: _,[],_,_,h,_,_=>by cases h
 | a :: N,b :: T,s,hd,hl,hx,hq=>by
  rw[List.nodup_cons] at hd;simp only[Vu,fnd];by_cases e:x=a
  ·subst e;rw[if_pos (by simp),if_neg (by simp[hq]),if_pos rfl,Zhb N T _ hd.1,Ga]
  rw[if_neg e,show decide (a∈x :: Q)=decide (a∈Q) by simp[Ne.symm e]];exact Zhc N T _ hd.2 (by simpa using hl) (by simpa[e] using hx) hq
theorem Zha{N:List Int}{T:List Zk}(hd:N.Nodup)(hl:N.length=T.length):∀ (P:List Int) (s:Int),P.Nodup->(∀ z∈P,z∈N)->Vu P s N T=Vw N T s P
 | [],s,_,_=>Znc N T s
 | x :: P,s,hn,hs=>by
  rw[List.nodup_cons] at hn;rw[Zhc N T s hd hl (hs x (by simp)) hn.1,<-Ga];exact Zha hd hl P _ hn.2 (λz hz=>hs z (by simp[hz]))
theorem TrOk.rw_wrk{N T}(h:TrOk N T){x:Int}(hx:x=0\/x∈N):Vu (Y5 N T x) 0 N T=Xu N T x:=Zha h.nd h.len _ 0 (h.pth_nd hx) (h.pth_sub hx)
def Ll(W:Int->Int)(b:Int):List Int->Int
 | []=>b
 | x :: S=>Ll W (if b=0\/W b<W x then x else b) S
theorem Zrr(W:Int->Int)(b:Int)(S:List Int)(k:Nat)(h:k<S.length):Ll W b (S.drop k)=Ll W (if b=0\/W b<W S[k] then S[k] else b) (S.drop (k+1)):=by rw[aL h];rfl
theorem Znr(W:Int->Int)(b:Int)(S:List Int)(k:Nat)(h:S.length<=k):Ll W b (S.drop k)=b:=by rw[bB h];rfl
def Zgq(W:Int->Int)(D:List Int)(b:Int):Prop:=(D=[]/\b=0)\/(b∈D/\∀ y∈D,W y<W b\/W y=W b/\b<=y)
theorem Zhd(W:Int->Int):∀ (S D:List Int) (b:Int),Zgq W D b->S.Pairwise (· <= ·)->(∀ d∈D,∀ x∈S,d<=x)->(∀ d∈D,d≠0)->(∀ x∈S,x≠0)->Zgq W (D++S) (Ll W b S)
 | [],D,b,h,_,_,_,_=>by simpa[Ll] using h
 | x :: S,D,b,h,hp,hd,hD,hS=>by
  rw[List.pairwise_cons] at hp;have hx:=hS x (by simp)
  have ad:Zgq W (D++[x]) (if b=0\/W b<W x then x else b):=by
   rcases h with ⟨rfl,rfl⟩|⟨h1,h2⟩
   ·rw[if_pos (.inl rfl)];exact .inr ⟨by simp,λy hy=>.inr (by simp at hy;subst hy;exact⟨rfl,Int.le_refl _⟩)⟩
   have hb:=hD b h1;have ae:=hd b h1 x (by simp);by_cases q:W b<W x
   ·rw[if_pos (.inr q)];refine .inr ⟨by simp,λy hy=>?_⟩
    rcases bN.1 hy with hy|hy
    ·have:=h2 y hy;omega
    simp at hy;subst hy;exact .inr ⟨rfl,Int.le_refl _⟩
   rw[if_neg (λe=>e.elim hb q)];refine .inr ⟨by simp[h1],λy hy=>?_⟩
   rcases bN.1 hy with hy|hy
   ·exact h2 y hy
   simp at hy;subst hy;omega
  have:=Zhd W S (D++[x]) _ ad hp.2 (λd aa y hy=>by
    rcases bN.1 aa with q|q
    ·exact hd d q y (by simp[hy])
    ·simp at q;subst q;exact hp.1 y hy) (λd aa=>by
    rcases bN.1 aa with q|q
    ·exact hD d q
    simp at q;subst q;exact hx) (λy hy=>hS y (by simp[hy]))
  rw[List.append_assoc] at this;exact this
def srt(N:List Int):List Int:=N.mergeSort λx y=>decide (x<=y)
theorem Mh(N):(srt N).Perm N:=List.mergeSort_perm _ _
theorem Ls(N:List Int):(srt N).length=N.length:=(Mh N).length_eq
theorem Zdt(N):(srt N).Pairwise (· <= ·):=by have:=List.pairwise_mergeSort (le:=λx y:Int=>decide (x<=y)) (λa b c h1 h2=>by simp at h1 h2 ⊢;omega) (λa b=>by simp;omega) N;exact this.imp (λh=>by simpa using h)
theorem TrOk.best_rb{N T}(h:TrOk N T):Ll (Xu N T) 0 (srt N)=bstGo N T 0 0 N:=by have hm:∀ x,x∈srt N↔x∈N:=λx=>(Mh N).mem_iff;have hb:=Zhd (Xu N T) (srt N) [] 0 (.inl ⟨rfl,rfl⟩) (Zdt N) (λd hd=>by cases hd) (λd hd=>by cases hd) (λx hx=>by have:=(h.nm x ((hm x).1 hx)).1;omega);have⟨h1,h2⟩:=best_max h;simp only[List.nil_append] at hb;rcases hb with ⟨e,e0⟩|⟨b1,b2⟩;{rw[e0];have hl:=Ls N;rw[e] at hl;have:N=[]:=aJ.1 hl.symm;subst this;rfl};have r:=h2 _ ((hm _).1 b1);have hp:=h.wrk_pos ((hm _).1 b1);rcases h1 with e|e;{rw[e,h.wrk_zero] at r;omega};have q:=b2 _ ((hm _).2 e);omega
end Tr
open Go.RowKit
open Tr (fnd Y5 chkTr TrOk blockE)
def Un(K:List ByteArray)(N:List Int)(T:List Zk):List Int->List Zi->Int×List Zi
 | [],C=>(0,C)
 | x :: R,C=>if (Xk K C (fnd x N T)).1≠0 then ((Xk K C (fnd x N T)).1,[]) else Un K N T R (Xk K C (fnd x N T)).2.1
theorem Zrp{K N T}{P:List Int}{j:Nat}(hj:j<P.length)(C) : Un K N T (P.drop j) C=if (Xk K C (fnd P[j] N T)).1≠0 then ((Xk K C (fnd P[j] N T)).1,[]) else Un K N T (P.drop (j+1)) (Xk K C (fnd P[j] N T)).2.1:=by rw[aL hj];rfl
theorem Dl{K C M}{b:Zk}{S}(h:Xk K C b=(0,M,S)):Zv M:=by unfold Xk at h;split at h;{rename_i q;injection h with h _;exact absurd h q};rename_i q;exact Ht _ _ _ _ _ _ h (Zbq (bE.1 q)).1
theorem Mn{K N T}:∀ (P:List Int) (C M:List Zi),Zv C->Un K N T P C=(0,M)->Zv M
 | [],C,M,h,e=>by injection e with _ e;exact e ▸ h
 | x :: P,C,M,h,e=>by
  rw[Un] at e;split at e
  ·rename_i q;injection e with e _;exact absurd e q
  rename_i q;exact Mn P _ M (Dl (S:=(Xk K C (fnd x N T)).2.2) (Prod.ext (bE.1 q) rfl)) e
theorem Gr.row{w w1:World}{S:Nat->Prop}(h:Gr w w1 S){g:Nat}(hg:S g\/w.heap.size<=g)(cs):Gr w (w1.setRow g cs) S:=
 ⟨h.os,h.tape,h.output,by rw[setRow_size];exact h.size,λi hi hn=>(setRow_other w1 g i cs (λe=>by
  subst e
  rcases hg with q|q
  ·exact hn q
  omega)).trans (h.block i hi hn)⟩
section
section
variable {P : Program}
end
end
theorem tk{P:Program}{ops}{Q:Exit->Act->World->Prop}{md:Region.Mode}{S:World->Prop}(i:Nat)(oi:Oper)(v){fuel:Nat}{listed:Array Bool}{a:Act}{w}(hi:ops[i]? = dJ oi)
  (hy:∀ w,S w->(execOp a.eval oi).run P w = .ok (.value v) w) (hS:S w) (h:wpAnyH P md ops Q S fuel (listed.setIfInBounds i true) (a.put oi.dst v) w)
  (hQ:∀ c a w,Q (.panic c) (a.put oi.dst v) w->Q (.panic c) a w:=by exact λ_ _ _ h=>h) (hw:cG oi (yielded ops a.tmps)=true:=by rfl)
  (hs:Region.noSelect ops=true:=by kernel_rfl) (hf:Region.free md ops listed i=true:=by kernel_rfl) (hr:(Region.ready md ops listed).contains i=true:=by kernel_rfl) :
  wpAnyH P md ops Q S (fuel+1) listed a w:=wpAnyH_take hi hs hf hr hQ (Or.inl ⟨hw,hy⟩) hS h
theorem T9{ops:Array Oper}{i:Nat}{o:Oper}{r}(h:ops.toList.drop i=o :: r):ops[i]? = dJ o:=by
 have:(ops.toList.drop i)[0]? = dJ o:=by rw[h];rfl
 rw[List.getElem?_drop] at this;simpa using this
theorem tkL{P:Program}{ops:Array Oper}{Q:Exit->Act->World->Prop}{md:Region.Mode}{S:World->Prop}(i:Nat){v}{fuel:Nat}{l l':Array Bool}{a a':Act}{w}{o:Oper}{r}(h:wpAnyH P md ops Q S fuel l' a' w)(hi:ops.toList.drop i=o :: r:=by rfl)(hS:S w:=by assumption) (hy:∀ w,S w->(execOp a.eval o).run P w = .ok (.value v) w:=by (intro U aa;(try dsimp only at aa);(try simp only[and_assoc] at aa);(repeat (have:=aa.1;replace aa:=aa.2));(try simp only[Go.Act.put,ZA,ZB,ZC]);go_simp;first|done|with_reducible rfl)) (ha:a.put o.dst v=a':=by ((try simp only[Go.Act.put,ZA,ZB,ZC]);rfl)) (hl:l.setIfInBounds i true=l':=by ((try simp only[ZA,ZB,ZC]);rfl)) (hQ:∀ c a w,Q (.panic c) (a.put o.dst v) w->Q (.panic c) a w:=by exact λ_ _ _ h=>h) (hw:cG o (yielded ops a.tmps)=true:=by rfl) (hs:Region.noSelect ops=true:=by kernel_rfl) (hf:Region.free md ops l i=true:=by kernel_rfl) (hr:(Region.ready md ops l).contains i=true:=by kernel_rfl) : wpAnyH P md ops Q S (fuel+1) l a w:=by subst ha hl;exact tk i o v (T9 hi) hy hS h hQ hw hs hf hr
theorem tkU{P:Program}{ops:Array Oper}{Q:Exit->Act->World->Prop}{md:Region.Mode}{S:World->Prop}(i:Nat){fuel:Nat}{l l':Array Bool}{a a':Act}{w}{o:Oper}{r}(hi:ops.toList.drop i=o :: r)(hS:S w)(h:wpAnyH P md ops Q S fuel l' a' w) (ha:a.put o.dst undef=a':=by ((try simp only[Go.Act.put,ZA,ZB,ZC]);rfl)) (hl:l.setIfInBounds i true=l':=by ((try simp only[ZA,ZB,ZC]);rfl)) (hQ:∀ c a w,Q (.panic c) (a.put o.dst undef) w->Q (.panic c) a w:=by exact λ_ _ _ h=>h) (hw:cG o (yielded ops a.tmps)=false:=by rfl) (hs:Region.noSelect ops=true:=by kernel_rfl) (hf:Region.free md ops l i=true:=by kernel_rfl) (hr:(Region.ready md ops l).contains i=true:=by kernel_rfl) : wpAnyH P md ops Q S (fuel+1) l a w:=by subst ha hl;exact wpAnyH_take (T9 hi) hs hf hr hQ (Or.inr ⟨hw,rfl⟩) hS h
theorem rdY{P:Program}{ops:Array Oper}{Q:Exit->Act->World->Prop}{md:Region.Mode}{S:World->Prop}(i:Nat){fuel:Nat}{l:Array Bool}{a:Act}{w}{o:Oper}{r}(hi:ops.toList.drop i=o :: r)
  (h:∀ K':Act->World->Prop,Shut (∀ a w,S w->(S w->wpAnyH P md ops Q S fuel (l.setIfInBounds i true) a w)->K' a w)->if cG o (yielded ops a.tmps)=true then Oper.wp P o a w K' Q else K' (a.put o.dst undef) w)
  (hr:Region.ready md ops l=[i]:=by kernel_rfl):wpAnyH P md ops Q S (fuel+1) l a w:=wpAnyH_ready hr (by simp) (AllReadyH.cons (T9 hi) h AllReadyH.nil)
theorem rdC{P:Program}{ops:Array Oper}{Q:Exit->Act->World->Prop}{md:Region.Mode}{S:World->Prop}{i fuel:Nat}{l:Array Bool}{a:Act}{w}{o:Oper}{r rs}(hi:ops.toList.drop i=o :: r)
  (h:∀ K':Act->World->Prop,Shut (∀ a w,S w->(S w->wpAnyH P md ops Q S fuel (l.setIfInBounds i true) a w)->K' a w)->if cG o (yielded ops a.tmps)=true then Oper.wp P o a w K' Q else K' (a.put o.dst undef) w)
  (hs:AllReadyH P md ops Q S fuel l a w rs):AllReadyH P md ops Q S fuel l a w (i :: rs):=AllReadyH.cons (T9 hi) h hs
theorem rdS{P:Program}{ops:Array Oper}{Q:Exit->Act->World->Prop}{md:Region.Mode}{S:World->Prop}(i:Nat){fuel:Nat}{l:Array Bool}{a:Act}{w}{o:Oper}{r}(hi:ops.toList.drop i=o :: r){f:FuncId}{vs}{R:Ending->World->Prop}(hc:Calls P f vs w R)
  (h:∀ e w',R e w'->∃ v,e = dE v/\S w'/\(S w'->wpAnyH P md ops Q S fuel (l.setIfInBounds i true) (a.put o.dst v) w')) (he:(execOp a.eval o).run P w = .ok (.enter f vs) w:=by kernel_rfl) (hw:cG o (yielded ops a.tmps)=true:=by kernel_rfl) (hr:Region.ready md ops l=[i]:=by kernel_rfl):wpAnyH P md ops Q S (fuel+1) l a w:=
 rdY i hi (λ_ hK=>Yo hw f vs he hc (λe w' q=>by
  have⟨v,h1,h2,h3⟩:=h e w' q;exact⟨v,h1,hK.out _ _ h2 h3⟩)) hr
section
section
variable {P : Program} {ops : Array Oper} {Q : Exit -> Act -> World -> Prop} {md : Region.Mode} {S : World -> Prop} {fuel : Nat} {l l' : Array Bool} {a a' : Act} {w : World} {o : Oper} {r : List Oper} {rs : List Nat}
theorem rdA(rs)(hr:Region.ready md ops l=rs)(h:AllReadyH P md ops Q S fuel l a w rs)(hn:rs≠[]:=by simp):wpAnyH P md ops Q S (fuel+1) l a w:=wpAnyH_ready hr hn h
theorem gk(i:Nat)(hr:(Region.ready md ops l).contains i=true)(h:wpAnyH P md ops Q S fuel l a w):wpAnyH P md ops Q S fuel l a w:=id (λ_=>h) hr
theorem gd(i:Nat)(h:AllReadyH P md ops Q S fuel l a w (i :: rs)):AllReadyH P md ops Q S fuel l a w (i :: rs):=h
theorem rdV(i:Nat){v}{C:Prop}(hi:ops.toList.drop i=o :: r)(hC:C)(hS:S w)(h:S w->wpAnyH P md ops Q S fuel l' a' w)(hs:AllReadyH P md ops Q S fuel l a w rs)
  (hy:C->(execOp a.eval o).run P w = .ok (.value v) w:=by (intro hC;(try dsimp only at hC);(try simp only[and_assoc] at hC);(repeat (have:=hC.1;replace hC:=hC.2));(try simp only[Go.Act.put,ZA,ZB,ZC]);go_simp;first|done|with_reducible rfl))
  (ha:a.put o.dst v=a':=by ((try simp only[Go.Act.put,ZA,ZB,ZC]);rfl)) (hl:l.setIfInBounds i true=l':=by ((try simp only[ZA,ZB,ZC]);rfl))
  (hw:cG o (yielded ops a.tmps)=true:=by kernel_rfl):AllReadyH P md ops Q S fuel l a w (i :: rs):=
 rdC hi (λK' hK=>by
  rw[if_pos hw];subst ha hl;unfold Oper.wp;rw[hy hC,Oper.upon_value];exact hK.out _ _ hS h) hs
theorem rdX(i:Nat){v}{f:FuncId}{vs}(hi:ops.toList.drop i=o :: r)(hc:Calls P f vs w λe w'=>e = dE v/\ZD w w')(h:∀ w',ZD w w'->S w'/\(S w'->wpAnyH P md ops Q S fuel l' a' w'))(hs:AllReadyH P md ops Q S fuel l a w rs)
  (he:(execOp a.eval o).run P w = .ok (.enter f vs) w:=by kernel_rfl)
  (ha:a.put o.dst v=a':=by ((try simp only[Go.Act.put,ZA,ZB,ZC]);rfl)) (hl:l.setIfInBounds i true=l':=by ((try simp only[ZA,ZB,ZC]);rfl))
  (hw:cG o (yielded ops a.tmps)=true:=by kernel_rfl):AllReadyH P md ops Q S fuel l a w (i :: rs):=
 rdC hi (λK' hK=>Yo hw f vs he hc (λe w' q=>by
  subst ha hl;exact⟨v,q.1,hK.out _ _ (h w' q.2).1 (h w' q.2).2⟩)) hs
theorem rdG(i:Nat){f:FuncId}{vs}{R:Ending->World->Prop}(hi:ops.toList.drop i=o :: r)(hc:Calls P f vs w R)(h:∀ e w',R e w'->∃ v,e = dE v/\S w'/\(S w'->wpAnyH P md ops Q S fuel (l.setIfInBounds i true) (a.put o.dst v) w'))(hs:AllReadyH P md ops Q S fuel l a w rs)
  (he:(execOp a.eval o).run P w = .ok (.enter f vs) w:=by kernel_rfl) (hw:cG o (yielded ops a.tmps)=true:=by kernel_rfl):AllReadyH P md ops Q S fuel l a w (i :: rs):=
 rdC hi (λK' hK=>Yo hw f vs he hc (λe w' q=>by
  have⟨v,h1,h2,h3⟩:=h e w' q;exact⟨v,h1,hK.out _ _ h2 h3⟩)) hs
theorem rdN(i:Nat){cs}{t:TypeId}(hi:ops.toList.drop i=o :: r)(h:∀ u V,ZD w V->V.heap[u]? = dJ (dC cs t (0,0))->w.heap.size=u->S V/\(S V->wpAnyH P md ops Q S fuel (l.setIfInBounds i true) (a.put o.dst (dG (dJ ⟨u,0,aD⟩))) V))(hs:AllReadyH P md ops Q S fuel l a w rs)
  (hy:(execOp a.eval o).run P w = .ok (.value (dG (dJ ⟨w.heap.size,0,aD⟩))) (w.alloc (dC cs t)):=by ((try simp only[Go.Act.put,ZA,ZB,ZC]);go_simp;first|done|with_reducible rfl)) (hw:cG o (yielded ops a.tmps)=true:=by kernel_rfl):AllReadyH P md ops Q S fuel l a w (i :: rs):=
 rdC hi (λK' hK=>by
  have⟨h1,h2⟩:=h w.heap.size _ (Zh w (dC cs t)) (aM _ _) rfl;rw[if_pos hw];unfold Oper.wp;rw[hy,Oper.upon_value];exact hK.out _ _ h1 h2) hs
end
end
open Bk (Right nm nameR)
def doD(h:Int)(s:List ByteArray×List Zi)(t:TxD):Int×List ByteArray×List Zi:=
 if Zq t≠0 then (Zq t,s) else if t.2.1.length=0 then (4,s) else
 if (nameR s.1 (txT t)).2.2≠0 then ((nameR s.1 (txT t)).2.2,s) else
 if (apD s.2 t (nameR s.1 (txT t)).2.1 h).1≠0 then ((apD s.2 t (nameR s.1 (txT t)).2.1 h).1,s) else
 (0,(nameR s.1 (txT t)).1,(apD s.2 t (nameR s.1 (txT t)).2.1 h).2.1)
def Z7(h:Int):List TxD->List ByteArray×List Zi->List TxD×List ByteArray×List Zi
 | [],s=>([],s)
 | t :: l,s=>if (doD h s t).1=0 then (t :: (Z7 h l (doD h s t).2).1,(Z7 h l (doD h s t).2).2) else Z7 h l s
theorem Zfb{K}{s:ByteArray}(hK:Right K)(h0:(nameR K s).2.2=0):Right (nameR K s).1/\(∃ M,(nameR K s).1=K++M)/\∀ M,Right ((nameR K s).1++M)->nameR ((nameR K s).1++M) s=((nameR K s).1++M,(nameR K s).2.1,0):=by have e:nameR K s=nm K s:=(by unfold nameR;rw[if_pos ((Bk.right_iff K).2 hK)]);rw[e] at h0 ⊢;refine⟨Bk.nm_right hK h0,Bk.nm_grows h0,λM hM=>?_⟩;have⟨h1,h2,h3⟩:=Bk.nm_place h0;have e2:nameR ((nm K s).1++M) s=nm ((nm K s).1++M) s:=(by unfold nameR;rw[if_pos ((Bk.right_iff _).2 hM)]);have h4:=Bk.place_stays M h2;rw[e2,Bk.nm_there h3 (by rw[h4];exact h2),h4,h1]
theorem Zcn{h:Int}{K C t}(hK:Right K)(h0:(doD h (K,C) t).1=0) : Right (doD h (K,C) t).2.1/\(∃ M,(doD h (K,C) t).2.1=K++M)/\∀ M,Right ((doD h (K,C) t).2.1++M)->doD h ((doD h (K,C) t).2.1++M,C) t=(0,(doD h (K,C) t).2.1++M,(doD h (K,C) t).2.2):=by by_cases q1:Zq t≠0;{unfold doD at h0;rw[if_pos q1] at h0;exact absurd h0 q1};by_cases q2:t.2.1.length=0;{unfold doD at h0;rw[if_neg q1,if_pos q2] at h0;exact absurd (show (4:Int)=0 from h0) (by decide)};by_cases q3:(nameR K (txT t)).2.2≠0;{unfold doD at h0;rw[if_neg q1,if_neg q2,if_pos q3] at h0;exact absurd h0 q3};by_cases q4:(apD C t (nameR K (txT t)).2.1 h).1≠0;{unfold doD at h0;rw[if_neg q1,if_neg q2,if_neg q3,if_pos q4] at h0;exact absurd h0 q4};have e:doD h (K,C) t=(0,(nameR K (txT t)).1,(apD C t (nameR K (txT t)).2.1 h).2.1):=(by unfold doD;rw[if_neg q1,if_neg q2,if_neg q3,if_neg q4]);have⟨n1,n2,n3⟩:=Zfb hK (bE.1 q3);rw[e];refine⟨n1,n2,λM hM=>?_⟩;have e2:=n3 M hM;unfold doD;rw[if_neg q1,if_neg q2];simp only;rw[e2];simp only;rw[if_neg (λr=>r rfl),if_neg q4]
theorem Py{h:Int}:∀ (l:List TxD) (K:List ByteArray) (C:List Zi),Right K->Right (Z7 h l (K,C)).2.1/\∃ M,(Z7 h l (K,C)).2.1=K++M
 | [],K,C,hK=>⟨hK,[],by simp[Z7]⟩
 | t :: l,K,C,hK=>by
  rw[Z7];by_cases q:(doD h (K,C) t).1=0
  ·rw[if_pos q];obtain⟨d1,⟨M,d2⟩,_⟩:=Zcn hK q;obtain⟨s1,M2,s2⟩:=Py l (doD h (K,C) t).2.1 (doD h (K,C) t).2.2 d1;exact⟨s1,M++M2,by rw[s2,d2,List.append_assoc]⟩
  rw[if_neg q];exact Py l K C hK
open Go.RowKit Go.Shelf
attribute [local go_sem] Oper.semAt_some
structure KpD(n1 b c:Nat)(W W':World):Prop where
 os:W'.os=W.os
 tape:W'.tape=W.tape
 output:W'.output=W.output
 size:W.heap.size<=W'.heap.size
 block:∀ k,k<n1->k≠b->k≠c->W'.heap[k]? = W.heap[k]?
theorem KpD.refl(n1 b c:Nat)(W):KpD n1 b c W W:=⟨rfl,rfl,rfl,aF _,λ_ _ _ _=>rfl⟩
theorem KpD.trans{n1 b c:Nat}{A B C}(h:KpD n1 b c A B)(k:KpD n1 b c B C):KpD n1 b c A C:=⟨k.os.trans h.os,k.tape.trans h.tape,k.output.trans h.output,aR h.size k.size,λi h1 h2 h3=>(k.block i h1 h2 h3).trans (h.block i h1 h2 h3)⟩
theorem KpD.put{n1 b c:Nat}(W:World)(l:Nat)(o:Obj)(h:n1<=l):KpD n1 b c W (W.putObj l o):=⟨rfl,rfl,rfl,by simp,λk hk _ _=>World.putObj_heap_other (by omega)⟩
theorem KpD.set{n1 b c:Nat}{W W':World}(h:KpD n1 b c W W'){p:Addr}(hp:p.block=b\/p.block=c)(u):KpD n1 b c W (W'.setCell p u):=⟨h.os,h.tape,h.output,by simpa[World.setCell] using h.size,λk h1 h2 h3=>(Below.heap_setCell W' p u k (λe=>by subst e;rcases hp with q|q;exact h2 q;exact h3 q)).trans (h.block k h1 h2 h3)⟩
theorem KpD.on{n1 b c:Nat}{W W1 W2:World}(h:KpD n1 b c W W1)(hb:ZD W1 W2)(hn:n1<=W1.heap.size):KpD n1 b c W W2:=⟨hb.os.trans h.os,hb.tape.trans h.tape,hb.output.trans h.output,aR h.size hb.size,λk h1 h2 h3=>(hb.block k (by omega)).trans (h.block k h1 h2 h3)⟩
theorem KpD.grown{n1 b c:Nat}{W W1 W2:World}(h:KpD n1 b c W W1){row:Option Nat}(g:W1.grownBy W2 row)(hr:∀ r,row=dJ r->n1<=r)(hn:n1<=W1.heap.size):KpD n1 b c W W2:=⟨g.os.trans h.os,g.tape.trans h.tape,g.output.trans h.output,aR h.size g.size,λk h1 h2 h3=>(g.block k (by omega) (λe=>by have:=hr k e.symm;omega)).trans (h.block k h1 h2 h3)⟩
theorem KpD.below{n1 b c:Nat}{w W0 W:World}(h:KpD n1 b c W0 W)(hb:ZD w W0)(hn:w.heap.size<=n1)(h1:w.heap.size<=b)(h2:w.heap.size<=c):ZD w W:=⟨h.os.trans hb.os,h.tape.trans hb.tape,h.output.trans hb.output,aR hb.size h.size,λk hk=>(h.block k (by omega) (by omega) (by omega)).trans (hb.block k hk)⟩
theorem KpD.cell{n1 b c:Nat}{W W':World}(h:KpD n1 b c W W'){k o:Nat}{v}(hk:k<n1)(h2:k≠b)(h3:k≠c)(hv:dV W k o v):dV W' k o v:=(bO (a:=⟨k,o,aD⟩) (h.block k hk h2 h3)).trans hv
def Box1(W:World)(k:Nat):Prop:=∃ v t fr,W.heap[k]? = dJ (dC #[v] t fr)
theorem Box1.two{W:World}{k:Nat}(h:Box1 W k){o:Nat}{v}(h2:W.cell? ⟨k,o+1,aD⟩=dJ v):False:=by have⟨x,t,fr,hx⟩:=h;rw[cell_of_row W k (o+1) #[x] t fr hx] at h2;simp at h2
theorem Zsc{W W':World}{S:Nat->Prop}(hk:∀ k,k<W.heap.size->¬S k->W'.heap[k]? = W.heap[k]?)(hB:∀ k,S k->Box1 W k){a n l}(h:OpsAt W a n l):OpsAt W' a n l:=by refine⟨h.1,λh0=>?_⟩;obtain⟨b,off,rfl,hc⟩:=h.2 h0;refine⟨b,off,rfl,λi hi=>?_⟩;have⟨c0,c1⟩:=hc i hi;have e:=hk b (aC _ _ c0) (λq=>(hB b q).two c1);exact⟨(bO (a:=⟨b,_,aD⟩) e).trans c0,(bO (a:=⟨b,_,aD⟩) e).trans c1⟩
theorem Zkz{W W':World}{S:Nat->Prop}(hs:W.heap.size<=W'.heap.size)(hk:∀ k,k<W.heap.size->¬S k->W'.heap[k]? = W.heap[k]?)(hB:∀ k,S k->Box1 W k){a n L}(h:CoinsAt W a n L):CoinsAt W' a n L:=by refine⟨h.1,λh0=>?_⟩;obtain⟨b,off,rfl,hl,hc⟩:=h.2 h0;refine⟨b,off,rfl,aE hl hs,λi hi=>?_⟩;have⟨c0,c1,c2,⟨la,ln,lc,c3,h5,h6⟩,c4,c5⟩:=hc i hi;have e:=hk b hl (λq=>(hB b q).two c1);have g:=λ(o:Nat)=>bO (a:=⟨b,o,aD⟩) e;exact⟨(g _).trans c0,(g _).trans c1,(g _).trans c2,⟨la,ln,lc,(g _).trans c3,Zsc hk hB h5,h6⟩,(g _).trans c4,(g _).trans c5⟩
end Go.Proofs.YtnkcjkcbfbpckaaGreatDoor
namespace Go.Proofs.YtnkcjkcbfbpckaaGreatDoor
open Go.RowKit Go.Shelf
def R7(K:List ByteArray)(C:List Zi)(h:Int):Int:=
 if Bk.bkChk K≠0 then Bk.bkChk K else if Zz C≠0 then Zz C else if (decide (1<=h) && decide (h<=1000))=false then 3 else 0
def Zqs(w:World)(p:Nat)(K:List ByteArray)(C:List Zi)(h:Int):Prop:=
 ∃ ka kn kc la ln lc,w.heap[p]? = dJ (dC #[F ka kn kc,F la ln lc,E J h] 167 (0,0))/\Bk.TextsAt w ka kn K/\SlOk ka kn kc/\CoinsAt w la ln C/\SlOk la ln lc
def DoT(w':World)(B p:Nat)(K:List ByteArray)(C:List Zi)(h:Int):Prop:=
 ∃ ka kn kc la ln lc,w'.heap[p]? = dJ (dC [F ka kn kc,F la ln lc,E J h].toArray 167 (0,0))/\Fresh B w' (λw2=>Bk.TextsAt w2 ka kn K/\CoinsAt w2 la ln C)/\SlOk ka kn kc/\SlOk la ln lc
theorem DoT.till{w}{B p:Nat}{K C}{h:Int}(d:DoT w B p K C h):Zqs w p K C h:=by have⟨ka,kn,kc,la,ln,lc,h1,h2,h3,h4⟩:=d;have h5:=h2 w (Gr.refl _ _);exact⟨ka,kn,kc,la,ln,lc,h1,h5.1,h3,h5.2,h4⟩
theorem DoT.on{w w':World}{B p:Nat}{K C}{h:Int}(d:DoT w B p K C h)(g:Gr w w' (λq=>q<B))(hp:w'.heap[p]? = w.heap[p]?):DoT w' B p K C h:=by have⟨ka,kn,kc,la,ln,lc,h1,h2,h3,h4⟩:=d;exact⟨ka,kn,kc,la,ln,lc,hp.trans h1,λw2 g2=>h2 w2 (g.trans g2),h3,h4⟩
theorem DoT.later{w w':World}{B p:Nat}{K C}{h:Int}(d:DoT w B p K C h)(hb:ZD w w'):DoT w' B p K C h:=by have hp:p<w.heap.size:=(by have⟨ka,kn,kc,la,ln,lc,h1,_⟩:=d;exact aA h1);exact d.on (Gr.of hb) (hb.block p hp)
theorem DoT.less{w}{B B' p:Nat}{K C}{h:Int}(d:DoT w B p K C h)(hB:B'<=B):DoT w B' p K C h:=by have⟨ka,kn,kc,la,ln,lc,h1,h2,h3,h4⟩:=d;exact⟨ka,kn,kc,la,ln,lc,h1,λw2 g2=>h2 w2 (g2.mono λ_ _ q=>aE q hB),h3,h4⟩
def OpR(w w':World)(x:Int)(K:List ByteArray)(C:List Zi)(h:Int)(e:Ending):Prop:=
 ((x≠0/\e = dE (dF #[dG aD,E J x]))\/(x=0/\∃ p,e = dE (dF #[dG (dJ ⟨p,0,aD⟩),E J 0])/\w.heap.size<=p/\p+1=w'.heap.size/\DoT w' w.heap.size p K C h))/\ZD w w'
theorem Zny(ka kn kc K la ln lc C)(h x:Int)(w)(hK:Bk.TextsAt w ka kn K)(hC:CoinsAt w la ln C)(sC:SlOk la ln lc)(hx:R7 K C h=x) : Calls Tryz.prog 132 #[.agg #[F ka kn kc],F la ln lc,E J h] w λe w'=>OpR w w' x K C h e:=by have⟨X,hX,ax,bj⟩:=ka00 w [F ka kn kc] 24;have⟨⟨M,Z,z⟩,hz⟩:=ZF (Bk.allR K []);have C1:=Zb (Bk.all_isF ka aD kn kc 0 0 K [] M Z z X (hK.later ax) ⟨rfl,λh=>absurd h (by omega)⟩ (by omega) hz);have bs:z=Bk.bkChk K/\(z=0->M=K):=(by unfold Bk.allR at hz;split at hz;{rename_i q;rw[Bk.nmGo] at hz;simp only[Prod.mk.injEq] at hz;exact⟨by rw[<-hz.2.2,q],λ_=>hz.1.symm⟩};rename_i q;simp only[Prod.mk.injEq] at hz;exact⟨hz.2.2.symm,λe=>absurd (hz.2.2.trans e) q⟩);unfold R7 at hx;rw[<-bs.1] at hx;have⟨y,hy⟩:=ZF (Zz C);rw[hy] at hx;have⟨g,hg⟩:=ZF ((decide (1<=h) && decide (h<=1000)));rw[hg] at hx;have⟨HZ,HX,HG,HY,HC,cz,bx,dd⟩:=kh8 bs.2 hx hg hy (hC.later ax) sC ax bj;have⟨di,xl⟩:=kc1 bj;have ca:=Zb xl;clear hK hC sC hx ax bj hz bs hy hg;go_enter func132,ntmps132;go_wp2_with fail;rw[<-hX];clear hX;(try go_wp2_with fail);refine C1.mono ?_;rintro e w1 ⟨⟨a',n',c',a2,n2,c2,rfl,hT,sT,_,_,_⟩,ab⟩;have h10:=ZE ab dd;have⟨y0,yf,yl⟩:=kf1 h10;have⟨W1,aj⟩:=ZG (w1.setCell ⟨w.heap.size,0,aD⟩ (F a' n' c'));have g1:Gr w1 W1 (λq=>q=w.heap.size):=(by rw[aj];exact (Gr.refl w1 (λq=>q=w.heap.size)).set (p:=⟨w.heap.size,0,aD⟩) (.inl rfl) _);have bh:W1.heap[w.heap.size]? = dJ (dC #[F a' n' c'] 24 (0,0)):=(by rw[aj];exact Uj h10);have cf:ZD w W1:=g1.below (Ze bx ab) (Ze bx ab).size (λq e=>by omega);have bz:Hid (CoinsAt W1 la ln C):=Zkz (S:=λq=>q=w.heap.size) g1.size g1.block (λk e=>by subst e;exact⟨_,_,_,h10⟩) (HC.later ab);have db:Hid (Fresh w.heap.size W1 (λw2=>Bk.TextsAt w2 a' n' M)):=λw2 g2=>hT w2 ((g1.mono (λk _ e=>by rw[e];exact ca)).trans (g2.mono (λk _ e=>Nat.lt_trans e ca)));have⟨bw,cu,da⟩:=kh3 cf bh sT;have dn:=Zb (show w.heap.size<W1.heap.size from aA bh);have C2:=Zb (Vy la ln lc C y W1 bz HY);clear ab h10 hT sT g1 bh cf di xl;by_cases bd:z=0;{subst bd;obtain rfl:=HZ rfl;go_wp2_with fail;rw[<-aj];clear aj y0 yf yl;(try go_wp2_with fail);refine dQ C2 λw2 bo=>?_;have⟨bv,ct,C3⟩:=kh3 (Ze bw bo) bo (Jw h 1 1000 g w2 HG);clear bo;by_cases az:y=0;{subst az;go_wp2_with fail;refine dQ C3 λw3 bq=>?_;have⟨ar,bf⟩:=kh2 (Ze bv bq) (Ze ct bq);clear bq C3;cases g;{have ah:Hid (x=3):=(by have:=Za HX;rw[if_neg (λq=>q rfl),if_neg (λq=>q rfl),if_pos rfl] at this;exact this.symm);go_wp2;go_ret2;rw[Za ah];exact⟨.inl ⟨by decide,rfl⟩,Za ar⟩};have ah:Hid (x=0):=(by have:=Za HX;rw[if_neg (λq=>q rfl),if_neg (λq=>q rfl),if_neg (by decide)] at this;exact this.symm);have bi:=(Z5 C).1 HY;have aq:=Za bz;have dg:=aq.1;have dh:=bi.len;have CP:=Zb (λV (hv:ZD W1 V)=>Rj la ln lc C V (by omega) (aq.later hv) cz (λz hz=>by have:=Gw (Yj (bi.one z hz)).2.2.2.2.2.2.2.2;omega));have h3:=ZE bf cu;have KS:Hid (∀ V:World,ZD w3 V->dV V w.heap.size 0 (F a' n' c')/\w.heap.size<V.heap.size):=λV hv=>⟨Zf hv (Zd (X:=[F a' n' c']) h3 0 _ rfl),aE (aA h3) hv.size⟩;clear bi aq dg dh h3;go_wp2_with fail;refine dW KS (Zj _) (λac=>?_);refine tkL 0 ?_;refine tkL 1 ?_;refine tkL 3 ?_;refine rdS 2 rfl (CP _ (Ze bf (Zj _))) ?_;rintro e V1 ⟨du,cc,rfl,hF,cl,ce⟩;have ab:ZD w3 V1:=Ze (Zj w3) ce;have aq:CoinsAt V1 du ln C:=hF _ (Gr.refl _ _);clear ac;refine⟨_,rfl,(KS _ ab),λac=>?_⟩;refine tkL 4 ?_;refine rdY 5 rfl (λKQ hK=>?_);go_simp;have⟨V2,an⟩:=ZG (V1.alloc (dC #[F a' n' c',F du ln cc,E J h] 167));have ap:ZD V1 V2:=(by rw[an];exact Zh _ _);have h2:V2.heap[V1.heap.size]? = dJ (dC #[F a' n' c',F du ln cc,E J h] 167 (0,0)):=(by rw[an];exact aM _ _);have cg:V2.heap.size=V1.heap.size+1:=(by rw[an];simp);rw[<-an];clear ac;refine hK.out _ _ (KS _ (Ze ab ap)) (λac=>?_);clear hK KQ;refine tkL 6 ?_;refine tkL 7 ?_;refine wpAnyH_done (by kernel_rfl) ?_ _;clear ac;have HF:Hid (OpR w V2 0 M C h (dE (dF #[dG (dJ ⟨V1.heap.size,0,aD⟩),E J 0]))):=⟨.inr ⟨rfl,V1.heap.size,rfl,aR ar.size ab.size,cg.symm,a',n',c',du,ln,cc,h2,λw2 g2=>⟨db w2 ((Gr.of (Ze bf (Ze ab ap))).trans g2),hF w2 ((Gr.of ap).trans (g2.mono (λk _ e=>aE e ar.size)))⟩,Za da,cl⟩,Ze ar (Ze ab ap)⟩;clear ap h2 cg an ab aq hF cl ce;go_wp2;go_ret2;rw[Za ah];exact Za HF};have ah:Hid (x=y):=(by have:=Za HX;rw[if_neg (λq=>q rfl),if_pos az] at this;exact this.symm);have gy:=dS az;clear C3;go_wp2;go_ret2;rw[Za ah];exact⟨.inl ⟨az,rfl⟩,Za bv⟩};have ah:Hid (x=z):=(by have:=Za HX;rw[if_pos bd] at this;exact this.symm);have gz:=dS bd;have dc:=Zb aj;clear aj;go_wp2;rw[<-Za dc];go_ret2;rw[Za ah];exact⟨.inl ⟨bd,rfl⟩,Za bw⟩
open Bk (Right nm nameR)
theorem Dg{h:Int}{K K' C C'}{t:TxD}(e:doD h (K,C) t=(0,K',C')) : Zq t=0/\t.2.1.length≠0/\∃ n S,nameR K (txT t)=(K',n,0)/\apD C t n h=(0,C',S):=by unfold doD at e;split at e;{rename_i q;injection e with e _;exact absurd e q};rename_i q1;split at e;{injection e with e _;exact absurd (show (4:Int)=0 from e) (by decide)};rename_i q2;split at e;{rename_i q;injection e with e _;exact absurd e q};rename_i q3;split at e;{rename_i q;injection e with e _;exact absurd e q};rename_i q4;injection e with _ e;injection e with e1 e2;exact⟨bE.1 q1,q2,_,_,Prod.ext e1 (Prod.ext rfl (bE.1 q3)),Prod.ext (bE.1 q4) (Prod.ext e2 rfl)⟩
theorem Dh{h:Int}{K K' C C' t}(hK:Right K)(e:doD h (K,C) t=(0,K',C')) : Right K'/\(∃ M,K'=K++M)/\Zv C'/\Zn C'<=Zn C/\Zq t=0:=by have⟨h1,h2,n,S,h3,h4⟩:=Dg e;have⟨d1,d2,_⟩:=Zcn hK (show (doD h (K,C) t).1=0 by rw[e]);rw[e] at d1 d2;exact⟨d1,d2,(Th h4).2.1,(Zql h4).2 h2,h1⟩
def swT(h:Int):List TxD->List ByteArray×List Zi->List (TxD×List Zi)
 | [],_=>[]
 | t :: l,s=>if (doD h s t).1=0 then (t,(doD h s t).2.2) :: swT h l (doD h s t).2 else swT h l s
def Xg(C:List Zi)(X:List (TxD×List Zi)):List Zi:=(X.getLast?.map (·.2)).getD C
theorem V9(C):Xg C []=C:=rfl
theorem Vf(C X t C'):Xg C (X++[(t,C')])=C':=by simp[Xg]
theorem Nv(C X t C'):Xg C ((t,C') :: X)=Xg C' X:=by cases X with|nil=>rfl|cons y X=>obtain⟨z,hz⟩:∃ z,(y :: X).getLast? = dJ z:=⟨_,List.getLast?_eq_some_getLast (by simp)⟩;unfold Xg;rw[List.getLast?_cons_cons,hz];rfl
theorem Jz(h:Int):∀ (l:List TxD) (s:List ByteArray×List Zi),(swT h l s).map (·.1)=(Z7 h l s).1
 | [],_=>rfl
 | t :: l,s=>by
  rw[swT,Z7];split
  ·rw[List.map_cons,Jz h l]
  exact Jz h l s
theorem Me(h:Int):∀ (l:List TxD) (s:List ByteArray×List Zi),Xg s.2 (swT h l s)=(Z7 h l s).2.2
 | [],_=>rfl
 | t :: l,s=>by
  rw[swT,Z7];split
  ·rw[Nv,Me h l]
  exact Me h l s
theorem Pz(h:Int):∀ (l:List TxD) (s:List ByteArray×List Zi),(swT h l s).length<=l.length
 | [],_=>aF _
 | t :: l,s=>by
  rw[swT];split
  ·rw[bX,bX];exact Nat.succ_le_succ (Pz h l _)
  exact Nat.le_succ_of_le (Pz h l s)
theorem Rv{h:Int}:∀ (l:List TxD) (K:List ByteArray) (C:List Zi),Right K->Zv C->Zv (Z7 h l (K,C)).2.2/\Zn (Z7 h l (K,C)).2.2<=Zn C/\∀ t∈(Z7 h l (K,C)).1,Zq t=0/\t.2.1.length≠0
 | [],K,C,_,hC=>⟨hC,Int.le_refl _,λ_ q=>by cases q⟩
 | t :: l,K,C,hK,hC=>by
  rw[Z7];by_cases q:(doD h (K,C) t).1=0
  ·rw[if_pos q];have e:doD h (K,C) t=(0,(doD h (K,C) t).2.1,(doD h (K,C) t).2.2):=Prod.ext q rfl;have⟨d1,_,d3,d4,d5⟩:=Dh hK e;have⟨s1,s2,s3⟩:=Rv (h:=h) l _ _ d1 d3;refine⟨s1,Int.le_trans s2 d4,λx hx=>?_⟩
   rcases aY.1 hx with rfl|hx
   ·exact⟨d5,(Dg e).2.1⟩
   exact s3 x hx
  rw[if_neg q];exact Rv l K C hK hC
def swE(K:List ByteArray)(C:List Zi)(l:List TxD)(h:Int):Int:=
 if R7 K C h≠0 then R7 K C h else if 8<l.length then 2 else 0
theorem V8{K C}{h:Int}(e:R7 K C h=0):Right K/\Zv C/\1<=h/\h<=1000:=by unfold R7 at e;split at e;{rename_i q;exact absurd e q};rename_i q1;split at e;{rename_i q;exact absurd e q};rename_i q2;split at e;{exact absurd e (by decide)};rename_i q3;simp at q3;exact⟨(Bk.right_iff K).1 (bE.1 q1),(Z5 C).1 (bE.1 q2),q3.1,q3.2⟩
theorem Zbk{K C}{h:Int}(hK:Right K)(hC:Zv C)(h1:1<=h)(h2:h<=1000):R7 K C h=0:=by unfold R7;rw[if_neg (λq=>q ((Bk.right_iff K).2 hK)),if_neg (λq=>q ((Z5 C).2 hC)),if_neg (by simp[h1,h2])]
theorem Qm{K C}{l:List TxD}{h:Int}(e:swE K C l h=0):R7 K C h=0/\l.length<=8:=by unfold swE at e;split at e;{rename_i q;exact absurd e q};rename_i q1;split at e;{exact absurd e (by decide)};exact⟨bE.1 q1,by omega⟩
def acE(K:List ByteArray)(C:List Zi)(l:List TxD)(t:TxD)(h:Int):Int×List ByteArray×List TxD:=
 if swE K C l h≠0 then (swE K C l h,[],[]) else if ((Z7 h l (K,C)).1.any λx=>Wt x t)=true then (6,[],[]) else
 if (doD h (Z7 h l (K,C)).2 t).1≠0 then ((doD h (Z7 h l (K,C)).2 t).1,[],[]) else if (Z7 h l (K,C)).1.length=8 then (12,[],[]) else
 (0,(doD h (Z7 h l (K,C)).2 t).2.1,(Z7 h l (K,C)).1++[t])
def Qw(h n:Int)(lk:List (Int×Int)):TxD:=(h,[],[(n,lk)])
def Ys:Zk:=(0,0,0,0,[])
def Zfo(h:Int)(l:List TxD)(K:List ByteArray)(C:List Zi):Int:=Zn C - Zn (Xg C ((swT h l (K,C)).take 3))
def mkE(K:List ByteArray)(C:List Zi)(l:List TxD)(p h wk n:Int)(lk:List (Int×Int)):Int×Zk:=
 if swE K C l h≠0 then (swE K C l h,Ys) else if (rwD h).1+Zfo h l K C=0 then (9,Ys) else
 if Yr (p,h,wk,n,Qw h ((rwD h).1+Zfo h l K C) lk :: (Z7 h l (K,C)).1.take 3)≠0 then (Yr (p,h,wk,n,Qw h ((rwD h).1+Zfo h l K C) lk :: (Z7 h l (K,C)).1.take 3),Ys) else
 (0,(p,h,wk,n,Qw h ((rwD h).1+Zfo h l K C) lk :: (Z7 h l (K,C)).1.take 3))
theorem Zih(x:Zi)(a)(n c:Nat)(w:World):ZH 223 #[cnV x a n c] w (dH true):=by unfold cnV;have HB:=Zb (Zh w (dC #[E J x.1,E J x.2.1,E J (cv x),F a n c,E J (ch x),dH (cr x)] 63));go_enter func223,ntmps223;go_wp2;go_ret;exact⟨rfl,Za HB⟩
theorem E7(a n c L)(x s:Int)(w:World)(h:CoinsAt w a n L)(hx:Zz L=x)(hs:(if x=0 then Zn L else 0)=s) : ZH 64 #[F a n c,.func (.func 223) #[] #[]] w (dF #[E J s,E J x]):=by have C1:=Zb (Vy a n c L x w h hx);by_cases e1:x=0;{subst e1;rw[if_pos rfl] at hs;have hR:=(Z5 L).1 hx;have hn:n<=720:=(by rw[<-h.1];exact hR.len);have ah:=Zb (λk=>Q6 L k (λz hz=>by have:=Yj (hR.one z hz);omega));have⟨HL,HZ,HS⟩:=kh3 h h.1 hs;go_enter func64,ntmps64;go_wp2_with fail;refine dQ C1 λw2 af=>?_;have ad:=Zb af;go_wp2;go_loopw [7,17] (λsv i wr=>∃ (k:Nat) (d:Int),k<=n/\sv = E J d/\i = E J k/\Hid (d=Zn (L.take k))/\Hid (ZD w wr)) (λ_ i _=>n - (intOf i).toNat);{exact⟨0,0,aH _,rfl,rfl,rfl,ad⟩};obtain⟨k,d,hk,rfl,rfl,A,HB⟩:=hrel;by_cases bi:k<n;{have an:k<L.length:=(by rw[Za HZ];exact bi);obtain⟨b,off,rfl,bv,bh⟩:=HL.2 (by omega);have am:=CoinAt.kept _ _ _ _ _ HB (bh k an);have b1:=ah k;have b2:=ah (k+1);have aa:=Tn L k an;have⟨y,hy⟩:=ZF (L[k]);rw[hy] at am aa;have⟨la,ln,lc,g0,g1,g2,g3,g4,g5,_,_⟩:=am.val;have⟨v,hv⟩:=ZF (cv y);have T1:=λw=>Zih y la ln lc w;unfold cnV at T1;rw[hv] at g2 aa T1;have ay:=Zb T1;rw[<-Za A] at b1 aa;rw[aa] at b2;have A2:Hid (d+v=Zn (L.take (k+1))):=aa.symm;have⟨X,hX,bg,bf⟩:=ka00 wr [E J y.1,E J y.2.1,E J v,F la ln lc,E J (ch y),dH (cr y)] 63;have m2:=Zd bf 2 _ rfl;have av:=Zb (Ze HB bg);have bz:IntKind.i64.wrap (d+v)=d+v:=(by rw[aP];omega);go_wp2_with fail;rw[<-hX];refine dQ (ay _) λw3 al=>?_;have n2:=Zf al m2;have bx:=aC _ _ n2;have au:=Zb (Ze av al);go_wp2;go_roundw;{exact⟨k+1,d+v,by omega,rfl,by go_num,A2,au⟩};simp[intOf];omega};have e:k=n:=(by omega);subst e;have R:Hid (d=s):=(by show _=_;rw[Za A,aK (by rw[Za HZ];exact aF _)];exact Za HS);go_wp2;go_ret2;exact⟨by rw[<-Za R];rfl,Za HB⟩};rw[if_neg e1] at hs;subst hs;have g:=dS e1;go_enter func64,ntmps64;go_wp2_with fail;refine dQ C1 λw2 af=>?_;have ad:=Zb af;go_wp2;go_ret2;exact⟨rfl,Za ad⟩
theorem Zlz(a n c L)(x s:Int)(w:World)(h:CoinsAt w a n L)(hx:Zz L=x)(hs:(if x=0 then Zn L else 0)=s) : ZH 181 #[F a n c] w (dF #[E J s,E J x]):=by have C:=Zb (E7 a n c L x s w h hx hs);go_enter func181,ntmps181;go_wp2_with fail;refine dQ C λw2 ab=>?_;have aa:=Zb ab;go_wp2;go_ret2;exact⟨rfl,Za aa⟩
