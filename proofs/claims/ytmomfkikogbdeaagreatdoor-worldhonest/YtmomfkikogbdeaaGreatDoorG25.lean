import Derived.Test.YtmomfkikogbdeaaGreatDoorH
import Derived.Test.YtmomfkikogbdeaaGreatDoorG24
open Go.Proofs.Tryz
open Classical renaming not_not->bQ
open Go renaming maxLen->cW,lt_of_block->aA,bodyPost_ret->aW,heap_alloc_new->aH
open Go.Ending renaming returned->dA
open Go.Exit renaming inBlock->aR
open Go.IntKind renaming wrap_i64->bH,i64->J
open Go.Obj renaming cells->cZ
open Go.RowKit.Below renaming heap_alloc->bK
open Go.Value renaming int->cH,slice->aX,int->E,slice->F,tuple->dB
open List renaming mem_cons->aU,length_append->bW
open Nat renaming le_trans->aT,le_refl->aF,zero_le->aL,lt_of_lt_of_le->aD
set_option maxHeartbeats 12800000
set_option maxRecDepth 10000
namespace Go.Proofs.YtmomfkikogbdeaaGreatDoor.Tr
open Go.RowKit
structure Up(B g H:Nat)(N:List Int)(T:List Zl)(s:Int)(wr:World)(k:Nat)(y:Int):Prop where
 ex:∃ xs:List Value,wr.ownsRow B 3 1 (F (some ⟨g,0,none⟩) H H) H xs/\(upD N T H s).map (cH .i64)=(upD N T (H - k) y).map (cH .i64)++xs.drop (H - k)
theorem Up.old{B g H:Nat}{N T}{s:Int}{wr:World}{k:Nat}{y:Int}(h:Up B g H N T s wr k y){r:Nat}(hr:r<H):(∃ v,wr.cell? ⟨g,r,none⟩=some v)/\wr.frozen? ⟨g,r,none⟩=false/\B<=g/\g<wr.heap.size:=by
 obtain⟨xs,z,_⟩:=h.ex;have Q:xs.length=H:=by simpa using z.1
 exact⟨⟨xs[r]'(by omega),by rw[z.cellAt r (by omega)];simp[Q,hr]⟩,z.frozenAt r,(z.lt g rfl).1,(z.lt g rfl).2⟩
theorem Up.step{B g H:Nat}{N T}{s:Int}{wr:World}{k:Nat}{y:Int}(h:Up B g H N T s wr k y)(Q:k<H){r:Nat}(hr:r=H - 1 - k):Up B g H N T s (wr.setCell ⟨g,r,none⟩ (E J y)) (k+1) (fnd y N T).1:=by
 obtain⟨xs,z,hx⟩:=h.ex;have hl:xs.length=H:=by simpa using z.1
 refine⟨xs.set r (E J y),(z.stored r _).1,?_⟩;rw[hx,show H - k=(H - (k+1))+1 by omega,upD,List.map_append,List.append_assoc]
 congr 1
 have e:r=H - (k+1):=by omega
 rw[<-e];rw[List.drop_eq_getElem_cons (l:=xs.set r (E J y)) (i:=r) (by rw[List.length_set];omega),List.drop_set_of_lt (by omega)];simp
theorem Up.keep{B g H:Nat}{N T}{s:Int}{wr w':World}{k:Nat}{y:Int}(h:Up B g H N T s wr k y)(z:ZD wr w'):Up B g H N T s w' k y:=by
 obtain⟨xs,Q,hx⟩:=h.ex;exact⟨xs,(Gr.of (S:=λ_=>False) z).own Q (λ_ _ q=>q),hx⟩
theorem Zfz(a b)(n c d:Nat)(N T)(s:Int)(w:World)(hn:n<=cW)(hN:IntsAt w a n N)(hT:BlksAt w b n T)(hH:Xj T) :
  Calls Tryz.prog 131 #[.agg #[F a n c,F b n d],E J s] w λe w'=>∃ v,e = dA v/\w'.ownsRow w.heap.size 3 1 v (pthD N T s).length ((pthD N T s).map (cH .i64))/\ZD w w':=by
 obtain⟨i0,hi,bx,bz,ca⟩:=info_parts Tryz.infoInt;obtain⟨X,hX,ab,ag⟩:=ka00 w [F a n c,F b n d] 28;obtain⟨H,hh⟩:∃ H:Nat,(fnd s N T).2.1=(H:Int):=⟨_,(Int.toNat_of_nonneg (Qh hH s N).1).symm⟩;have cj:H<=1000:=by have:=(Qh hH s N).2.1;omega
 have HP:Hid (pthD N T s=upD N T H s):=by show _=_;unfold pthD;rw[hh];rfl
 obtain⟨C,HB,bk,HN,HT⟩:=kh5 (Gu a b n c d N T s H X hn (hN.later ab) (hT.later ab) hh) ab ag hN hT;have CF:=Zd (λy W (hb:ZD w W)=>Sx a b n c d N T y _ W hn (hN.later hb) (hT.later hb) rfl);have bs:w.heap.size+1<=X.heap.size:=aA ag;clear ab ag hN hT hH hh;go_enter func131,ntmps131;go_wp2_with fail;rw[<-hX];clear hX;refine C.mono ?_;rintro e w1 ⟨rfl,Q⟩;have be:w.heap.size+1<=w1.heap.size:=aT bs Q.size;obtain⟨ar,C1⟩:=kh2 (Zf HB Q) (ZE Q bk);clear Q
 go_wp2_with (at_make;refine wpList_make_full _ rfl _ _ 25 rfl (w.heap.size+1) 3 i0 (E J 0) 1 underlying25 hi bx bz .i64 .i64 _ _ H rfl rfl rfl rfl (by rw[ca];omega) (by unfold cW;omega) be ?_;intro w3 al az)
 have ah:ZD w1 w3:=(Below.refl _ _).grown az (aF _) (λk h=>by cases h)
 have HU:Hid (Up (w.heap.size+1) w1.heap.size H N T s w3 0 s):=⟨_,al,by
  rw[Nat.sub_zero,List.drop_of_length_le (by rw[al.1];omega),List.append_nil]⟩
 obtain⟨C3,ap⟩:=kh2 (ZE ah C1) (Zf ar ah);obtain⟨g,hg⟩:=ZF (w1.heap.size);rw[hg] at HU ⊢;clear ah al az C1 ar hg be
 go_loopw [1,14] (λnm i wr=>∃ (k:Nat) (y:Int),k<=H/\nm = E J y/\i = E J k/\Hid (Up (w.heap.size+1) g H N T s wr k y)/\Hid (ZD w wr)/\Hid (wr.heap[w.heap.size]? = some (cZ [F a n c,F b n d].toArray 28 (0,0)))) (λ_ i _=>H - (intOf i).toNat)
 case atStart=>exact⟨0,s,aL _,rfl,rfl,HU,ap,C3⟩
 case round=>
  obtain⟨k,y,hk,rfl,rfl,z,au,bi⟩:=hrel;clear HU ap C3;by_cases bt:k<H
  ·obtain⟨r,hr⟩:=ZG (H - 1 - k);have bv:r<H:=(by omega);obtain⟨⟨v0,cw⟩,cm,cn,cp⟩:=z.old bv;have cx:IntKind.i64.wrap ((H:Int) - 1)=(H:Int) - 1:=(by rw[bH];omega);have cy:IntKind.i64.wrap ((H:Int) - 1 - (k:Int))=(r:Int):=(by rw[bH];omega);have cu:(r:Int)<(H:Int):=(by omega);have ST:=Zd (z.step bt hr);have hG:Gr wr (wr.setCell ⟨g,r,none⟩ (E J y)) (λq=>q=g):=(Gr.refl wr (λq=>q=g)).one g r (.inl rfl) _;have aq:=Zd (hG.below au (by omega) (λq hq=>by omega));have aj:=hG.heap bi (by omega);obtain⟨bh,CC⟩:=kh2 aj (CF y _ aq);obtain⟨t0,t1,tl⟩:=kc2 aj;have ct:(k:Int)<(H:Int):=(by omega);clear hG hr aj;go_wp2_with fail;refine CC.mono ?_;rintro e w5 ⟨ta,tn,tc,rfl,_,_,aa⟩;unfold Jn;have hf:=(Gg (E J (fnd y N T).1) (E J (fnd y N T).2.1) (E J (fnd y N T).2.2.1) (E J (fnd y N T).2.2.2.1) (F ta tn tc) w5).1;obtain⟨R1,R2,R3⟩:=kh3 (ST.keep aa) (Zf aq aa) (ZE aa bh);clear aa CC ST;go_wp2;go_roundw
   case rel=>exact⟨k+1,_,by omega,rfl,by go_num,R1,R2,R3⟩
   case measure=>simp[intOf];omega
  ·have e:k=H:=(by omega);subst e
   have R:Hid (wr.ownsRow w.heap.size 3 1 (F (some ⟨g,0,none⟩) k k) (pthD N T s).length ((pthD N T s).map (cH .i64))):=by
    show World.ownsRow _ _ _ _ _ _ _;rw[Za HP];obtain⟨xs,ho,hx⟩:=z.ex;rw[Nat.sub_self,List.drop_zero,upD,List.map_nil,List.nil_append] at hx;rw[hx,Hn];exact Yx ho (by omega)
   clear z;go_wp2;go_ret;exact⟨_,rfl,Za R,Za au⟩
theorem Ae{N T}(z:Xj T):∀ (P:List Int) (s:Int),s<=Wq N T s P/\Wq N T s P<=s+1000*P.length
 | [],s=>by simp[Wq]
 | x :: P,s=>by
  have h1:=(Qh z x N).2.2;have h2:=Ae z P (s+(fnd x N T).2.2.1) (N:=N);simp only[Wq,List.length_cons];omega
theorem Zes(a b pa)(n c d pn pc:Nat)(N T P)(x:Int)(w:World)(hn:n<=cW)(hN:IntsAt w a n N)(hT:BlksAt w b n T)(hP:IntsAt w pa pn P)(hp:pn<=1000)(hH:Xj T)(hx:Wq N T 0 P=x) :
  ZH 102 #[.agg #[F a n c,F b n d],F pa pn pc] w (E J x):=by
 obtain⟨X,hX,Q,aj⟩:=ka00 w [F a n c,F b n d] 28;obtain⟨HB,bb,ay,HZ,HO⟩:=kh5 Q aj (hP.later Q) hP.1 hH;have CF:=Zd (λy W (hb:ZD X W)=>Sx a b n c d N T y _ W hn (hN.later (Zf Q hb)) (hT.later (Zf Q hb)) rfl);have HX:Hid (Wq N T 0 (P.drop 0)=x):=hx;clear Q aj hN hT hP hH hx;go_enter func102,ntmps102;go_wp2_with fail;rw[<-hX];clear hX;go_wp2
 go_loopw [5,10] (λsv i wr=>∃ (k:Nat) (s:Int),k<=pn/\sv = E J s/\i = E J k/\Hid (Wq N T s (P.drop k)=x)/\Hid (0<=s/\s<=1000*k)/\Hid (ZD X wr)) (λ_ i _=>pn - (intOf i).toNat)
 case atStart=>exact⟨0,0,aL _,rfl,rfl,HX,(⟨by omega,by omega⟩:(0:Int)<=0/\(0:Int)<=1000*(0:Nat)),(Below.refl _ _:ZD X X)⟩
 case round=>
  obtain⟨k,s,hk,rfl,rfl,A,BD,z⟩:=hrel;clear HX;by_cases bg:k<pn
  ·have h1:k<P.length:=(by rw[Za HZ];exact bg);obtain⟨b1,bu,rfl,ap,am⟩:=ay.2 (by omega);have f1:=Ze z (am k h1);have AT:=Zd (Zna N T s P k h1);obtain⟨y,hy⟩:=ZF (P[k]);rw[hy] at f1 AT;have ll:=aD ap z.size;have an:=ZE z bb;obtain⟨t0,t1,tl⟩:=kc2 an;have CC:=Zd (CF y _ z);have hq:=(Qh HO y N).2.2;have bf:=Za BD;obtain⟨v,hv⟩:=ZF ((fnd y N T).2.2.1);rw[hv] at hq AT;have HV:=Zd hv;have bt:IntKind.i64.wrap (s+v)=s+v:=(by rw[bH];omega);have R:Hid (Wq N T (s+v) (P.drop (k+1))=x):=by show _=_;rw[<-Za A,Za AT]
   have ar:Hid (0<=s+v/\s+v<=1000*((k+1:Nat):Int)):=by
    show _/\_;omega
   have bs:(k:Int)<(pn:Int):=(by omega);clear am hy A AT an hq bf BD hv ap;go_wp2_with fail;refine CC.mono ?_;rintro e w5 ⟨ta,tn,tc,rfl,_,_,al⟩;unfold Jn;rw[Za HV];have hf:=(Gg (E J (fnd y N T).1) (E J (fnd y N T).2.1) (E J v) (E J (fnd y N T).2.2.2.1) (F ta tn tc) w5).2.2;have R2:=Zd (Zf z al);clear al CC;go_wp2;go_roundw
   case rel=>exact⟨k+1,s+v,by omega,rfl,by go_num,R,ar,R2⟩
   case measure=>simp[intOf];omega
  ·have R:Hid (s=x):=(by show _=_;rw[<-Za A,Ziq N T s P k (by rw[Za HZ];omega)]);have aw:=Zd (Zf HB z);clear A BD;go_wp2;go_ret;exact⟨by rw[<-Za R];rfl,Za aw⟩
theorem Zlm(a b)(n c d k:Nat)(w:World)(hk:k<=n)(z:SlOk a n c)(Q:SlOk b n d) :
  ZH 140 #[.agg #[F a n c,F b n d],E J k] w (.agg #[F a k c,F b k d]):=by
 have hc:=aT hk z.1;have hd:=aT hk Q.1;have hm:=z.2.1;have ac:=Q.2.1;unfold cW at hm ac;have ae:(k:Int)<=(c:Int):=by omega
 have ag:(k:Int)<=(d:Int):=by omega
 clear z Q;go_enter func140,ntmps140;go_wp2_with fail
 go_region
 all_goals
  go_wp2
 all_goals (try simp only[aR,Exit.then])
 all_goals
  refine aW (v:=.agg #[F a k c,F b k d]) ?_ rfl ⟨rfl,?_⟩
  ·rw[Yn rfl];go_simp
  ·exact Zf (Zf (Zh _ _) (Zh _ _)) (Zi _)
theorem Zdz(a b)(n c d:Nat)(N T)(s:Int)(p h k m:Int)(ta tn tc L)(x:Int)(w:World)(hn:n<=cW)(hN:IntsAt w a n N)(hT:BlksAt w b n T)(hL:TxsAt w ta tn L)(hH:Xj T)(hx:nextD N T s (p,h,k,m,L)=x) :
  ZH 134 #[.agg #[F a n c,F b n d],E J s,.agg #[E J p,E J h,E J k,E J m,F ta tn tc]] w (E J x):=by
 obtain⟨X,hX⟩:=ZG ((w.alloc (cZ #[F a n c,F b n d] 28)).alloc (cZ #[E J p,E J h,E J k,E J m,F ta tn tc] 39));have af:ZD w X:=by rw[hX];exact Zf (Zh _ _) (Zh _ _)
 have cg:X.heap[w.heap.size]? = some (cZ [F a n c,F b n d].toArray 28 (0,0)):=by
  rw[hX,bK _ _ _ (by simp)];exact Y2 _ _ _ _
 have cj:X.heap[w.heap.size+1]? = some (cZ [E J p,E J h,E J k,E J m,F ta tn tc].toArray 39 (0,0)):=by
  rw[hX];have:=Zz (w.alloc (cZ #[F a n c,F b n d] 28)) (E J p) (E J h) (E J k) (E J m) (F ta tn tc) 39;rw[show (w.alloc (cZ #[F a n c,F b n d] 28)).heap.size=w.heap.size+1 by simp] at this;exact this
 obtain⟨o1,bx⟩:∃ o,(decide (1<=s) && decide (s<=120))=o:=⟨_,rfl⟩;obtain⟨x2,cb⟩:∃ x,Yk (p,h,k,m,L)=x:=⟨_,rfl⟩;obtain⟨o3,bz⟩:∃ o,decide (s∈N)=o:=⟨_,rfl⟩;obtain⟨o4,ca⟩:∃ o,decide (p∈N)=o:=⟨_,rfl⟩;obtain⟨dd,hz⟩:=ZF ((fnd p N T).2.1);have cw:=(Qh hH p N).1;have cx:=(Qh hH p N).2.1;rw[hz] at cw cx;have cz:IntKind.i64.wrap (dd+1)=dd+1:=by rw[bH];omega
 unfold nextD at hx;simp only at hx;rw[bx,cb,bz,ca,hz] at hx;obtain⟨HB,cd,ce⟩:=kh3 af cg cj;have C1:=Zd (λW=>Y1 s 1 120 o1 W bx.symm);have C2:=Zd (Vc p h k m ta tn tc L x2 X (hL.later af) cb);have C3:=Zd (λW (hb:ZD X W)=>Ls a b n c n d N s o3 W hn (hN.later (Zf af hb)) bz);have C4:=Zd (λW (hb:ZD X W)=>Ls a b n c n d N p o4 W hn (hN.later (Zf af hb)) ca);have C5:=Zd (λW (hb:ZD X W)=>Gu a b n c d N T p dd W hn (hN.later (Zf af hb)) (hT.later (Zf af hb)) hz);clear af cg cj hN hT hL hH bx cb bz ca hz;have be:=Zd hx;clear hx;go_enter func134,ntmps134;go_wp2_with fail;rw[<-hX];clear hX;refine (C1 _).mono ?_;rintro e w1 ⟨rfl,rfl⟩;cases o1 with
 | false=>
  have R:Hid (x=3):=by show _=_;rw[<-Za be,if_pos rfl]
  clear be;go_wp2;go_ret;exact⟨by rw[Za R];rfl,Za HB⟩
 | true=>
  obtain⟨c0,c1,c2,c3,c4,de⟩:=kc5 ce
  have bb:Hid ((if x2≠0 then x2 else if o3=true then 6 else if p≠0/\o4=false then 5 else if h≠dd+1 then 4 else 0)=x):=by
   have q:=Za be;rw[if_neg (by decide)] at q;exact q
  clear be;go_wp2_with fail;refine C2.mono ?_;rintro e w2 ⟨rfl,bu⟩;have bi:=Zd bu;have h20:=ZE bu cd;clear bu c0 c1 c2 c3 c4 de;by_cases q2:x2=0
  ·subst q2
   have bd:Hid ((if o3=true then 6 else if p≠0/\o4=false then 5 else if h≠dd+1 then 4 else 0)=x):=by
    have q:=Za bb;rw[if_neg (by decide)] at q;exact q
   obtain⟨c0,c1,de⟩:=kc2 h20;clear bb h20;go_wp2_with fail;refine (C3 _ bi).mono ?_;rintro e w3 ⟨rfl,cl⟩;have ad:=Zd (Zf bi cl);have h30:=ZE ad cd;have h31:=ZE ad ce;have HF:=Zd (Zf HB ad);clear cl c0 c1 de;cases o3 with
   | true=>
    have R:Hid (x=6):=(by show _=_;rw[<-Za bd,if_pos rfl]);clear bd h30 h31;go_wp2;go_ret;exact⟨by rw[Za R];rfl,Za HF⟩
   | false=>
    have ag:Hid ((if p≠0/\o4=false then 5 else if h≠dd+1 then 4 else 0)=x):=by
     have q:=Za bd;rw[if_neg (by decide)] at q;exact q
    obtain⟨c0,c1,de⟩:=kc2 h30;obtain⟨d0,d1,dl⟩:=kc2 h31;clear bd h30 h31;by_cases q4:p=0
    ·subst q4
     have ab:Hid ((if h≠dd+1 then (4:Int) else 0)=x):=by
      have q:=Za ag;rw[if_neg (by simp)] at q;exact q
     clear ag C4;by_cases q5:h=dd+1
     ·have R:Hid (x=0):=(by show _=_;rw[<-Za ab,if_neg (by simp[q5])]);have g5:(h != dd+1)=false:=(by simp[q5]);clear ab q5;go_wp2_with fail
      go_region_with (go_at_call 194;refine (C5 _ (Zf ad (Zi _))).mono ?_;rintro e w5 ⟨rfl,z⟩;have e0:=Ze z (Ze (Zi _) d0);have e1:=Ze z (Ze (Zi _) d1);have el:=aD dl z.size;have ae:=Zd (Zf HF (Zf (Zi _) z));clear z)
      all_goals
       go_wp2;go_ret;exact⟨by rw[Za R];rfl,Za ae⟩
     ·have R:Hid (x=4):=(by show _=_;rw[<-Za ab,if_pos q5]);have g5:(h != dd+1)=true:=(by simp[q5]);clear ab q5;go_wp2_with fail
      go_region_with (go_at_call 194;refine (C5 _ (Zf ad (Zi _))).mono ?_;rintro e w5 ⟨rfl,z⟩;have e0:=Ze z (Ze (Zi _) d0);have e1:=Ze z (Ze (Zi _) d1);have el:=aD dl z.size;have ae:=Zd (Zf HF (Zf (Zi _) z));clear z)
      all_goals
       go_wp2;go_ret;exact⟨by rw[Za R];rfl,Za ae⟩
    ·have g4:(p != 0)=true:=(by simp[q4]);go_wp2_with fail;refine (C4 _ ad).mono ?_;rintro e w4 ⟨rfl,ac⟩;have bj:=Zd (Zf ad ac);have bk:=Zd (Zf HB bj);have k0:=Ze ac c0;have k1:=Ze ac c1;have kl:=aD de ac.size;have d0:=Ze ac d0;have d1:=Ze ac d1;have dl:=aD dl ac.size;clear ac c0 c1 de;cases o4 with
     | false=>
      have R:Hid (x=5):=(by show _=_;rw[<-Za ag,if_pos ⟨q4,rfl⟩]);clear ag q4;go_wp2;go_ret;exact⟨by rw[Za R];rfl,Za bk⟩
     | true=>
      have ab:Hid ((if h≠dd+1 then (4:Int) else 0)=x):=by
       have q:=Za ag;rw[if_neg (by simp)] at q;exact q
      clear ag q4;by_cases q5:h=dd+1
      ·have R:Hid (x=0):=(by show _=_;rw[<-Za ab,if_neg (by simp[q5])]);have g5:(h != dd+1)=false:=(by simp[q5]);clear ab q5;go_wp2_with fail
       go_region_with (go_at_call 194;refine (C5 _ (Zf bj (Zi _))).mono ?_;rintro e w5 ⟨rfl,z⟩;have e0:=Ze z (Ze (Zi _) d0);have e1:=Ze z (Ze (Zi _) d1);have el:=aD dl z.size;have ae:=Zd (Zf bk (Zf (Zi _) z));clear z)
       all_goals
        go_wp2;go_ret;exact⟨by rw[Za R];rfl,Za ae⟩
      ·have R:Hid (x=4):=(by show _=_;rw[<-Za ab,if_pos q5]);have g5:(h != dd+1)=true:=(by simp[q5]);clear ab q5;go_wp2_with fail
       go_region_with (go_at_call 194;refine (C5 _ (Zf bj (Zi _))).mono ?_;rintro e w5 ⟨rfl,z⟩;have e0:=Ze z (Ze (Zi _) d0);have e1:=Ze z (Ze (Zi _) d1);have el:=aD dl z.size;have ae:=Zd (Zf bk (Zf (Zi _) z));clear z)
       all_goals
        go_wp2;go_ret;exact⟨by rw[Za R];rfl,Za ae⟩
  ·have R:Hid (x=x2):=(by show _=_;rw[<-Za bb,if_pos q2]);have g2:(x2 != 0)=true:=(by simp[q2]);have HF:=Zd (Zf HB bi);clear bb q2 h20;go_wp2;go_ret;exact⟨by rw[Za R];rfl,Za HF⟩
theorem J8{N T}{x:Int}{b:Zl}(h:nextD N T x b=0):Yk b=0:=by
 unfold nextD at h;split at h
 ·cases h
 ·split at h
  ·next q=>exact absurd h q
  ·next q=>exact bQ.1 q
theorem Zbr{T:List Zl}{j:Nat}(Q:j<T.length)(h:Xj (T.take j))(z:Yk T[j]=0):Xj (T.take (j+1)):=by
 rw[List.take_succ_eq_append_getElem Q];intro b hm
 rcases List.mem_append.1 hm with q|q
 ·exact h b q
 ·rw[List.mem_singleton.1 q];exact chkB_head z
theorem Vx(a b n c m d N T)(x:Int)(w:World)(hN:IntsAt w a n N)(hT:BlksAt w b m T)(sN:SlOk a n c)(sT:SlOk b m d)(hx:chkTr N T=x) :
  ZH 69 #[.agg #[F a n c,F b m d]] w (E J x):=by
 subst hx;obtain⟨X,hX,ae,ag⟩:=ka00 w [F a n c,F b m d] 28;obtain⟨HB,cm⟩:=kh2 ae ag;obtain⟨x0,x1,xl⟩:=kc2 ag;obtain⟨HN,HT,bg,cd⟩:=kh4 (hN.later ae) (hT.later ae) hN.1 hT.1;have hm:=sN.2.1;have cl:=sT.2.1;have cp:=sN.1;unfold cW at hm cl;by_cases e:n=m
 ·subst e;by_cases h24:24<n
  ·have R:Hid (chkTr N T=2):=(by show _=_;unfold chkTr;rw[hN.1,hT.1,if_neg (by simp),if_pos h24]);have g0:((n:Int) != (n:Int))=false:=(by simp);have g1:(24:Int)<(n:Int):=(by omega);clear hN hT sN sT ag ae;go_enter func69,ntmps69;go_wp2_with fail;rw[<-hX];clear hX;go_wp2;go_ret;exact⟨by rw[Za R];rfl,Za HB⟩
  ·have R:Hid (chkTr N T=Xq (N.take 0) (T.take 0) (N.drop 0) (T.drop 0)):=(by show _=_;unfold chkTr;rw[hN.1,hT.1,if_neg (by simp),if_neg h24];rfl);have g0:((n:Int) != (n:Int))=false:=(by simp);have g1:¬(24:Int)<(n:Int):=(by omega);obtain⟨SN,ST⟩:=kh2 sN sT;clear hN hT sN sT ag ae;go_enter func69,ntmps69;go_wp2_with fail;rw[<-hX];clear hX;go_wp2
   go_loopw [19] (λi wr=>∃ j:Nat,j<=n/\i = E J j/\Hid (chkTr N T=Xq (N.take j) (T.take j) (N.drop j) (T.drop j))/\Hid (Xj (T.take j))/\Hid (ZD X wr)) (λi _=>n - (intOf i).toNat)
   case atStart=>exact⟨0,aL _,rfl,R,(λb hb=>(by simp at hb):Xj (T.take 0)),(Below.refl _ _:ZD X X)⟩
   case round=>
    obtain⟨j,hj,rfl,A,HH,ab⟩:=hrel;clear R;by_cases bs:j<n
    ·have h1:j<N.length:=(by rw[Za bg];exact bs);have h2:j<T.length:=(by rw[Za cd];exact bs);obtain⟨b1,af,rfl,bq,bj⟩:=HN.2 (by omega);obtain⟨Q,aa,rfl,br,bk⟩:=HT.2 (by omega);have f1:=Ze ab (bj j h1);have bo:=BlkAt.kept _ _ _ _ _ ab (bk j h2);obtain⟨AT,HM⟩:=kh2 (Zme N T j h1 h2) (Zbr h2 HH);obtain⟨s,hs⟩:=ZF (N[j]);obtain⟨t,ht⟩:=ZF (T[j]);rw[hs] at f1 AT;rw[ht] at bo AT HM;obtain⟨p,h,k,o,L⟩:=t;obtain⟨aq,ar,g2,g3,ta,tn,tc,g4,hL,_⟩:=bo;simp only at aq ar g2 g3 hL;obtain⟨y,hy⟩:=ZF (nextD (N.take j) (T.take j) s (p,h,k,o,L));have w0:=Ze ab x0;have w1:=Ze ab x1;have wl:=aD xl ab.size;have cq:=aD bq ab.size;have ct:=aD br ab.size;have C1:=Zd (λW=>Zlm (some ⟨b1,af,none⟩) (some ⟨Q,aa,none⟩) n c d j W hj SN ST);have cg:j<=cW:=(by unfold cW;omega);have C2:=Zd (λW (hb:ZD wr W)=>Zdz (some ⟨b1,af,none⟩) (some ⟨Q,aa,none⟩) j c d (N.take j) (T.take j) s p h k o ta tn tc L y W cg ((HN.later (Zf ab hb)).take j hj) (RowsAt.take (HT.later (Zf ab hb)) j hj) (hL.later hb) HH hy);rw[hy] at AT;have HY:Hid (y=0->Yk (p,h,k,o,L)=0):=λq=>J8 (hy.trans q);clear bj bk hL hs ht hy x0 x1 xl bq br;by_cases q:y=0
     ·subst q;have R:Hid (chkTr N T=Xq (N.take (j+1)) (T.take (j+1)) (N.drop (j+1)) (T.drop (j+1))):=(by show _=_;rw[Za A,Za AT,if_neg (by simp)]);have cc:=Zd (HM (HY rfl));clear A AT HM HY;go_wp2_with fail
      go_region_held3 (λW'=>ZD wr W'/\W'.cell? ⟨w.heap.size,0,none⟩=some (F (some ⟨b1,af,none⟩) n c)/\W'.cell? ⟨w.heap.size,1,none⟩=some (F (some ⟨Q,aa,none⟩) n d)/\W'.cell? ⟨b1,af+j,none⟩=some (E J s)/\W'.cell? ⟨Q,aa+j*5,none⟩=some (E J p)/\W'.cell? ⟨Q,aa+j*5+1,none⟩=some (E J h)/\W'.cell? ⟨Q,aa+j*5+2,none⟩=some (E J k)/\W'.cell? ⟨Q,aa+j*5+3,none⟩=some (E J o)/\W'.cell? ⟨Q,aa+j*5+4,none⟩=some (F ta tn tc))
       (first
       | exact⟨Zi _,w0,w1,f1,aq,ar,g2,g3,g4⟩
       | (go_split_ands;refine⟨Zf (by assumption) z,Ze z (by assumption),Ze z (by assumption),Ze z (by assumption),Ze z (by assumption),Ze z (by assumption),Ze z (by assumption),Ze z (by assumption),Ze z (by assumption)⟩))
       (first|(go_at_call 140;refine (C1 _).mono ?_;rintro e w' ⟨rfl,z⟩)|(go_at_call 134;go_split_ands;refine (C2 _ (by assumption)).mono ?_;rintro e w' ⟨rfl,z⟩))
      rename_i hq;have am:=Zd (Zf ab hq.1);clear hq;go_wp2;go_roundw
      case rel=>exact⟨j+1,by omega,by go_num,R,cc,am⟩
      case measure=>simp[intOf];omega
     ·have R:Hid (chkTr N T=y):=(by show _=_;rw[Za A,Za AT,if_pos q]);have gy:(y != 0)=true:=(by simp[q]);clear A AT HM HY q;go_wp2_with fail
      go_region_held3 (λW'=>ZD wr W'/\W'.cell? ⟨w.heap.size,0,none⟩=some (F (some ⟨b1,af,none⟩) n c)/\W'.cell? ⟨w.heap.size,1,none⟩=some (F (some ⟨Q,aa,none⟩) n d)/\W'.cell? ⟨b1,af+j,none⟩=some (E J s)/\W'.cell? ⟨Q,aa+j*5,none⟩=some (E J p)/\W'.cell? ⟨Q,aa+j*5+1,none⟩=some (E J h)/\W'.cell? ⟨Q,aa+j*5+2,none⟩=some (E J k)/\W'.cell? ⟨Q,aa+j*5+3,none⟩=some (E J o)/\W'.cell? ⟨Q,aa+j*5+4,none⟩=some (F ta tn tc))
       (first
       | exact⟨Zi _,w0,w1,f1,aq,ar,g2,g3,g4⟩
       | (go_split_ands;refine⟨Zf (by assumption) z,Ze z (by assumption),Ze z (by assumption),Ze z (by assumption),Ze z (by assumption),Ze z (by assumption),Ze z (by assumption),Ze z (by assumption),Ze z (by assumption)⟩))
       (first|(go_at_call 140;refine (C1 _).mono ?_;rintro e w' ⟨rfl,z⟩)|(go_at_call 134;go_split_ands;refine (C2 _ (by assumption)).mono ?_;rintro e w' ⟨rfl,z⟩))
      rename_i hq;have am:=Zd (Zf HB (Zf ab hq.1));clear hq;go_wp2;go_ret;exact⟨by rw[Za R];rfl,Za am⟩
    ·have R:Hid (chkTr N T=0):=(by show _=_;rw[Za A,Zie N T j (by rw[Za bg];omega)]);have cb:=Zd (Zf HB ab);clear A;go_wp2;go_ret;exact⟨by rw[Za R];rfl,Za cb⟩
 ·have R:Hid (chkTr N T=4):=by show _=_;unfold chkTr;rw[hN.1,hT.1,if_pos e]
  have g0:((n:Int) != (m:Int))=true:=by simp;omega
  clear hN hT sN sT ag ae;go_enter func69,ntmps69;go_wp2_with fail;rw[<-hX];clear hX;go_wp2;go_ret;exact⟨by rw[Za R];rfl,Za HB⟩
theorem Ha:∀ (M:List Int) (U:List Zl) (N:List Int) (T:List Zl),M.length=U.length->Xq N T M U=0->Xj U
 | [],[],_,_,_,_=>λb Q=>by cases Q
 | [],_ :: _,_,_,h,_=>by cases h
 | _ :: _,[],_,_,h,_=>by cases h
 | x :: M,b :: U,N,T,h,hc=>by
  rw[Xq] at hc;split at hc
  ·next q=>exact absurd hc q
  ·next q=>
   have h1:=chkB_head (J8 (bQ.1 q));have h2:=Ha M U _ _ (by simpa using h) hc;intro y z
   rcases aU.1 z with rfl|z
   ·exact h1
   ·exact h2 y z
theorem Vb{N:List Int}{T:List Zl}(h:chkTr N T=0):N.length=T.length/\N.length<=24/\Xj T/\Xq [] [] N T=0:=by
 unfold chkTr at h;split at h
 ·cases h
 ·next q=>
  split at h
  ·cases h
  ·next q2=>exact⟨bQ.1 q,by omega,Ha N T [] [] (bQ.1 q) h,h⟩
theorem D7{N T}(h:Xj T)(s:Int):(pthD N T s).length<=1000:=by
 unfold pthD;rw[Hn];have:=(Qh h s N);omega
theorem Nt(a b)(n c d:Nat)(N T)(s:Int)(P:List Int)(pn:Nat)(w:World)(Q:n<=cW)(hN:IntsAt w a n N)(hT:BlksAt w b n T)(z:Xj T)(hP:pthD N T s=P)(aa:P.length=pn) :
  Calls Tryz.prog 131 #[.agg #[F a n c,F b n d],E J s] w λe w'=>∃ v,e = dA v/\w'.ownsRow w.heap.size 3 1 v pn (P.map (cH .i64))/\ZD w w':=by
 subst hP aa;exact Zfz a b n c d N T s w Q hN hT z
theorem path_is(a b n c m d N T)(s:Int)(P:List Int)(pn:Nat)(x:Int)(w:World)(hN:IntsAt w a n N)(hT:BlksAt w b m T)(sN:SlOk a n c)(sT:SlOk b m d)(hx:pathE N T s=(P,x))(aq:P.length=pn) :
  Calls Tryz.prog 56 #[.agg #[F a n c,F b m d],E J s] w λe w'=>∃ v,e = dA (dB #[v,E J x])/\w'.ownsRow w.heap.size 3 1 v pn (P.map (cH .i64))/\ZD w w':=by
 obtain⟨X,hX,ab,an⟩:=ka00 w [F a n c,F b m d] 28;obtain⟨HB,bb⟩:=kh2 ab an;obtain⟨y,hy⟩:=ZF (chkTr N T);have C1:=Zd (Vx a b n c m d N T y X (hN.later ab) (hT.later ab) sN sT hy);obtain⟨x0,x1,xl⟩:=kc2 an;unfold pathE at hx;rw[hy] at hx;by_cases q:y=0
 ·subst q;rw[if_neg (by simp)] at hx;obtain⟨hl,h24,hH,_⟩:=Vb hy;obtain rfl:n=m:=by rw[<-hN.1,<-hT.1,hl]
  have be:n<=cW:=sN.len;obtain⟨o,ho⟩:=ZF (decide (s∈N));rw[ho] at hx;have C2:=Zd (λW (hb:ZD X W)=>Ls a b n c n d N s o W be (hN.later (Zf ab hb)) ho);have C3:=Zd (λW (hb:ZD X W) (hP:pthD N T s=P)=>Nt a b n c d N T s P pn W be (hN.later (Zf ab hb)) (hT.later (Zf ab hb)) hH hP aq);obtain⟨ag,br⟩:=kh2 hx aq;clear ab an hN hT sN sT hy hx hl h24 hH ho aq be;by_cases q1:s=0
  ·subst q1
   have R:Hid (pthD N T 0=P/\0=x):=by
    have h:=Za ag;rw[if_neg (by simp)] at h;exact⟨congrArg Prod.fst h,congrArg Prod.snd h⟩
   clear ag C2;obtain rfl:0=x:=R.2;go_enter func56,ntmps56;go_wp2_with fail;rw[<-hX];clear hX;refine C1.mono ?_;rintro e w1 ⟨rfl,z⟩;have CC:=Zd (C3 _ z R.1);have hc:=ZE z bb;obtain⟨t0,t1,tl⟩:=kc2 hc;have ae:=Zd (Zf HB z);clear z x0 x1 xl hc C1 C3;go_wp2_with fail;refine CC.mono ?_;rintro e w2 ⟨v,rfl,bk,Q⟩;obtain⟨R2,af⟩:=kh2 (Yx bk ae.size) (Zf ae Q);clear bk Q;go_wp2;go_ret2;exact⟨v,rfl,Za R2,Za af⟩
  ·have g1:(s != 0)=true:=(by simp[q1]);cases o with
   | false=>
    have R:Hid (([]:List Int)=P/\5=x):=by
     have h:=Za ag;rw[if_pos ⟨q1,rfl⟩] at h;exact⟨congrArg Prod.fst h,congrArg Prod.snd h⟩
    clear ag C3;obtain⟨rfl,rfl⟩:=Za R;obtain rfl:0=pn:=Za br;clear q1;go_enter func56,ntmps56;go_wp2_with fail;rw[<-hX];clear hX;refine C1.mono ?_;rintro e w1 ⟨rfl,z⟩;have CC:=Zd (C2 _ z);have hc:=ZE z bb;obtain⟨t0,t1,tl⟩:=kc2 hc;have ae:=Zd (Zf HB z);clear z x0 x1 xl hc C1 C2;go_wp2_with fail;refine CC.mono ?_;rintro e w2 ⟨rfl,Q⟩;have af:=Zd (Zf ae Q);clear Q;go_wp2;go_ret2;exact⟨_,rfl,World.ownsRow_nil _ _ _ _,Za af⟩
   | true=>
    have R:Hid (pthD N T s=P/\0=x):=by
     have h:=Za ag;rw[if_neg (by simp)] at h;exact⟨congrArg Prod.fst h,congrArg Prod.snd h⟩
    clear ag;obtain rfl:0=x:=R.2;clear q1;go_enter func56,ntmps56;go_wp2_with fail;rw[<-hX];clear hX;refine C1.mono ?_;rintro e w1 ⟨rfl,z⟩;obtain⟨CC,az⟩:=kh2 (C2 _ z) z;have hc:=ZE z bb;obtain⟨t0,t1,tl⟩:=kc2 hc;clear z x0 x1 xl hc C1 C2;go_wp2_with fail;refine CC.mono ?_;rintro e w2 ⟨rfl,Q⟩;obtain⟨af,CC⟩:=kh2 (Zf HB (Zf az Q)) (C3 _ (Zf az Q) R.1);have k0:=Ze Q t0;have k1:=Ze Q t1;have kl:=aD tl Q.size;clear Q t0 t1 tl az C3;go_wp2_with fail;refine CC.mono ?_;rintro e w3 ⟨v,rfl,bo,bi⟩;obtain⟨R2,bq⟩:=kh2 (Yx bo af.size) (Zf af bi);clear bo bi;go_wp2;go_ret2;exact⟨v,rfl,Za R2,Za bq⟩
 ·rw[if_pos q] at hx;obtain⟨rfl,rfl⟩:([]:List Int)=P/\y=x:=⟨congrArg Prod.fst hx,congrArg Prod.snd hx⟩;obtain rfl:0=pn:=aq;have g:(y != 0)=true:=by simp[q]
  clear ab an hN hT sN sT hy hx q;go_enter func56,ntmps56;go_wp2_with fail;rw[<-hX];clear hX;refine C1.mono ?_;rintro e w1 ⟨rfl,z⟩;have ae:=Zd (Zf HB z);clear z x0 x1 xl;go_wp2;go_ret2;exact⟨_,rfl,World.ownsRow_nil _ _ _ _,Za ae⟩
def addE(N:List Int)(T:List Zl)(x:Int)(b:Zl):List Int×List Zl×Int:=
 if chkTr N T≠0 then ([],[],chkTr N T) else if nextD N T x b≠0 then ([],[],nextD N T x b) else if N.length=24 then ([],[],12) else (N++[x],T++[b],0)
theorem N9:∀ (l pre:List InD),Ya pre l=0->∀ x∈l,x.2.2.length<=16
 | [],_,_,x,hx=>by cases hx
 | y :: r,pre,h,x,hx=>by
  rw[Ya] at h;split at h
  ·next q=>
   rcases aU.1 hx with rfl|hx
   ·unfold Wf at q;split at q
    ·cases q
    ·split at q
     ·next q1=>exact absurd q q1
     ·next q1=>exact Pc (bQ.1 q1)
   ·exact N9 r _ h x hx
  ·next q=>exact absurd h q
theorem K5:∀ (l:List Zy),Yi l=0->∀ x∈l,x.2.length<=16
 | [],_,x,hx=>by cases hx
 | y :: r,h,x,hx=>by
  rw[Yi] at h;split at h
  ·next q=>
   rcases aU.1 hx with rfl|hx
   ·unfold Xa at q;split at q
    ·cases q
    ·exact Pc q
   ·exact K5 r h x hx
  ·next q=>exact absurd h q
theorem tx_small{t}(h:Zu t=0):TxSmall t:=by
 unfold Zu at h;split at h
 ·cases h
 ·next q0=>
  split at h
  ·cases h
  ·split at h
   ·cases h
   ·split at h
    ·next q=>exact absurd h q
    ·next q=>
     have h1:=N9 _ _ (bQ.1 q);unfold Yq at h;split at h
     ·next q2=>
      have h2:=K5 _ q2;exact⟨by omega,by omega,λx hx=>by have:=h1 x hx;omega,λx hx=>by have:=h2 x hx;omega⟩
     ·next q2=>exact absurd h q2
theorem Qu(h:Int):∀ (T:List TxD) (i:Nat),We h i T=0->∀ t∈T,Zu t=0
 | [],_,_,t,z=>by cases z
 | u :: r,i,q,t,z=>by
  rw[We] at q;split at q
  ·next q1=>exact absurd q q1
  ·next q1=>
   split at q
   ·cases q
   ·rcases aU.1 z with rfl|z
    ·exact bQ.1 q1
    ·exact Qu h r _ q t z
theorem blk_small{b:Zl}(h:Yk b=0):BlkSmall b:=by
 unfold Yk at h;split at h
 ·cases h
 ·split at h
  ·cases h
  ·next q=>
   split at h
   ·cases h
   ·exact⟨by omega,λt z=>tx_small (Qu _ _ _ h t z)⟩
theorem chkGo_blks:∀ (M:List Int) (U:List Zl) (N:List Int) (T:List Zl),M.length=U.length->Xq N T M U=0->∀ b∈U,Yk b=0
 | [],[],_,_,_,_=>λb Q=>by cases Q
 | [],_ :: _,_,_,h,_=>by cases h
 | _ :: _,[],_,_,h,_=>by cases h
 | x :: M,b :: U,N,T,h,hc=>by
  rw[Xq] at hc;split at hc
  ·next q=>exact absurd hc q
  ·next q=>
   have h1:=J8 (bQ.1 q);have h2:=chkGo_blks M U _ _ (by simpa using h) hc;intro y z
   rcases aU.1 z with rfl|z
   ·exact h1
   ·exact h2 y z
def AddR(w w':World)(N:List Int)(T:List Zl)(n:Nat)(x:Int)(e:Ending):Prop:=
 ∃ z c1 Q c2,e = dA (dB #[.agg #[F z n c1,F Q n c2],E J x])/\Fresh w.heap.size w' (λw2=>IntsAt w2 z n N/\BlksAt w2 Q n T)/\SlOk z n c1/\SlOk Q n c2/\ZD w w'
theorem Mq{w w':World}{x:Int}(z:ZD w w'):AddR w w' [] [] 0 x (dA (dB #[.agg #[F none 0 0,F none 0 0],E J x])):=
 ⟨none,0,none,0,rfl,λ_ _=>⟨IntsAt.nil _ _,RowsAt.nil _ _⟩,⟨aF _,aL _,λ_=>⟨rfl,rfl⟩⟩,⟨aF _,aL _,λ_=>⟨rfl,rfl⟩⟩,z⟩
theorem T3{w W:World}{t:Nat}(z:ZD w W)(ht:w.heap.size<=t)(Q:w.heap.size<=W.heap.size)(u v):ZD w ((W.setCell ⟨t,0,none⟩ u).setCell ⟨t,1,none⟩ v):=
 (((Gr.refl W (λq=>q=t)).one t 0 (.inl rfl) u).one t 1 (.inl rfl) v).below z Q (λk e=>by omega)
theorem Zpo{B z G O t6 n:Nat}{w5 w9 am an Q:World}{v1 v2:Value}{g cap g2 ag:Nat}{N}{T:List Zl}{s:Int}{b:Zl}{K:List (List Value)}{cs}
  (hB:B<=z) (bx:t6<z) (bt:z<=G) (bb:T.length=n) (hF:Fresh G w5 (λw2=>AllC blkR w2 K T)) (hf:Fresh w9.heap.size am (λw2=>blkR.C w2 cs b))
  (h1:∀ q,v1.ownBlock=some q->q<G) (h2:∀ q,v2.ownBlock=some q->q<G) (ax:∀ q,v2.ownBlock=some q->z<=q/\q<w5.heap.size) (hO:O=w5.heap.size) (bv:O<w9.heap.size) (bs:B<=w9.heap.size) (bz:t6<w9.heap.size)
  (g9:Gr w5 w9 (λq=>v1.ownBlock=some q)) (gF:Gr w9 Q (λq=>v2.ownBlock=some q\/q=O\/q=t6)) (au:Gr am Q (λq=>v2.ownBlock=some q\/q=O\/q=t6)) (av:Gr an Q (λq=>q=O\/q=t6))
  (al:w9.ownsRow z 3 1 (F (some ⟨g,0,none⟩) (n+1) cap) (n+1) ((N++[s]).map (cH .i64))) (hg:g≠O) (bh:v2.ownBlock≠some g)
  (aj:an.ownsRow z 39 5 (F (some ⟨g2,0,none⟩) (n+1) ag) (n+1) (K.flatten++cs)) (bi:g2≠O) :
  Fresh B Q (λw2=>IntsAt w2 (some ⟨g,0,none⟩) (n+1) (N++[s])/\BlksAt w2 (some ⟨g2,0,none⟩) (n+1) (T++[b]))/\SlOk (some ⟨g,0,none⟩) (n+1) cap/\SlOk (some ⟨g2,0,none⟩) (n+1) ag:=by
 have gb:=(al.lt g rfl).1;have br:=(aj.lt g2 rfl).1
 have ad:=gF.own al (λq hq e=>by
  cases hq
  rcases e with e|e|e
  ·exact bh e
  ·exact hg e
  ·simp only at e;omega)
 have ac:=av.own aj (λq hq e=>by
  cases hq
  rcases e with e|e
  ·exact bi e
  ·simp only at e;omega)
 have az:Fresh G Q (λw2=>AllC blkR w2 K T):=hF.on (((g9.mono (T:=λq=>v1.ownBlock=some q\/v2.ownBlock=some q\/q=O\/q=t6) λq _ e=>.inl e).trans (gF.mono λq _ e=>.inr e)).mono λq hq e=>by
  rcases e with e|e|e|e
  ·exact h1 q e
  ·exact h2 q e
  ·omega
  ·omega)
 have be:Fresh w9.heap.size Q (λw2=>blkR.C w2 cs b):=hf.on (au.mono λq _ e=>by
  rcases e with e|e|e
  ·have:=(ax q e).2;omega
  ·omega
  ·omega)
 have s1:=Z7 ad;have s2:=Z7 ac;obtain⟨a1,c1,e1,s1,_⟩:=s1;obtain⟨a2,c2,e2,s2,_⟩:=s2;cases e1;cases e2;refine⟨λw2 g2=>?_,s1,s2⟩;have bk:=g2.own ad (λq hq=>by have:=(ad.lt q hq).1;omega);have ak:=g2.own ac (λq hq=>by have:=(ac.lt q hq).1;omega);obtain⟨a1,c1,e1,_,i1⟩:=ints_of_own bk;cases e1;have hA:=(az w2 (g2.mono λq _ e=>by omega)).snoc (be w2 (g2.mono λq _ e=>by omega));have bf:K.flatten++cs=(K++[cs]).flatten:=by simp
 rw[bf] at ak;obtain⟨a2,c2,e2,r2,_⟩:=rows_of_own blkR ak hA (by rw[bW,bb];rfl);cases e2;exact⟨i1,r2⟩
theorem add_is(a b n c m d N T)(s p h k o:Int)(ta tn tc L)(N':List Int)(T')(n':Nat)(x:Int)(w)(hN:IntsAt w a n N)(hT:BlksAt w b m T)(sN:SlOk a n c)(sT:SlOk b m d)(hL:TxsAt w ta tn L)(sL:SlOk ta tn tc)(hx:addE N T s (p,h,k,o,L)=(N',T',x))(cx:N'.length=n') :
  Calls Tryz.prog 63 #[.agg #[F a n c,F b m d],E J s,.agg #[E J p,E J h,E J k,E J o,F ta tn tc]] w λe w'=>AddR w w' N' T' n' x e:=by
 obtain⟨i0,hi,gq,gs,gu⟩:=info_parts Tryz.infoInt;obtain⟨j0,ji,gy,gz,ia⟩:=info_parts Tryz.infoBlkC;obtain⟨X,hX⟩:=ZG (((w.alloc (cZ #[F a n c,F b m d] 28)).alloc (cZ #[E J p,E J h,E J k,E J o,F ta tn tc] 39)).alloc (cZ #[F none 0 0,F none 0 0] 28));have ae:ZD w X:=by rw[hX];exact Zf (Zf (Zh _ _) (Zh _ _)) (Zh _ _)
 have bt:X.heap[w.heap.size]? = some (cZ [F a n c,F b m d].toArray 28 (0,0)):=by
  rw[hX,bK _ _ _ (by simp;omega),bK _ _ _ (by simp)];exact Y2 _ _ _ _
 have cm:X.heap[w.heap.size+1]? = some (cZ [E J p,E J h,E J k,E J o,F ta tn tc].toArray 39 (0,0)):=by
  rw[hX,bK _ _ _ (by simp)];have:=Zz (w.alloc (cZ #[F a n c,F b m d] 28)) (E J p) (E J h) (E J k) (E J o) (F ta tn tc) 39;rw[show (w.alloc (cZ #[F a n c,F b m d] 28)).heap.size=w.heap.size+1 by simp] at this;exact this
 have cn:X.heap[w.heap.size+2]? = some (cZ [F none 0 0,F none 0 0].toArray 28 (0,0)):=by
  rw[hX];have:=Y2 ((w.alloc (cZ #[F a n c,F b m d] 28)).alloc (cZ #[E J p,E J h,E J k,E J o,F ta tn tc] 39)) (F none 0 0) (F none 0 0) 28;rw[show ((w.alloc (cZ #[F a n c,F b m d] 28)).alloc (cZ #[E J p,E J h,E J k,E J o,F ta tn tc] 39)).heap.size=w.heap.size+2 by simp] at this;exact this
 have hm:=sN.2.1;unfold cW at hm;have iw:=sN.1;obtain⟨HB,dl,dm,dn⟩:=kh4 ae bt cm cn;obtain⟨y,hy⟩:=ZF (chkTr N T);obtain⟨jf,hz⟩:=ZF (nextD N T s (p,h,k,o,L));have C1:=Zd (Vx a b n c m d N T y X (hN.later ae) (hT.later ae) sN sT hy);obtain⟨x0,x1,xl⟩:=kc2 bt;unfold addE at hx;rw[hy,hz] at hx;by_cases q:y=0
 ·subst q;rw[if_neg (by simp)] at hx;obtain⟨hl,h24,hH,ec⟩:=Vb hy;obtain rfl:n=m:=by rw[<-hN.1,<-hT.1,hl]
  have ed:n<=cW:=sN.len;have iv:n<=24:=by rw[<-hN.1];exact h24
  have HS:=Zd (λt ht=>blk_small (chkGo_blks N T [] [] hl ec t ht));have C2:=Zd (λW (hb:ZD X W)=>Zdz a b n c d N T s p h k o ta tn tc L jf W ed (hN.later (Zf ae hb)) (hT.later (Zf ae hb)) (hL.later (Zf ae hb)) hH hz);rw[hN.1] at hx;obtain⟨al,cd⟩:=kh2 hx cx;have CT:=Zd (λW (hb:ZD X W)=>clTree_is a b n c d N T W (hN.later (Zf ae hb)) (hT.later (Zf ae hb)) sN sT (by omega) HS);have CB:=Zd (λW (hb:ZD w W) (q:jf=0)=>clBlock_is p h k o ta tn tc L W (hL.later hb) sL (by rw[<-hL.1];exact (blk_small (J8 (hz.trans q))).1) (blk_small (J8 (hz.trans q))).2);have fu:=Zd hN.1;clear ae bt cm cn hN hT sN sT hL sL hy hz hl h24 hH ec ed hx cx HS;go_enter func63,ntmps63;go_wp2_with fail;rw[<-hX];clear hX;refine C1.mono ?_;rintro e w1 ⟨rfl,aj⟩;have ak:=Zd aj;have h0:=ZE aj dl;have h1:=ZE aj dm;obtain⟨a0,a1,jg⟩:=kc2 h0;obtain⟨b0,b1,b2,b3,b4,bl⟩:=kc5 h1;clear aj h0 h1 x0 x1 xl C1;go_wp2_with fail;refine (C2 _ ak).mono ?_;rintro e w2 ⟨rfl,dy⟩;have ax:=Zd (Zf ak dy);clear dy a0 a1 jg b0 b1 b2 b3 b4 bl C2 ak;have h0:=ZE ax dl;have h1:=ZE ax dm;have h2:=ZE ax dn;obtain⟨c0,c1,f0,f1,jh⟩:=kf2 h2;have ay:=Zd (Zf HB ax);by_cases q2:jf=0
  ·subst q2;obtain⟨a0,a1,jg⟩:=kc2 h0;by_cases q3:n=24
   ·subst q3
    obtain⟨rfl,rfl,rfl⟩:([]:List Int)=N'/\([]:List Zl)=T'/\12=x:=by
     have q:=Za al;rw[if_neg (by simp),if_pos rfl] at q;exact⟨congrArg (·.1) q,congrArg (·.2.1) q,congrArg (·.2.2) q⟩
    obtain rfl:0=n':=Za cd;clear al h0 h1 h2;go_wp2;(try simp only[aR,Exit.then]);refine aW (v:=dB #[.agg #[F none 0 0,F none 0 0],E J 12]) ?_ rfl (Mq ?_)
    ·rw[Zn rfl];go_simp
    ·exact T3 ay (by omega) ay.size _ _
   ·have R:Hid (N++[s]=N'/\T++[(p,h,k,o,L)]=T'/\0=x):=by
     have q:=Za al;rw[if_neg (by simp),if_neg q3] at q;exact⟨congrArg (·.1) q,congrArg (·.2.1) q,congrArg (·.2.2) q⟩
    obtain rfl:0=x:=R.2.2;have g3:((n:Int) == 24)=false:=(by simp;omega);obtain⟨H0,H1,H2⟩:=kh3 h0 h1 h2;obtain rfl:n+1=n':=(by rw[<-Za cd,<-(Za R).1,bW,Za fu];rfl);clear al q3 h0 h1 h2 c0 c1 f0 f1;go_wp2_with fail;refine (CT _ ax).mono ?_;rintro e w5 ⟨v1,v2,rfl,gj,cp⟩;obtain⟨K,G,o1,o2,g1,g2,du,dw,hF⟩:=gj;obtain⟨aa,ac,rfl,s1,r1⟩:=Z7 o1;obtain⟨z,Q,rfl,s2,r2⟩:=Z7 o2;obtain⟨t6,iy⟩:=ZG (w.heap.size+2);have ir:w.heap.size+3<=w2.heap.size+2:=(by omega);have ix:w2.heap.size<=w5.heap.size:=cp.size;have dx:∀ q,(aX aa n ac).ownBlock=some q->w2.heap.size+2<=q/\q<w5.heap.size:=λq hq=>o1.lt q hq;have dz:∀ q,(aX z n Q).ownBlock=some q->w2.heap.size+2<=q/\q<w5.heap.size:=λq hq=>o2.lt q hq;have ce:Hid (((w5.alloc (cZ #[F aa n ac,F z n Q] 28)).alloc (cZ #[E J s] 3)).ownsRow (w2.heap.size+2) 3 1 (F aa n ac) n (N.map (cH .i64))):=(o1.alloc _).alloc _
    have fv:Hid (∀ j u,([E J s]:List Value)[j]? = some u->((w5.alloc (cZ #[F aa n ac,F z n Q] 28)).alloc (cZ #[E J s] 3)).cell? ((⟨w5.heap.size+1,0,none⟩:Addr).add j)=some u):=by
     have:=aH (w5.alloc (cZ #[F aa n ac,F z n Q] 28)) (cZ #[E J s] 3);rw[show (w5.alloc (cZ #[F aa n ac,F z n Q] 28)).heap.size=w5.heap.size+1 by simp] at this;exact World.news_of_block (cs:=#[E J s]) (t:=3) (fr:=(0,0)) this
    have BX:Hid (((w5.alloc (cZ #[F aa n ac,F z n Q] 28)).alloc (cZ #[E J s] 3)).heap[w5.heap.size]? = some (cZ [F aa n ac,F z n Q].toArray 28 (0,0))):=by
     show _=_;rw[bK _ _ _ (by simp)];exact Y2 _ _ _ _
    obtain⟨bo,HF,fg,fh,az,bb,cc,fq⟩:=kh8 o2 hF g1 g2 dx dz cp dw;obtain⟨ez,ip⟩:=kh2 du s2;clear o1 o2 hF g1 g2 dx dz cp a0 a1 jg r1 r2 CT dw du s1 s2
    go_wp2_with (at_builtin;refine wpList_append_lies _ rfl _ _ 25 rfl (w2.heap.size+2) 3 i0 (E J 0) 1 8 underlying25 hi gq gs gu rfl (by decide) _ _ _ rfl ce ⟨w5.heap.size+1,0,none⟩ 1 1 [E J s] rfl rfl fv (λu hu=>by simp at hu;subst hu;rfl) (by decide) (by unfold cW;omega) (by omega) (by simp;omega) (w5.heap.size+2) (by simp) ?_;intro g cap w8 eh cu ef iu;have an:=(cu.block w5.heap.size (by simp;omega) (λe=>by have:=(az _ e.symm).2;omega)).trans BX;have d0:=Zb an 0 _ rfl;have d1:=Zb an 1 _ rfl;have jj:=Zg an 0;have jk:=aA an;have dk:=Zd eh;have fj:=Zd cu;have fp:=Zd ef;have ft:=Zd an;clear eh cu ef an)
    obtain⟨w9,bj⟩:=ZG (w8.setCell ⟨w5.heap.size,0,none⟩ (F (some ⟨g,0,none⟩) (n+1) cap));rw[<-bj];have cl:Gr w5 w8 (λq=>(aX aa n ac).ownBlock=some q):=(((Gr.refl w5 (λq=>(aX aa n ac).ownBlock=some q)).new _).new _).grown fj (λk hk=>.inl hk);have ap:Gr w5 w9 (λq=>(aX aa n ac).ownBlock=some q):=(by rw[bj];exact cl.one w5.heap.size 0 (.inr (aF _)) _);have bq:w9.heap[w5.heap.size]? = some (cZ [F (some ⟨g,0,none⟩) (n+1) cap,F z n Q].toArray 28 (0,0)):=(by rw[bj];exact set_cells ft 0 _);have cq:ZD w w9:=ap.below (Zf ay cc) (by omega) (λq hq=>by have:=(az q hq).1;omega);have h91:=ap.heap (ZE cc H1) (λhq=>by have:=(az _ hq).1;have:=aA H1;omega);have h92:=ap.heap (ZE cc H2) (λhq=>by have:=(az _ hq).1;omega)
    have eb:g≠w5.heap.size/\w2.heap.size+2<=g:=by
     rcases Za fp with e|e
     ·have:=az g e;omega
     ·omega
    have gm:(aX z n Q).ownBlock≠some g:=by
     have ij:w8.ownsRow (w2.heap.size+2) 39 5 (F z n Q) n K.flatten:=cl.own bo (λq hq e=>own_apart (((ce.kept (w':=(w5.alloc (cZ #[F aa n ac,F z n Q] 28)).alloc (cZ #[E J s] 3)) (row:=none) (World.grownBy.refl _ _) (by cases aa <;> simp[Value.ownBlock])))) ((bo.alloc _).alloc _) (by decide) q e hq);exact own_apart dk ij (by decide) g rfl
    have el:w9.ownsRow (w2.heap.size+2) 3 1 (F (some ⟨g,0,none⟩) (n+1) cap) (n+1) ((N++[s]).map (cH .i64)):=by
     rw[bj];have:=((Gr.refl w8 (λq=>q=w5.heap.size)).one w5.heap.size 0 (.inl rfl) (F (some ⟨g,0,none⟩) (n+1) cap)).own dk (λq hq e=>by cases hq;exact eb.1 e);simpa using this
    have ek:w9.ownsRow (w2.heap.size+2) 39 5 (F z n Q) n K.flatten:=ap.own bo (λq hq e=>own_apart ce ((bo.alloc _).alloc _) (by decide) q e hq);have l9:w5.heap.size<w9.heap.size:=aA bq;have CC:=Zd (CB w9.drew (Zf cq (Zi _)) (by trivial));obtain⟨e0,e1,-⟩:=kc2 bq;obtain⟨k0,k1,k2,k3,k4,kl⟩:=kc5 h91;obtain⟨fc,fi,df,fm,fl,ew⟩:=kh6 bq ap h92 el ek cq;clear bj cl ap bq cq h91 h92 el ek d0 d1 jj jk CB
    go_region_law (first
     | (refine Yo (by rfl) 71 #[.agg #[E J p,E J h,E J k,E J o,F ta tn tc]] (by kernel_rfl) CC ?_;rintro e au ⟨a5,c5,rfl,ea,bu⟩;refine⟨_,rfl,?_⟩;have bd:=ZE bu fc;have m0:=Zb bd 0 _ rfl;have m1:=Zb bd 1 _ rfl;have ml:=aA bd;have fe:=Zd ea;have dh:=Zd bu;have fa:=Zd bd;have fk:=Zd ((Gr.of (S:=λ_=>False) bu).own fl.drew (λ_ _ q=>q));clear ea bu bd)
     | (refine step_append_lies _ (by rfl) _ _ _ (by rfl) (w2.heap.size+2) 39 j0 _ 5 56 underlying26 ji gy gz ia rfl (by decide) (F z n Q) n K.flatten (by rfl) (fk.alloc _) ⟨au.heap.size,0,none⟩ 1 1 [E J p,E J h,E J k,E J o,F a5 tn c5] (by rfl) (by rfl) (World.news_of_block (cs:=#[E J p,E J h,E J k,E J o,F a5 tn c5]) (t:=39) (fr:=(0,0)) (aH au _)) (by simp[Value.oneCell']) (by decide) (by unfold cW;omega) (by omega) (by simp;omega) (au.heap.size+1) (by simp) ?_;intro g2 be av eg ct ee it;have am:=(ct.block w5.heap.size (by simp;omega) (λe=>by have:=(bb _ e.symm).2;omega)).trans ((bK _ _ _ ml).trans fa);have n0:=Zb am 0 _ rfl;have n1:=Zb am 1 _ rfl;have nf:=Zg am 1;have nl:=aA am;have fs:=Zd eg;have di:=Zd ct;have fo:=Zd ee;have fb:=Zd am;clear eg ct ee am))
    all_goals
     have bs:Gr w9 av (λq=>(aX z n Q).ownBlock=some q):=((Gr.of (Zf (Zi w9) dh)).new _).grown di (λk hk=>.inl hk);have dt:Gr au av (λq=>(aX z n Q).ownBlock=some q):=((Gr.refl au _).new _).grown di (λk hk=>.inl hk);have eo:=bs.heap df (λe=>by have:=(bb _ e).1;omega);obtain⟨ca,bi⟩:=ZG (av.setCell ⟨w5.heap.size,1,none⟩ (F (some ⟨g2,0,none⟩) (n+1) be));have dq:ca.heap[w5.heap.size]? = some (cZ [F (some ⟨g,0,none⟩) (n+1) cap,F (some ⟨g2,0,none⟩) (n+1) be].toArray 28 (0,0)):=(by rw[bi];exact set_cells fb 1 _);have ep:ca.heap[w.heap.size+2]? = some (cZ [F none 0 0,F none 0 0].toArray 28 (0,0)):=by rw[bi];exact ((Gr.refl av (λq=>q=w5.heap.size)).one w5.heap.size 1 (.inl rfl) _).heap eo (by omega)
     have gf:∀ {W:World} {S:Nat->Prop},Gr W av S->Gr W ((ca.setCell ⟨w.heap.size+2,0,none⟩ (F (some ⟨g,0,none⟩) (n+1) cap)).setCell ⟨w.heap.size+2,1,none⟩ (F (some ⟨g2,0,none⟩) (n+1) be)) (λq=>S q\/q=w5.heap.size\/q=w.heap.size+2):=by
      intro W S hW;rw[bi];exact (((hW.mono (λq _ e=>.inl e)).one w5.heap.size 1 (.inl (.inr (.inl rfl))) _).one (w.heap.size+2) 0 (.inl (.inr (.inr rfl))) _).one (w.heap.size+2) 1 (.inl (.inr (.inr rfl))) _
     have go:=dh.size
     have dd:=Zpo (w9:=w9) (B:=w.heap.size) (t6:=w.heap.size+2) (by omega) (by omega) ez fq HF fe fg fh bb rfl l9 (by omega) (by have:=aA df;omega) fi (gf bs) (gf dt) ((gf (Gr.refl av (λ_=>False))).mono λq _ e=>by rcases e with e|e;exact e.elim;exact e) fm eb.1 gm fs (by
      rcases Za fo with e|e
      ·have:=bb g2 e;omega
      ·have:w9.heap.size<=au.heap.size:=go;omega)
     have ff:=Zd dd
     have ey:Hid (ZD w ((ca.setCell ⟨w.heap.size+2,0,none⟩ (F (some ⟨g,0,none⟩) (n+1) cap)).setCell ⟨w.heap.size+2,1,none⟩ (F (some ⟨g2,0,none⟩) (n+1) be))):=(gf bs).below ew (by omega) (λq e=>by
      rcases e with e|e|e
      ·have:=(bb _ e).1;omega
      ·omega
      ·omega)
     obtain⟨y0,y1,yl⟩:=kc2 dq;obtain⟨u0,u1,iz,ja,ul⟩:=kf2 ep;rw[<-bi];clear bi gf dd bs dt eo dq ep n0 n1 nf nl m0 m1 ml e0 e1 k0 k1 k2 k3 k4 kl;go_wp2;(try simp only[aR,Exit.then]);refine aW (v:=dB #[.agg #[F (some ⟨g,0,none⟩) (n+1) cap,F (some ⟨g2,0,none⟩) (n+1) be],E J 0]) ?_ rfl ?_
     ·rw[Zn rfl];go_simp
     ·obtain⟨f1,f2,f3⟩:=Za ff;rw[<-(Za R).1,<-(Za R).2.1];exact⟨_,_,_,_,rfl,f1,f2,f3,Za ey⟩
  ·obtain⟨rfl,rfl,rfl⟩:([]:List Int)=N'/\([]:List Zl)=T'/\jf=x:=by
    have q:=Za al;rw[if_pos q2] at q;exact⟨congrArg (·.1) q,congrArg (·.2.1) q,congrArg (·.2.2) q⟩
   obtain rfl:0=n':=Za cd;have g2:(jf != 0)=true:=(by simp[q2]);clear al h0 h1 h2 q2;go_wp2;(try simp only[aR,Exit.then]);refine aW (v:=dB #[.agg #[F none 0 0,F none 0 0],E J jf]) ?_ rfl (Mq ?_)
   ·rw[Zn rfl];go_simp
   ·exact T3 ay (by omega) ay.size _ _
 ·rw[if_pos q] at hx;obtain⟨rfl,rfl,rfl⟩:([]:List Int)=N'/\([]:List Zl)=T'/\y=x:=⟨congrArg (·.1) hx,congrArg (·.2.1) hx,congrArg (·.2.2) hx⟩;obtain rfl:0=n':=cx;have g:(y != 0)=true:=by simp[q]
  clear ae bt cm cn hN hT sN sT hL sL hy hz hx q;go_enter func63,ntmps63;go_wp2_with fail;rw[<-hX];clear hX;refine C1.mono ?_;rintro e w1 ⟨rfl,aj⟩;have h2:=ZE aj dn;obtain⟨c0,c1,f0,f1,jh⟩:=kf2 h2;have ak:=Zd (Zf HB aj);clear aj h2 x0 x1 xl C1;go_wp2;(try simp only[aR,Exit.then]);refine aW (v:=dB #[.agg #[F none 0 0,F none 0 0],E J y]) ?_ rfl (Mq ?_)
  ·rw[Zn rfl];go_simp
  ·exact T3 ak (by omega) ak.size _ _
