import Derived.Test.YtpikejjiignchaaGreatDoorG46
namespace Go.Proofs.YtpikejjiignchaaGreatDoor
open Go.RowKit
theorem Tz{P:Program}{w:World}{ops:Array Oper}{o:Oper}{a:Act}{K:Act→World→Prop}{Q:Exit→Act→World→Prop}{E:Prop}(hgd:o.guard=none)(s x:Operand)(t:TypeId)
  (ho:o.op = .call { callee:=.builtin .append,args:=#[s,x],argTypes:=#[t,t] })
  (base:Nat) (e:TypeId) (i:TypeInfo) (size:Nat) (ht:P.underlying t=some (.slice e)) (hi:P.info? e=some i)
  (v:Value) (n:Nat) (xs:List Value) (hs:a.eval s=v) (hown:w.ownsRow base e size v n xs) (hx:a.eval x = .slice none 0 0)
  (h:K (a.put o.dst v) w):if Region.wanted o (yielded ops a.tmps)=true then Oper.wp P o a w K Q else E:=by
 rw[if_pos (by simp[Region.wanted,hgd])]
 have hrun:=run_append_owned_none (P:=P) (w:=w) base t o.type e i size ht hi v n xs hown
 unfold Oper.wp
 simp[execOp,ho,resolve,invoke,builtin,hs,hx,hrun,Result.andThen]
 exact h
theorem Gr.five{w w1:World}{S:Nat→Prop}(h:Gr w w1 S)(b:Nat)(hb:S b∨w.heap.size≤b)(a0 a1 a2 a3 a4:Value):Gr w (((((w1.setCell ⟨b,0,none⟩ a0).setCell ⟨b,1,none⟩ a1).setCell ⟨b,2,none⟩ a2).setCell ⟨b,3,none⟩ a3).setCell ⟨b,4,none⟩ a4) S:=
 ((((h.one b 0 hb a0).one b 1 hb a1).one b 2 hb a2).one b 3 hb a3).one b 4 hb a4
def MkI(b b2 lo hi N0:Nat)(C0:List Zg)(p:Nat)(D:Nat→Prop)(w:World)(X:List (TxD×List Zg)):Prop:=
 ∃ va vc K,PSt b p w (.slice va ((X.take 3).map (·.1)).length vc) K ((X.take 3).map (·.1))∧FeI w b2 (Zp C0 - Zp (Xx C0 (X.take 3)))∧N0≤p∧D=DV lo hi (.slice va ((X.take 3).map (·.1)).length vc)∧0≤Zp C0 - Zp (Xx C0 (X.take 3))∧((X=[]∧va=none∧vc=0)∨(X≠[]∧Zp C0≤1000000000∧Z5 (Xx C0 (X.take 3))))
theorem Zhn(b b2 lo hi:Nat)(w0:World)(C0:List Zg)(hb:w0.heap[b]? = some (.cells #[.slice none 0 0] 48 (0,0)))(hb2:FeI w0 b2 0)(h1:lo≤b∧b<hi)(h2:lo≤b2∧b2<hi)(hne:b≠b2)(hhi:hi≤w0.heap.size) :
  Zia 65 #[.pointer (some ⟨b,0,none⟩),.pointer (some ⟨b2,0,none⟩)] w0 C0 (D0 lo hi) (MkI b b2 lo hi w0.heap.size C0) where
 enters:=enters_of (fn:=Tryz.f65) (by kernel_rfl) (by kernel_rfl) rfl
 start p w hw hp pl:=⟨none,0,[],PSt.start ((hw.block b (by omega)).trans hb) (by omega) pl,by
  have:Zp C0 - Zp (Xx C0 (List.take 3 []))=0:=by rw[List.take_nil,Ju];omega
  unfold FeI;rw[this];exact (hw.block b2 (by omega)).trans hb2,hp,rfl,by rw[List.take_nil,Ju];omega,.inl ⟨rfl,rfl,rfl⟩⟩
 dirty p D w X:=by
  rintro ⟨va,vc,K,h,_,hp,rfl,_⟩ q hq
  exact DV.dirty h hhi hp q hq
 on p D w w' X:=by
  rintro ⟨va,vc,K,h,hf,hp,hD,r⟩ g
  exact⟨va,vc,K,h.on g (fun q e=>by subst e;exact⟨Nat.le_refl _,by omega⟩),(g.block b2 (lt_of_block hf) (fun e=>by have e:b2=p:=e;omega)).trans hf,hp,hD,r⟩
 call p D wA w X t C' u0 u1 u2:=by
  rintro ⟨va,vc,K,h,hf,hp,rfl,h0,hr⟩ hbw hF r1 r2 r3 hl
  by_cases h3:X.length<3
  ·have et:X.take 3=X:=List.take_of_length_le (by omega)
   have et2:(X++[(t,C')]).take 3=X++[(t,C')]:=List.take_of_length_le (by rw[List.length_append];simp;omega)
   rw[et] at h hf h0 hr ⊢
   have hs:Zp C0≤1000000000:=by
    rcases hr with ⟨rfl,_⟩|hr
    ·rw[Ju] at r1;exact r1.sum
    ·exact hr.2.1
   have n1:=Fv r1
   have n2:=Fv r2
   have n3:=r1.sum
   refine (Zda b b2 p va vc K (X.map (·.1)) _ u0 u1 u2 t wA w h _ hf hne (by omega) h0 (by omega) (by omega) (by omega) hbw hF (by rw[List.length_map];exact h3)).mono ?_
   rintro e w' ⟨rfl,⟨v',K',hS,hf'⟩,hg⟩
   obtain⟨a,c,rfl,_,_⟩:=hS.txs
   have e1:(X++[(t,C')]).map (·.1)=X.map (·.1)++[t]:=by simp
   refine⟨rfl,hg.mono (fun q _ e=>?_),DV lo hi (.slice a (((X++[(t,C')]).take 3).map (·.1)).length c),a,c,K',?_,?_,hp,rfl,?_,.inr ⟨by simp,hs,?_⟩⟩
   ·rcases e with (e|e)|e
    ·subst e;exact .inl h1
    ·subst e;exact .inl h2
    ·exact .inr e
   ·rw[et2,e1];exact hS
   ·rw[et2,Qi]
    have:Zp C0 - Zp (Xx C0 X)+(Zp (Xx C0 X) - Zp C')=Zp C0 - Zp C':=by omega
    rw[←this];exact hf'
   ·rw[et2,Qi];omega
   ·rw[et2,Qi];exact r2
  ·have et2:(X++[(t,C')]).take 3=X.take 3:=List.take_append_of_le_length (by omega)
   refine (Am b b2 p va vc K ((X.take 3).map (·.1)) _ u0 u1 u2 t wA w h hbw hF (by rw[List.length_map,List.length_take];omega)).mono ?_
   rintro e w' ⟨rfl,hb'⟩
   have hb2':=Ze hbw hb'
   refine⟨rfl,Gr.of hb',DV lo hi (.slice va ((X.take 3).map (·.1)).length vc),va,vc,K,?_,?_,hp,?_,?_,.inr ?_⟩
   ·rw[et2];exact h.on (Gr.of (S:=fun _=>False) hb2') (fun _ q=>q.elim)
   ·rw[et2];exact (hb2'.block b2 (lt_of_block hf)).trans hf
   ·rw[et2]
   ·rw[et2];exact h0
   ·rw[et2]
    rcases hr with ⟨rfl,_⟩|hr
    ·exact absurd h3 (by simp)
    ·exact⟨by simp,hr.2⟩
def Bf(b:Z4)(a:Option Addr)(n c:Nat):Value:=.agg #[.int .i64 b.1,.int .i64 b.2.1,.int .i64 b.2.2.1,.int .i64 b.2.2.2.1,.slice a n c]
def MkR(w w':World)(x:Int)(b:Z4)(e:Ending):Prop:=
 ∃ a n c,e = .returned (.tuple #[Bf b a n c,.int .i64 x])∧Fresh w.heap.size w' (fun w2=>TxsAt w2 a n b.2.2.2.2)∧SlOk a n c∧Below w.heap.size w w'
theorem MkR.err{w w1 w':World}{x y:Int}{b:Z4}{B:Nat}(h:(x,b)=(y,Xv))(hb:Below w.heap.size w w1)(hg:Gr w1 w' (fun q=>q=B))(hB:w.heap.size≤B):MkR w w' x b (.returned (.tuple #[.agg #[.int .i64 0,.int .i64 0,.int .i64 0,.int .i64 0,.slice none 0 0],.int .i64 y])):=by
 simp only[Prod.mk.injEq] at h
 obtain⟨rfl,rfl⟩:=h
 exact⟨none,0,0,rfl,fun _ _=>RowsAt.nil _ _,Xm,hg.below hb hb.size (fun q e=>by rw[e];exact hB)⟩
def Zgs(w1 wx:World)(B P:Nat)(p h wk nc:Int)(T:List TxD):Prop:=
 ∃ g n c,wx.heap[B]? = some (.cells [.int .i64 p,.int .i64 h,.int .i64 wk,.int .i64 nc,.slice g n c].toArray 68 (0,0))∧(∀ W2,Gr wx W2 (fun q=>q≤P)→TxsAt W2 g n T)∧SlOk g n c∧Gr w1 wx (fun q=>q=B)
theorem Fa{w1 W6:World}{B P:Nat}{p h wk nc:Int}{T:List TxD}{g:Nat}{n c base:Nat}{K:List (List Value)}(hn:T.length=n)(hbox:W6.heap[B]? = some (.cells [.int .i64 p,.int .i64 h,.int .i64 wk,.int .i64 nc,.slice none 0 0].toArray 68 (0,0)))(hown:W6.ownsRow base 52 3 (.slice (some ⟨g,0,none⟩) n c) n K.flatten)(hbase:P<base)(hB:B≤P)
  (hk:∀ W2,Gr W6 W2 (fun q=>q≤P)→Tr.AllC Tr.txR W2 K T) (hg:Gr w1 W6 (fun q=>q=B)):Zgs w1 (W6.setCell ⟨B,4,none⟩ (.slice (some ⟨g,0,none⟩) n c)) B P p h wk nc T:=by
 have g1:Gr W6 (W6.setCell ⟨B,4,none⟩ (.slice (some ⟨g,0,none⟩) n c)) (fun q=>q=B):=(Gr.refl W6 (fun q=>q=B)).one B 4 (.inl rfl) _
 have rd:∀ W2,Gr W6 W2 (fun q=>q≤P)→TxsAt W2 (some ⟨g,0,none⟩) n T∧SlOk (some ⟨g,0,none⟩) n c:=fun W2 g2=>by
  have o:=g2.own hown (fun k hk e=>by have:=(hown.lt k hk).1;omega)
  obtain⟨a',c',e,h1,h2⟩:=Tr.rows_of_own Tr.txR o (hk W2 g2) hn
  injection e with e1 _ e3
  subst e1 e3
  exact⟨h1,h2⟩
 exact⟨some ⟨g,0,none⟩,n,c,Tr.set_cells hbox 4 _,fun W2 g2=>(rd W2 ((g1.mono (fun q _ e=>by have e:q=B:=e;omega)).trans g2)).1,(rd W6 (Gr.refl _ _)).2,hg.trans g1⟩
set_option maxRecDepth 10000 in
set_option maxHeartbeats 12800000 in
theorem Dk(ka:Option Addr)(kn kc:Nat)(K:List ByteArray)(la:Option Addr)(ln lc:Nat)(C:List Zg)(a:Option Addr)(m c:Nat)(L:List TxD)(pr ht wk nc:Int)(ta:Option Addr)(tn tc:Nat)(lk:List (Int×Int))(h x:Int)(bb:Z4)(w:World)
  (hE:Env w) (hK:Bk.TextsAt w ka kn K) (hC:CoinsAt w la ln C) (sC:SlOk la ln lc) (hL:TxsAt w a m L) (hT:OpsAt w ta tn lk) (sT:SlOk ta tn tc) (hn:tn≤8796093022208) (hh:IntKind.i64.wrap (ht+1)=h) (hx:mkE K C L pr h wk nc lk=(x,bb)) :
  Calls Tryz.prog 28 #[.agg #[.slice ka kn kc],.slice la ln lc,.slice a m c,.int .i64 pr,.int .i64 ht,.int .i64 wk,.int .i64 nc,.slice ta tn tc] w fun e w'=>MkR w w' x bb e:=by
 obtain⟨i0,hi,hz0,hz1,hz2⟩:=info_parts Tryz.infoTx9
 obtain⟨X,hX⟩:∃ X,X=Ui w [.cells #[.slice ka kn kc] 24,.cells #[.int .i64 0,.int .i64 0,.int .i64 0,.int .i64 0,.slice none 0 0] 68,.cells #[.int .i64 pr,.int .i64 h,.int .i64 wk,.int .i64 nc,.slice none 0 0] 68,.cells #[.slice none 0 0] 48,.cells #[.int .i64 0] 3]:=⟨_,rfl⟩
 have hbX:Below w.heap.size w X:=by rw[hX];exact Wa _ _
 have hXs:X.heap.size=w.heap.size+5:=by rw[hX];exact Jm _ _
 have x0:X.heap[w.heap.size]? = some (.cells #[.slice ka kn kc] 24 (0,0)):=by rw[hX];exact Yg _ w 0 _ rfl
 have x1:X.heap[w.heap.size+1]? = some (.cells [.int .i64 0,.int .i64 0,.int .i64 0,.int .i64 0,.slice none 0 0].toArray 68 (0,0)):=by rw[hX];exact Yg _ w 1 _ rfl
 have x2:X.heap[w.heap.size+2]? = some (.cells [.int .i64 pr,.int .i64 h,.int .i64 wk,.int .i64 nc,.slice none 0 0].toArray 68 (0,0)):=by rw[hX];exact Yg _ w 2 _ rfl
 have x3:X.heap[w.heap.size+3]? = some (.cells #[.slice none 0 0] 48 (0,0)):=by rw[hX];exact Yg _ w 3 _ rfl
 have x4:X.heap[w.heap.size+4]? = some (.cells #[.int .i64 0] 3 (0,0)):=by rw[hX];exact Yg _ w 4 _ rfl
 have hX':X=((((w.alloc (.cells #[.slice ka kn kc] 24)).alloc (.cells #[.int .i64 0,.int .i64 0,.int .i64 0,.int .i64 0,.slice none 0 0] 68)).alloc (.cells #[.int .i64 pr,.int .i64 h,.int .i64 wk,.int .i64 nc,.slice none 0 0] 68)).alloc (.cells #[.slice none 0 0] 48)).alloc (.cells #[.int .i64 0] 3):=hX
 have hKp:=Zhn (w.heap.size+3) (w.heap.size+4) (w.heap.size+3) (w.heap.size+5) X C x3 x4 (by omega) (by omega) (by omega) (by omega)
 have hin:∀ V,Gr X V (D0 (w.heap.size+3) (w.heap.size+5))→Below w.heap.size w V:=fun V g=>g.below hbX hbX.size (fun q e=>by have:=e.ge;omega)
 obtain⟨x1e,hx1⟩:∃ x1e,swE K C L h=x1e:=⟨_,rfl⟩
 have C1:=Zb (Lc _ _ _ _ ka kn kc K la ln lc C a m c L h x1e X hKp w hin hE hK hC sC hL hx1)
 obtain⟨S3,hS3⟩:∃ S3,(Yb h L (K,C)).1.take 3=S3:=⟨_,rfl⟩
 have e1:((swT h L (K,C)).take 3).map (·.1)=S3:=by rw[List.map_take,Rv,hS3]
 obtain⟨F,hF⟩:∃ F,Av h L K C=F:=⟨_,rfl⟩
 obtain⟨⟨r,r2⟩,hr⟩:∃ r,rwD h=r:=⟨_,rfl⟩
 obtain⟨n,hn3⟩:∃ n,S3.length=n:=⟨_,rfl⟩
 have hn3l:n≤3:=by rw[←hn3,←hS3,List.length_take];omega
 obtain⟨y,hy⟩:∃ y,V5 (pr,h,wk,nc,Uj h (r+F) lk :: S3)=y:=⟨_,rfl⟩
 unfold mkE at hx
 simp only[hx1,hS3,hF,hr,hy] at hx
 have HX:=Zb hx
 have HBX:=Zb hbX
 have HXs:=Zb hXs
 have HIN:=Zb hin
 have HX1:=Zb x1
 have HX2:=Zb x2
 have HX1E:=Zb hx1
 have HE1:=Zb e1
 have HF:=Zb hF
 have HR:=Zb hr
 have HN3:=Zb hn3
 have HY:=Zb hy
 have HT:=Zb hT
 have HST:=Zb sT
 have HTN:=Zb hn
 have t0:=Zd (X:=[.slice ka kn kc]) x0 0 _ rfl
 have tl:=lt_of_block x0
 have g1:=Zd x2 1 _ rfl
 have gl:=lt_of_block x2
 clear hE hK hC sC hL hx hx1 hbX hXs x0 x1 x2 x3 x4 hX hKp hin e1 hF hr hn3 hy hT sT hS3 hn
 go_enter Tryz.func28,Tryz.ntmps28
 go_wp2_with fail
 rw[←hX']
 clear hX' hh
 (try go_wp2_with fail)
 refine (Za C1).mono ?_
 rintro e w1 hres
 rcases hres with ⟨h0,rfl,hb1⟩|⟨h0,p,D,rfl,hp,hg1,hd,hI⟩
 ·have y:=(hb1.block _ (lt_of_block (Za HX1))).trans (Za HX1)
  have y0:=Zd y 0 _ rfl
  have yf0:=Zh y 0
  have y1:=Zd y 1 _ rfl
  have yf1:=Zh y 1
  have y2:=Zd y 2 _ rfl
  have yf2:=Zh y 2
  have y3:=Zd y 3 _ rfl
  have yf3:=Zh y 3
  have y4:=Zd y 4 _ rfl
  have yf4:=Zh y 4
  have yl:=lt_of_block y
  clear y
  have gx:(x1e != 0)=true:=by simp[h0]
  have HXE:Hid ((x,bb)=(x1e,Xv)):=by have:=Za HX;rw[if_pos h0] at this;exact this.symm
  have HB:=Zb (Ze (Za HBX) hb1)
  clear hb1 C1 HX
  go_wp2
  (try simp only[Exit.inBlock,Exit.then])
  refine bodyPost_ret (v:=.tuple #[.agg #[.int .i64 0,.int .i64 0,.int .i64 0,.int .i64 0,.slice none 0 0],.int .i64 x1e]) ?_ rfl ?_
  ·rw[results_cell_tmp rfl]
   go_simp
  ·exact MkR.err (B:=w.heap.size+1) (Za HXE) (Za HB) ((Gr.refl w1 (fun q=>q=w.heap.size+1)).five (w.heap.size+1) (.inl rfl) _ _ _ _ _) (by omega)
 ·subst h0
  obtain⟨va,vc,Kl,hS,hf,_,_,hf0,hcs⟩:=hI
  rw[Za HE1,Za HN3] at hS
  have hfe:Zp C - Zp (Xx C ((swT h L (K,C)).take 3))=F:=Za HF
  rw[hfe] at hf hf0
  have hb1:=(Za HIN) w1 hg1
  have z1:=(hg1.block _ (lt_of_block (Za HX1)) (fun e=>by have:=e.ge;omega)).trans (Za HX1)
  have z2:=(hg1.block _ (lt_of_block (Za HX2)) (fun e=>by have:=e.ge;omega)).trans (Za HX2)
  have hop:=Qe (Rw (Za HX1E)).1
  have hr0:r2=0∧0≤r∧r≤64:=by
   have q:=Za HR
   unfold rwD at q
   rw[if_pos (by simp[hop.2.2.1,hop.2.2.2])] at q
   injection q with q1 q2
   have:=T6 ((h - 1).toNat / 8)
   exact⟨q2.symm,by omega,by omega⟩
  obtain⟨rfl,hr1,hr2⟩:=hr0
  have hF9:F≤1000000000:=by
   rcases hcs with q|q
   ·rw[←hfe,q.1,List.take_nil,Ju];omega
   ·rw[←hfe];have:=Fv q.2.2;omega
  have hnil0:n=0→va=none∧vc=0:=fun q0=>by
   rcases hcs with q|q
   ·exact q.2
   ·have q1:=congrArg List.length (Za HE1)
    rw[List.length_map,List.length_take,Za HN3,q0] at q1
    exact absurd (List.length_eq_zero_iff.1 (by omega)) q.1
  have CR:=Zb (fun V=>Ek h r 0 V (Za HR))
  have HS:=Zb hS
  have HB1:=Zb hb1
  have HZ1:=Zb z1
  have HZ2:=Zb z2
  have HP:=Zb hp
  have HFE:=Zb hf
  have HNIL:=Zb hnil0
  have b0:=Zd z2 1 _ rfl
  have bl:=lt_of_block z2
  clear hb1 z1 hop hS hfe z2 C1 hd hf hcs hnil0
  go_wp2_with fail
  refine ((Za CR) _).mono ?_
  rintro e w2 ⟨rfl,hb2⟩
  have HB2:=Zb (Ze (Za HB1) hb2)
  have H12:=Zb hb2
  have hf2:=(hb2.block _ (lt_of_block (Za HFE))).trans (Za HFE)
  have f0:=Zd (X:=[_]) hf2 0 _ rfl
  have fl:=lt_of_block hf2
  have HF2:=Zb hf2
  clear hb2 CR b0 bl hf2
  by_cases e0:r+F=0
  ·have y:=((Za H12).block _ (lt_of_block (Za HZ1))).trans (Za HZ1)
   have y0:=Zd y 0 _ rfl
   have yf0:=Zh y 0
   have y1:=Zd y 1 _ rfl
   have yf1:=Zh y 1
   have y2:=Zd y 2 _ rfl
   have yf2:=Zh y 2
   have y3:=Zd y 3 _ rfl
   have yf3:=Zh y 3
   have y4:=Zd y 4 _ rfl
   have yf4:=Zh y 4
   have yl:=lt_of_block y
   clear y
   have HXE:Hid ((x,bb)=(9,Xv)):=by have:=Za HX;rw[if_neg (fun q=>q rfl),if_pos e0] at this;exact this.symm
   have g0:(r+F == 0)=true:=by simp[e0]
   clear HX
   go_wp2
   (try simp only[Exit.inBlock,Exit.then])
   refine bodyPost_ret (v:=.tuple #[.agg #[.int .i64 0,.int .i64 0,.int .i64 0,.int .i64 0,.slice none 0 0],.int .i64 9]) ?_ rfl ?_
   ·rw[results_cell_tmp rfl]
    go_simp
   ·exact MkR.err (B:=w.heap.size+1) (Za HXE) (Za HB2) ((Gr.refl w2 (fun q=>q=w.heap.size+1)).five (w.heap.size+1) (.inl rfl) _ _ _ _ _) (by omega)
  ·have g0:(r+F == 0)=false:=by simp[e0]
   have hx9:=Za HX
   rw[if_neg (fun q=>q rfl),if_neg e0] at hx9
   have HX9:=Zb hx9
   clear hx9 HX
   have hp5:w.heap.size+5≤p:=by have:=Za HXs;have:=Za HP;omega
   have hS2:=(Za HS).on (Gr.of (S:=fun _=>False) (Za H12)) (fun _ q=>q.elim)
   have HS2:=Zb hS2
   have z22:=((Za H12).block _ (lt_of_block (Za HZ2))).trans (Za HZ2)
   have HZ22:=Zb z22
   have c1:=Zd z22 1 _ rfl
   have cl:=lt_of_block z22
   have d0:=Zd (X:=[_]) hS2.box 0 _ rfl
   have dl:=lt_of_block hS2.box
   have CP:=Zb (fun V (hv:Below w.heap.size w V)=>Zfg h (r+F) ta tn tc lk V (Za HTN) ((Za HT).later hv) (Za HST))
   have hpl:=hS2.pl
   have hwr:IntKind.i64.wrap (r+F)=r+F:=by rw[IntKind.wrap_i64];omega
   have KS:Hid (∀ U:World,Gr w2 U (fun q=>p<q)→((U.cell? ⟨w.heap.size+4,0,none⟩=some (.int .i64 F)∧w.heap.size+4<U.heap.size)∧(U.cell? ⟨w.heap.size+2,1,none⟩=some (.int .i64 h)∧w.heap.size+2<U.heap.size)∧U.cell? ⟨w.heap.size+3,0,none⟩=some (.slice va n vc)∧w.heap.size+3<U.heap.size)):=fun U hu=>⟨⟨hu.cell f0 (by simp;omega),Nat.lt_of_lt_of_le fl hu.size⟩,⟨hu.cell c1 (by simp;omega),Nat.lt_of_lt_of_le cl hu.size⟩,hu.cell d0 (by simp;omega),Nat.lt_of_lt_of_le dl hu.size⟩
   have KS2:Hid (∀ (U:World) (v:Value),Gr w2 U (fun q=>p<q)→(fun U:World=>(U.cell? ⟨w.heap.size+4,0,none⟩=some (.int .i64 F)∧w.heap.size+4<U.heap.size)∧(U.cell? ⟨w.heap.size+2,1,none⟩=some (.int .i64 h)∧w.heap.size+2<U.heap.size)∧U.cell? ⟨w.heap.size+3,0,none⟩=some (.slice va n vc)∧w.heap.size+3<U.heap.size) (U.setCell ⟨w.heap.size+2,4,none⟩ v)):=fun U v hu=>by
    have hg:=(Gr.refl U (fun q=>q=w.heap.size+2)).one (w.heap.size+2) 4 (.inl rfl) v
    have hh:=(Gr.refl w2 (fun q=>p<q)).trans hu
    have hz:=Tr.set_cells (hu.heap z22 (by omega)) 4 v
    exact⟨⟨hg.cell (hu.cell f0 (by simp;omega)) (by simp),Nat.lt_of_lt_of_le fl (Nat.le_trans hu.size hg.size)⟩,⟨Zd hz 1 _ rfl,lt_of_block hz⟩,hg.cell (hu.cell d0 (by simp;omega)) (by simp),Nat.lt_of_lt_of_le dl (Nat.le_trans hu.size hg.size)⟩
   clear hS2 z22
   go_upto_region 12 with fail
   clear f0 fl d0 dl
   go_cut [] from 60 to 70 (fun wx=>Hid (Zgs w2 wx (w.heap.size+2) p pr h wk nc (Uj h (r+F) lk :: S3)))
   case first=>
    refine wp_region_held_drew (S:=fun U=>(U.cell? ⟨w.heap.size+4,0,none⟩=some (.int .i64 F)∧w.heap.size+4<U.heap.size)∧(U.cell? ⟨w.heap.size+2,1,none⟩=some (.int .i64 h)∧w.heap.size+2<U.heap.size)∧U.cell? ⟨w.heap.size+3,0,none⟩=some (.slice va n vc)∧w.heap.size+3<U.heap.size) (by kernel_rfl) ((Za KS) _ (Gr.of (Zi _))) (fun Zic=>?_)
    refine tk 0 ⟨some 60,.fieldAddr 68 (.tmp 18) 1,0, "pool.go:68",#[],none⟩ ?_ rfl ?_ Zic ?_
    rotate_left
    ·(intro U hSw;obtain⟨⟨s1,s2⟩,⟨s5,s6⟩,s3,s4⟩:=hSw;go_simp;first|done|with_reducible rfl)
    (try simp only[Act.put,ZA,ZB,ZC])
    refine tk 1 ⟨some 61,.load 3 (.tmp 60),3, "pool.go:68",#[⟨0,.data⟩],none⟩ ?_ rfl ?_ Zic ?_
    rotate_left
    ·(intro U hSw;obtain⟨⟨s1,s2⟩,⟨s5,s6⟩,s3,s4⟩:=hSw;go_simp;first|done|with_reducible rfl)
    (try simp only[Act.put,ZA,ZB,ZC])
    refine tk 2 ⟨some 62,.move (.tmp 23),3, "pool.go:68",#[],none⟩ ?_ rfl ?_ Zic ?_
    rotate_left
    ·(intro U hSw;obtain⟨⟨s1,s2⟩,⟨s5,s6⟩,s3,s4⟩:=hSw;go_simp;first|done|with_reducible rfl)
    (try simp only[Act.put,ZA,ZB,ZC])
    refine tk 3 ⟨some 63,.load 3 (.tmp 20),3, "pool.go:68",#[],none⟩ ?_ rfl ?_ Zic ?_
    rotate_left
    ·(intro U hSw;obtain⟨⟨s1,s2⟩,⟨s5,s6⟩,s3,s4⟩:=hSw;go_simp;first|done|with_reducible rfl)
    (try simp only[Act.put,ZA,ZB,ZC])
    refine tk 4 ⟨some 64,.binOp BinOp.add 3 (.tmp 62) (.tmp 63) 3,3, "pool.go:68",#[⟨2,.data⟩,⟨3,.data⟩],none⟩ (.int .i64 (r+F)) rfl ?_ Zic ?_
    ·(intro U hSw;obtain⟨⟨s1,s2⟩,⟨s5,s6⟩,s3,s4⟩:=hSw;go_simp;first|done|with_reducible rfl)
    (try simp only[Act.put,ZA,ZB,ZC])
    refine tk 5 ⟨some 65,.move (.tmp 7),66, "pool.go:68",#[],none⟩ ?_ rfl ?_ Zic ?_
    rotate_left
    ·(intro U hSw;obtain⟨⟨s1,s2⟩,⟨s5,s6⟩,s3,s4⟩:=hSw;go_simp;first|done|with_reducible rfl)
    (try simp only[Act.put,ZA,ZB,ZC])
    refine tk 8 ⟨some 68,.load 48 (.tmp 19),48, "pool.go:68",#[],none⟩ ?_ rfl ?_ Zic ?_
    rotate_left
    ·(intro U hSw;obtain⟨⟨s1,s2⟩,⟨s5,s6⟩,s3,s4⟩:=hSw;go_simp;first|done|with_reducible rfl)
    (try simp only[Act.put,ZA,ZB,ZC])
    refine wpAnyH_ready (rs:=[6]) (by kernel_rfl) (by simp) ?_
    refine AllReadyH.cons (o:=⟨some 66,.call { callee:=Callee.value (.func 67),args:=#[.tmp 61,.tmp 64,.tmp 65],argTypes:=#[3,3,66] },52, "pool.go:68",#[⟨1,.data⟩,⟨4,.data⟩,⟨5,.data⟩],none⟩) rfl (fun KQ hK=>?_) AllReadyH.nil
    refine Yf (by kernel_rfl) 67 #[.int .i64 h,.int .i64 (r+F),.slice ta tn tc] (by kernel_rfl) ((Za CP) w2.drew (Ze (Za HB2) (Zi _))) ?_
    rintro e w4 ⟨po,rfl,hF4,hb4⟩
    refine⟨_,rfl,?_⟩
    have hb24:Below w2.heap.size w2 w4:=Ze (Zi w2) hb4
    refine hK.out _ _ ((Za KS) _ (Gr.of hb24)) (fun Zid=>?_)
    clear hK KQ Zic
    have Zic:=Zid
    clear Zid
    (try simp only[Act.put,ZA,ZB,ZC])
    refine wpAnyH_ready (rs:=[7]) (by kernel_rfl) (by simp) ?_
    refine AllReadyH.cons (o:=⟨some 67,.buildSlice 48 1 #[(0,.tmp 66)],48, "pool.go:68",#[⟨6,.data⟩],none⟩) rfl (fun KQ hK=>?_) AllReadyH.nil
    go_simp
    obtain⟨w5,hw5⟩:∃ w5,w5=w4.alloc (.cells #[.int .i64 h,.slice none 0 0,.slice po 1 1] 52):=⟨_,rfl⟩
    rw[←hw5]
    have hb45:Below w4.heap.size w4 w5:=by rw[hw5];exact Zf _ _
    have h5:w5.heap[w4.heap.size]? = some (.cells #[.int .i64 h,.slice none 0 0,.slice po 1 1] 52 (0,0)):=by rw[hw5];exact Zl _ _ _ _ _
    have hb25:=Ze hb24 hb45
    have own5:w5.ownsRow w4.heap.size 52 3 (.slice (some ⟨w4.heap.size,0,none⟩) 1 1) 1 [.int .i64 h,.slice none 0 0,.slice po 1 1]:=⟨rfl,.inr ⟨w4.heap.size,1,_,rfl,Nat.le_refl _,h5,Nat.le_refl _,by decide,rfl,rfl⟩⟩
    have z5:=(hb25.block _ (lt_of_block (Za HZ22))).trans (Za HZ22)
    clear hw5
    refine hK.out _ _ ((Za KS) _ (Gr.of hb25)) (fun Zid=>?_)
    clear hK KQ Zic
    have Zic:=Zid
    clear Zid
    (try simp only[Act.put,ZA,ZB,ZC])
    have s24:=hb24.size
    have s45:=hb45.size
    have KEEP:Hid (∀ W2,Gr w5 W2 (fun q=>q≤p∨w4.heap.size≤q)→Tr.AllC Tr.txR W2 ([.int .i64 h,.slice none 0 0,.slice po 1 1] :: Kl) (Uj h (r+F) lk :: S3)):=fun W2 g2=>by
     have k1:=(Za HS2).kept W2 ((Gr.of hb25).far g2 (fun q e=>by rcases e with e|e;exact .inr (.inl e);exact .inl (by omega)))
     have k2:=hF4 W2 ((Gr.of hb45).far g2 (fun q e=>by have:w2.drew.heap.size=w2.heap.size:=rfl;rcases e with e|e;exact .inr (by omega);exact .inl e))
     refine⟨by simp[k1.1],fun i h1 h2=>?_⟩
     cases i with
     | zero=>exact k2
     | succ i=>exact k1.2 i (by simpa using h1) (by simpa using h2)
    by_cases n0:n=0
    ·obtain⟨rfl,rfl⟩:=(Za HNIL) n0
     subst n0
     have hK0:Kl=[]:=by
      have k1:=((Za HS2).kept w2 (Gr.refl _ _)).1
      rw[Za HN3] at k1
      exact List.length_eq_zero_iff.1 k1
     refine wpAnyH_ready (rs:=[9]) (by kernel_rfl) (by simp) ?_
     refine AllReadyH.cons (o:=⟨some 69,.call { callee:=Callee.builtin Builtin.append,args:=#[.tmp 67,.tmp 68],argTypes:=#[48,48] },48, "pool.go:68",#[⟨7,.data⟩,⟨8,.data⟩,⟨6,.chain⟩],none⟩) rfl (fun KQ hK=>?_) AllReadyH.nil
     refine Tz rfl _ _ 48 rfl w4.heap.size 52 i0 3 Tryz.underlying48 hi (.slice (some ⟨w4.heap.size,0,none⟩) 1 1) 1 _ rfl own5 rfl ?_
     refine hK.out _ _ ((Za KS) _ (Gr.of hb25)) (fun Zid=>?_)
     clear hK KQ Zic
     have Zic:=Zid
     clear Zid
     (try simp only[Act.put,ZA,ZB,ZC])
     refine tk 10 ⟨some 70,.fieldAddr 68 (.tmp 18) 4,0, "pool.go:68",#[⟨0,.phase⟩,⟨1,.phase⟩,⟨2,.phase⟩,⟨3,.phase⟩,⟨4,.phase⟩,⟨5,.phase⟩,⟨6,.phase⟩,⟨7,.phase⟩,⟨8,.phase⟩,⟨9,.phase⟩],none⟩ ?_ rfl ?_ Zic ?_
     rotate_left
     ·(intro U hSw;(try dsimp only at hSw);go_simp;first|done|with_reducible rfl)
     (try simp only[Act.put,ZA,ZB,ZC])
     have y4:=Zd z5 4 _ rfl
     have yf:=Zh z5 4
     have yl:=lt_of_block z5
     refine wpAnyH_ready (rs:=[11]) (by kernel_rfl) (by simp) ?_
     refine AllReadyH.cons (o:=⟨none,.store 48 (.tmp 70) (.tmp 69),0, "pool.go:68",#[⟨10,.data⟩,⟨9,.data⟩,⟨9,.chain⟩,⟨0,.phase⟩,⟨1,.phase⟩,⟨2,.phase⟩,⟨3,.phase⟩,⟨4,.phase⟩,⟨5,.phase⟩,⟨6,.phase⟩,⟨7,.phase⟩,⟨8,.phase⟩,⟨9,.phase⟩],none⟩) rfl (fun KQ hK=>?_) AllReadyH.nil
     go_simp
     refine hK.out _ _ ((Za KS2) _ _ (Gr.of hb25)) (fun Zid=>?_)
     clear hK KQ Zic
     have Zic:=Zid
     clear Zid
     (try simp only[Act.put])
     refine wpAnyH_done (by kernel_rfl) ?_ _
     clear Zic
     go_wp2_with fail
     go_meet
     case rel=>exact Fa (K:=[Value.int .i64 h,.slice none 0 0,.slice po 1 1] :: Kl) (base:=w4.heap.size) (by rw[List.length_cons,Za HN3]) z5 (by rw[hK0];exact own5) (by omega) (by omega) (fun W2 g2=>(Za KEEP) W2 (g2.mono (fun q _ e=>.inl e))) (Gr.of hb25)
    ·have own2:=(Gr.of (S:=fun _=>False) hb25).own (Za HS2).own (fun _ _ q=>q)
     rw[Za HN3] at own2
     obtain⟨vg,rfl⟩:∃ vg:Nat,va=some ⟨vg,0,none⟩:=by
      rcases own2.2 with ⟨q,q2⟩|⟨g,cap,cur,q,_⟩
      ·exact absurd q2 n0
      ·injection q with q _ _;exact⟨g,q⟩
     have hl2:Kl.flatten.length=n*3:=own2.1
     have news:∀ j u,Kl.flatten[j]? = some u→w5.cell? ((⟨vg,0,none⟩:Addr).add j)=some u:=fun j u hj=>by
      have hjl:j<n*3:=by rw[←hl2];exact (List.getElem?_eq_some_iff.1 hj).1
      rw[Addr.add_lit,Nat.zero_add,own2.cellAt j hjl];exact hj
     have one2:∀ u∈Kl.flatten,u.oneCell'=true:=Tr.flat_one ((Za HS2).kept w2 (Gr.refl _ _))
     refine wpAnyH_ready (rs:=[9]) (by kernel_rfl) (by simp) ?_
     refine AllReadyH.cons (o:=⟨some 69,.call { callee:=Callee.builtin Builtin.append,args:=#[.tmp 67,.tmp 68],argTypes:=#[48,48] },48, "pool.go:68",#[⟨7,.data⟩,⟨8,.data⟩,⟨6,.chain⟩],none⟩) rfl (fun KQ hK=>?_) AllReadyH.nil
     refine step_append_lies _ rfl _ _ 48 rfl w4.heap.size 52 i0 (.agg #[.int .i64 0,.slice none 0 0,.slice none 0 0]) 3 56 Tryz.underlying48 hi hz0 hz1 hz2 rfl (by decide) (.slice (some ⟨w4.heap.size,0,none⟩) 1 1) 1 _ rfl own5 ⟨vg,0,none⟩ n vc Kl.flatten rfl hl2 news one2 (by omega) (by unfold maxLen;omega) (by omega) (by omega) _ rfl ?_
     intro g6 cap6 w6 hown6 hgrow6 hor6 _
     have hg56:Gr w5 w6 (fun q=>q=w4.heap.size):=(Gr.refl w5 _).grown hgrow6 (fun q e=>.inl (by injection e with e;exact e.symm))
     have hg26:Gr w2 w6 (fun q=>p<q):=(Gr.of hb25).trans (hg56.mono (fun q _ e=>by have e:q=w4.heap.size:=e;omega))
     have z6:=(hg26.block _ (lt_of_block (Za HZ22)) (by omega)).trans (Za HZ22)
     refine hK.out _ _ ((Za KS) _ hg26) (fun Zid=>?_)
     clear hK KQ Zic
     have Zic:=Zid
     clear Zid
     (try simp only[Act.put,ZA,ZB,ZC])
     refine tk 10 ⟨some 70,.fieldAddr 68 (.tmp 18) 4,0, "pool.go:68",#[⟨0,.phase⟩,⟨1,.phase⟩,⟨2,.phase⟩,⟨3,.phase⟩,⟨4,.phase⟩,⟨5,.phase⟩,⟨6,.phase⟩,⟨7,.phase⟩,⟨8,.phase⟩,⟨9,.phase⟩],none⟩ ?_ rfl ?_ Zic ?_
     rotate_left
     ·(intro U hSw;(try dsimp only at hSw);go_simp;first|done|with_reducible rfl)
     (try simp only[Act.put,ZA,ZB,ZC])
     have y4:=Zd z6 4 _ rfl
     have yf:=Zh z6 4
     have yl:=lt_of_block z6
     refine wpAnyH_ready (rs:=[11]) (by kernel_rfl) (by simp) ?_
     refine AllReadyH.cons (o:=⟨none,.store 48 (.tmp 70) (.tmp 69),0, "pool.go:68",#[⟨10,.data⟩,⟨9,.data⟩,⟨9,.chain⟩,⟨0,.phase⟩,⟨1,.phase⟩,⟨2,.phase⟩,⟨3,.phase⟩,⟨4,.phase⟩,⟨5,.phase⟩,⟨6,.phase⟩,⟨7,.phase⟩,⟨8,.phase⟩,⟨9,.phase⟩],none⟩) rfl (fun KQ hK=>?_) AllReadyH.nil
     go_simp
     refine hK.out _ _ ((Za KS2) _ _ hg26) (fun Zid=>?_)
     clear hK KQ Zic
     have Zic:=Zid
     clear Zid
     (try simp only[Act.put])
     refine wpAnyH_done (by kernel_rfl) ?_ _
     clear Zic
     go_wp2_with fail
     go_meet
     case rel=>exact Fa (K:=[Value.int .i64 h,.slice none 0 0,.slice po 1 1] :: Kl) (base:=w4.heap.size) (by rw[List.length_cons,Za HN3];omega) z6 hown6 (by omega) (by omega) (fun W2 g2=>(Za KEEP) W2 ((hg56.mono (fun q _ e=>.inr (by have e:q=w4.heap.size:=e;omega))).trans (g2.mono (fun q _ e=>.inl e)))) ((Gr.of hb25).far hg56 (fun q e=>.inl (by have e:q=w4.heap.size:=e;omega)))
   case rest=>
    obtain⟨ga,gn,gc,hbx,hrd,sg,hgx⟩:=Za hcut
    have CK:=Zb (Tv pr h wk nc ga gn gc (Uj h (r+F) lk :: S3) y wc (hrd wc (Gr.refl _ _)) (Za HY))
    have HRD:=Zb hrd
    have HSG:=Zb sg
    have HBX:=Zb hbx
    have HGX:=Zb hgx
    have e10:=Zd hbx 0 _ rfl
    have e11:=Zd hbx 1 _ rfl
    have e12:=Zd hbx 2 _ rfl
    have e13:=Zd hbx 3 _ rfl
    have e14:=Zd hbx 4 _ rfl
    have el:=lt_of_block hbx
    have hcb:Below w.heap.size w wc:=hgx.below (Za HB2) (Za HB2).size (fun q e=>by have e:q=w.heap.size+2:=e;omega)
    have HCB:=Zb hcb
    have HZC:=Zb ((hgx.block _ (lt_of_block (((Za H12).block _ (lt_of_block (Za HZ1))).trans (Za HZ1))) (fun e=>by have e:w.heap.size+1=w.heap.size+2:=e;omega)).trans (((Za H12).block _ (lt_of_block (Za HZ1))).trans (Za HZ1)))
    clear hrd sg hbx hgx hcb hcut KS KS2 CP c1 cl
    go_wp2_with fail
    refine (Za CK).mono ?_
    rintro e w7 ⟨rfl,hb7⟩
    have HB7:=Zb hb7
    have HBW:=Zb (Ze (Za HCB) hb7)
    have hb2x:=(hb7.block _ (lt_of_block (Za HBX))).trans (Za HBX)
    have q10:=Zd hb2x 0 _ rfl
    have q11:=Zd hb2x 1 _ rfl
    have q12:=Zd hb2x 2 _ rfl
    have q13:=Zd hb2x 3 _ rfl
    have q14:=Zd hb2x 4 _ rfl
    have qql:=lt_of_block hb2x
    have v:=(hb7.block _ (lt_of_block (Za HZC))).trans (Za HZC)
    have v0:=Zd v 0 _ rfl
    have vf0:=Zh v 0
    have v1:=Zd v 1 _ rfl
    have vf1:=Zh v 1
    have v2:=Zd v 2 _ rfl
    have vf2:=Zh v 2
    have v3:=Zd v 3 _ rfl
    have vf3:=Zh v 3
    have v4:=Zd v 4 _ rfl
    have vf4:=Zh v 4
    have vl:=lt_of_block v
    clear v
    clear hb7 hb2x CK e10 e11 e12 e13 e14 el
    by_cases ey:y=0
    ·have HXE:Hid ((x,bb)=(0,(pr,h,wk,nc,Uj h (r+F) lk :: S3))):=by have:=Za HX9;rw[if_neg (fun q=>q ey)] at this;exact this.symm
     subst ey
     have FIN:Hid (∀ W,Gr w7 W (fun q=>q=w.heap.size+1)→MkR w W x bb (.returned (.tuple #[.agg #[.int .i64 pr,.int .i64 h,.int .i64 wk,.int .i64 nc,.slice ga gn gc],.int .i64 0]))):=fun W g=>by
      have hxe:=Za HXE
      simp only[Prod.mk.injEq] at hxe
      obtain⟨rfl,rfl⟩:=hxe
      refine⟨ga,gn,gc,rfl,fun W2 g2=>(Za HRD) W2 ?_,Za HSG,g.below (Za HBW) (Za HBW).size (fun q e=>by have e:q=w.heap.size+1:=e;omega)⟩
      exact ((Gr.of (Za HB7)).trans (g.mono (fun q _ e=>by have e:q=w.heap.size+1:=e;omega))).trans (g2.mono (fun q _ e=>by omega))
     clear HXE HX9
     go_wp2
     (try simp only[Exit.inBlock,Exit.then])
     refine bodyPost_ret (v:=.tuple #[.agg #[.int .i64 pr,.int .i64 h,.int .i64 wk,.int .i64 nc,.slice ga gn gc],.int .i64 0]) ?_ rfl ?_
     ·rw[results_cell_tmp rfl]
      go_simp
     ·exact (Za FIN) _ ((Gr.refl w7 (fun q=>q=w.heap.size+1)).five (w.heap.size+1) (.inl rfl) _ _ _ _ _)
    ·have HXE:Hid ((x,bb)=(y,Xv)):=by have:=Za HX9;rw[if_pos ey] at this;exact this.symm
     have gy:(y != 0)=true:=by simp[ey]
     clear HX9
     go_wp2
     (try simp only[Exit.inBlock,Exit.then])
     refine bodyPost_ret (v:=.tuple #[.agg #[.int .i64 0,.int .i64 0,.int .i64 0,.int .i64 0,.slice none 0 0],.int .i64 y]) ?_ rfl ?_
     ·rw[results_cell_tmp rfl]
      go_simp
     ·exact MkR.err (B:=w.heap.size+1) (Za HXE) (Za HBW) ((Gr.refl w7 (fun q=>q=w.heap.size+1)).five (w.heap.size+1) (.inl rfl) _ _ _ _ _) (by omega)
end Go.Proofs.YtpikejjiignchaaGreatDoor
