import Derived.Test.YtpikejjiignchaaGreatDoorG42
set_option maxHeartbeats 6400000
set_option maxRecDepth 10000
namespace Go.Proofs.YtpikejjiignchaaGreatDoor
open Go.RowKit
def U0:List Zg→List Zg→Bool
 | [],[]=>true
 | x :: r,y :: q=>decide (x=y) && U0 r q
 | _,_=>false
theorem Tz:∀ (l k:List Zg),U0 l k=true↔l=k
 | [],[]=>by simp[U0]
 | [],y :: q=>by simp[U0]
 | x :: r,[]=>by simp[U0]
 | x :: r,y :: q=>by rw[U0,Bool.and_eq_true,decide_eq_true_eq,Tz r q,List.cons.injEq]
theorem Nu{l k:List Zg}(h:l≠k):U0 l k=false:=by
 rw[←Bool.not_eq_true,Tz];exact h
theorem Ty{l k:List Zg}(h:l=k):U0 l k=true:=(Tz l k).2 h
theorem Ff(a b:Option Addr)(n m c d:Nat)(v:Value)(w:World)(h:n≠m) :
  Calls Tryz.prog 42 #[.slice a n c,.slice b m d,v] w fun e w'=>e = .returned (.bool false)∧w=w':=by
 have g:((n:Int) != (m:Int))=true:=by simp;omega
 clear h
 go_enter Tryz.func42,Tryz.ntmps42
 go_wp2
 go_ret
 exact⟨rfl,rfl⟩
theorem Fe(a b:Option Addr)(c d:Nat)(v:Value)(w:World) :
  Calls Tryz.prog 42 #[.slice a 0 c,.slice b 0 d,v] w fun e w'=>e = .returned (.bool true)∧w=w':=by
 go_enter Tryz.func42,Tryz.ntmps42
 go_wp2
 refine wp_loop_rounds 1 ?_
 rw[rounds_succ]
 go_wp2
 go_ret
 exact⟨rfl,rfl⟩
theorem Me(x y:Zg)(a b:Option Addr)(n c m d:Nat)(o:Bool)(w:World)(hn:n≤maxLen)(hA:OpsAt w a n (ck x))(hB:OpsAt w b m (ck y))(ho:decide (x=y)=o) :
  Calls Tryz.prog 43 #[cnV x a n c,cnV y b m d] w fun e w'=>e = .returned (.bool o)∧Below w.heap.size w w':=by
 obtain⟨x1,x2,x3,k,x4,x5⟩:=x
 obtain⟨y1,y2,y3,l,y4,y5⟩:=y
 unfold cnV
 simp only[cv,ck,ch,cr] at hA hB ⊢
 obtain⟨X,hX⟩:∃ X,X=(w.alloc (.cells #[.int .i64 x1,.int .i64 x2,.int .i64 x3,.slice a n c,.int .i64 x4,.bool x5] 103)).alloc (.cells #[.int .i64 y1,.int .i64 y2,.int .i64 y3,.slice b m d,.int .i64 y4,.bool y5] 103):=⟨_,rfl⟩
 have hb:Below w.heap.size w X:=by rw[hX];exact Ze (Zf _ _) (Zf _ _)
 obtain⟨n0,n1,n2,n3,n4,n5⟩:=Jj w (.int .i64 x1) (.int .i64 x2) (.int .i64 x3) (.slice a n c) (.int .i64 x4) (.bool x5) 103
 obtain⟨m0,m1,m2,m3,m4,m5⟩:=Jj (w.alloc (.cells #[.int .i64 x1,.int .i64 x2,.int .i64 x3,.slice a n c,.int .i64 x4,.bool x5] 103)) (.int .i64 y1) (.int .i64 y2) (.int .i64 y3) (.slice b m d) (.int .i64 y4) (.bool y5) 103
 rw[show (w.alloc (.cells #[.int .i64 x1,.int .i64 x2,.int .i64 x3,.slice a n c,.int .i64 x4,.bool x5] 103)).heap.size=w.heap.size+1 by simp,←hX] at m0 m1 m2 m3 m4 m5
 have p4:X.cell? ⟨w.heap.size,4,none⟩=some (.int .i64 x4):=by rw[hX];exact Zc (Zf _ _) n4
 have p5:X.cell? ⟨w.heap.size,5,none⟩=some (.bool x5):=by rw[hX];exact Zc (Zf _ _) n5
 have HB:=Zb hb
 obtain⟨q,hq⟩:∃ q,decide ((x3,k)=(y3,l))=q:=⟨_,rfl⟩
 have C:=Zb (Ss (x3,k) (y3,l) a b n c m d q X hn (hA.later hb) (hB.later hb) hq)
 simp only at C
 have HO:Hid (o=(decide (x1=y1∧x2=y2) && (q && (decide (x4=y4) && decide (x5=y5))))):=by
  show _=_
  rw[←ho,←hq,Bool.eq_iff_iff]
  simp only[Prod.mk.injEq,Bool.and_eq_true,decide_eq_true_eq]
  constructor
  ·rintro ⟨h1,h2,h3,h4,h5,h6⟩;exact⟨⟨h1,h2⟩,⟨h3,h4⟩,h5,h6⟩
  ·rintro ⟨⟨h1,h2⟩,⟨h3,h4⟩,h5,h6⟩;exact⟨h1,h2,h3,h4,h5,h6⟩
 clear hA hB hb ho hq m0 m1 m2 m3 n0 n1 n2 n3 n4 n5
 by_cases e1:x1=y1∧x2=y2
 ·obtain⟨rfl,rfl⟩:=e1
  cases q with
  | false=>
   have R:Hid (o=false):=by show _=_;rw[Za HO];simp
   clear HO
   go_enter Tryz.func43,Tryz.ntmps43
   go_wp2_with fail
   rw[←hX]
   clear hX
   refine (Za C).mono ?_
   rintro e w2 ⟨rfl,hb2⟩
   have HB2:=Zb (Ze (Za HB) hb2)
   clear hb2
   go_wp2
   go_ret
   exact⟨by rw[Za R];rfl,Za HB2⟩
  | true=>
   by_cases e4:x4=y4
   ·subst e4
    by_cases e5:x5=y5
    ·subst e5
     have R:Hid (o=true):=by show _=_;rw[Za HO];simp
     clear HO
     go_enter Tryz.func43,Tryz.ntmps43
     go_wp2_with fail
     rw[←hX]
     clear hX
     refine (Za C).mono ?_
     rintro e w2 ⟨rfl,hb2⟩
     have r4:=Zc hb2 p4
     have r5:=Zc hb2 p5
     have s4:=Zc hb2 m4
     have s5:=Zc hb2 m5
     have HB2:=Zb (Ze (Za HB) hb2)
     clear hb2
     go_wp2
     go_ret
     exact⟨by rw[Za R];first|rfl|(cases x5 <;> rfl)|(simp;rfl),Za HB2⟩
    ·have R:Hid (o=false):=by show _=_;rw[Za HO];simp[e5]
     have g5:(x5 == y5)=false:=by simp[e5]
     clear HO
     go_enter Tryz.func43,Tryz.ntmps43
     go_wp2_with fail
     rw[←hX]
     clear hX
     refine (Za C).mono ?_
     rintro e w2 ⟨rfl,hb2⟩
     have r4:=Zc hb2 p4
     have r5:=Zc hb2 p5
     have s4:=Zc hb2 m4
     have s5:=Zc hb2 m5
     have HB2:=Zb (Ze (Za HB) hb2)
     clear hb2
     go_wp2
     go_ret
     exact⟨by rw[Za R];rfl,Za HB2⟩
   ·have R:Hid (o=false):=by show _=_;rw[Za HO];simp[e4]
    have g4:(x4 == y4)=false:=by simp[e4]
    clear HO
    go_enter Tryz.func43,Tryz.ntmps43
    go_wp2_with fail
    rw[←hX]
    clear hX
    refine (Za C).mono ?_
    rintro e w2 ⟨rfl,hb2⟩
    have r4:=Zc hb2 p4
    have s4:=Zc hb2 m4
    have HB2:=Zb (Ze (Za HB) hb2)
    clear hb2
    go_wp2
    go_ret
    exact⟨by rw[Za R];rfl,Za HB2⟩
 ·have R:Hid (o=false):=by show _=_;rw[Za HO,decide_eq_false e1,Bool.false_and]
  have HBX:Hid (Below w.heap.size w X):=HB
  rw[hX] at HBX
  clear HO C
  by_cases e2:x1=y1
  ·have e3:¬x2=y2:=fun q=>e1 ⟨e2,q⟩
   subst e2
   clear e1
   go_enter Tryz.func43,Tryz.ntmps43
   go_wp2
   go_ret
   exact⟨by rw[Za R];rfl,Za HBX⟩
  ·clear e1
   go_enter Tryz.func43,Tryz.ntmps43
   go_wp2
   go_ret
   exact⟨by rw[Za R];rfl,Za HBX⟩
theorem Tj(b1 o1 b2 o2 n c d:Nat)(l k:List Zg)(o:Bool)(w:World)(hn:n≤maxLen)(z1:l.length=n)(z2:k.length=n)
  (h1:∀ i (h:i<l.length),CoinAt w b1 (o1+i*6) l[i]) (h2:∀ i (h:i<k.length),CoinAt w b2 (o2+i*6) k[i]) (ho:U0 l k=o) :
  Calls Tryz.prog 42 #[.slice (some ⟨b1,o1,none⟩) n c,.slice (some ⟨b2,o2,none⟩) n d,.func (.func 43) #[] #[]] w fun e w'=>e = .returned (.bool o)∧Below w.heap.size w w':=by
 subst ho
 unfold maxLen at hn
 have H1:=Zb h1
 have H2:=Zb h2
 have Z1:=Zb z1
 have Z2:=Zb z2
 clear h1 h2 z1 z2
 go_enter Tryz.func42,Tryz.ntmps42
 go_wp2
 go_loopw [17] (fun i wr=>∃ j:Nat,j≤n∧i = .int .i64 j∧Below w.heap.size w wr∧Hid (l.take j=k.take j)) (fun i _=>n - (intOf i).toNat)
 case atStart=>exact⟨0,Nat.zero_le _,rfl,Below.refl _ _,rfl⟩
 case round=>
  obtain⟨j,hk,rfl,hb,A⟩:=hrel
  have HB:=Zb hb
  by_cases hlt:j<n
  ·have hl1:j<l.length:=by rw[Za Z1];exact hlt
   have hl2:j<k.length:=by rw[Za Z2];exact hlt
   have g:=CoinAt.kept _ _ _ _ _ hb ((Za H1) j hl1)
   have f:=CoinAt.kept _ _ _ _ _ hb ((Za H2) j hl2)
   have TS:=Zb (Va hl1 hl2 (Za A))
   have TU:=Zb (Xv hl1 hl2)
   obtain⟨q,hq⟩:∃ q,l[j]=q:=⟨_,rfl⟩
   obtain⟨r,hr⟩:∃ r,k[j]=r:=⟨_,rfl⟩
   rw[hq] at g
   rw[hr] at f
   rw[hq,hr] at TS TU
   obtain⟨qa,qn,qc,g0,g1,g2,g3,g4,g5,gO,gS⟩:=g.val
   obtain⟨ra,rn,rc,f0,f1,f2,f3,f4,f5,fO,fS⟩:=f.val
   have hb2:=Ze (Zf wr (.cells #[.int .i64 q.1,.int .i64 q.2.1,.int .i64 (cv q),.slice qa qn qc,.int .i64 (ch q),.bool (cr q)] 103)) (Zf _ (.cells #[.int .i64 r.1,.int .i64 r.2.1,.int .i64 (cv r),.slice ra rn rc,.int .i64 (ch r),.bool (cr r)] 103))
   obtain⟨o',ho'⟩:∃ o',decide (q=r)=o':=⟨_,rfl⟩
   have C:=Me q r qa ra qn qc rn rc o' _ gS.len (gO.later hb2) (fO.later hb2) ho'
   unfold cnV at C
   have HC:=Zb C
   have HB2:=Zb (Ze (Za HB) hb2)
   have hrl:b2<wr.heap.size:=World.block_lt_of_cell? _ _ f0
   have hkI:(j:Int)<(n:Int):=by omega
   clear hb g f hb2 C gO fO gS fS hq hr A
   cases o' with
   | true=>
    have T:=Zb ((Za TS) (of_decide_eq_true ho'))
    clear TS TU ho'
    go_wp2_with fail
    refine (Za HC).mono ?_
    rintro e w2 ⟨rfl,hb3⟩
    have HB3:=Zb (Ze (Za HB2) hb3)
    clear hb3
    go_wp2
    go_roundw
    case rel=>exact⟨j+1,by omega,by go_num,Za HB3,T⟩
    case measure=>simp[intOf];omega
   | false=>
    have U:Hid (U0 l k=false):=Nu ((Za TU) (of_decide_eq_false ho'))
    clear TS TU ho'
    go_wp2_with fail
    refine (Za HC).mono ?_
    rintro e w2 ⟨rfl,hb3⟩
    have HB3:=Zb (Ze (Za HB2) hb3)
    clear hb3
    go_wp2
    go_ret
    exact⟨by rw[Za U];rfl,Za HB3⟩
  ·have U:Hid (U0 l k=true):=by
    have h:=Za A
    rw[List.take_of_length_le (by rw[Za Z1];omega),List.take_of_length_le (by rw[Za Z2];omega)] at h
    exact Ty h
   clear A hb
   go_wp2
   go_ret
   exact⟨by rw[Za U];rfl,Za HB⟩
theorem Sj(a b:Option Addr)(n m c d:Nat)(l k:List Zg)(o:Bool)(w:World)(hn:n≤maxLen)(hA:CoinsAt w a n l)(hB:CoinsAt w b m k)(ho:U0 l k=o) :
  Calls Tryz.prog 42 #[.slice a n c,.slice b m d,.func (.func 43) #[] #[]] w fun e w'=>e = .returned (.bool o)∧Below w.heap.size w w':=by
 by_cases h:n=m
 ·subst h
  by_cases h0:n=0
  ·subst h0
   have e1:l=[]:=List.length_eq_zero_iff.1 hA.1
   have e2:k=[]:=List.length_eq_zero_iff.1 hB.1
   subst e1 e2
   rw[Ty rfl] at ho
   subst ho
   exact (Fe a b c d _ w).mono fun e w' ⟨h1,h2⟩=>⟨h1,h2 ▸ Below.refl _ _⟩
  ·obtain⟨b1,o1,rfl,_,h1⟩:=hA.2 (by omega)
   obtain⟨b2,o2,rfl,_,h2⟩:=hB.2 (by omega)
   exact Tj b1 o1 b2 o2 n c d l k o w hn hA.1 hB.1 h1 h2 ho
 ·have e:l≠k:=fun e=>h (by rw[←hA.1,←hB.1,e])
  rw[Nu e] at ho
  subst ho
  exact (Ff a b n m c d _ w h).mono fun e w' ⟨h1,h2⟩=>⟨h1,h2 ▸ Below.refl _ _⟩
theorem Kg(a b:Option Addr)(n m c d:Nat)(l k:List Zg)(o:Bool)(w:World)(hn:n≤maxLen)(hA:CoinsAt w a n l)(hB:CoinsAt w b m k)(ho:U0 l k=o) :
  Calls Tryz.prog 16 #[.slice a n c,.slice b m d] w fun e w'=>e = .returned (.bool o)∧Below w.heap.size w w':=by
 have C:=Zb (Sj a b n m c d l k o w hn hA hB ho)
 clear hA hB ho
 go_enter Tryz.func16,Tryz.ntmps16
 go_wp2_with fail
 refine (Za C).mono ?_
 rintro e w2 ⟨rfl,hb2⟩
 have HB2:=Zb hb2
 clear hb2
 go_wp2
 go_ret
 exact⟨rfl,Za HB2⟩
def FeI(w:World)(b:Nat)(F:Int):Prop:=w.heap[b]? = some (.cells #[.int .i64 F] 3 (0,0))
theorem Ec(b b2 p:Nat)(va:Option Addr)(vc:Nat)(K:List (List Value))(L:List TxD)(fee:Int)(u0 u1 u2:Value)(t:TxD)(wA w:World)(h:PSt b p wA (.slice va L.length vc) K L)(F:Int)(h2:FeI wA b2 F)(hne:b≠b2)(hb2:b2<p)(f1:0≤F)(f2:F≤1000000000)(f3:0≤fee)(f4:fee≤1000000000)(hb:Below wA.heap.size wA w)(hF:Fresh wA.heap.size w (fun w2=>Tr.txR.C w2 [u0,u1,u2] t))(hl:L.length<8) :
  Calls Tryz.prog 50 (#[.agg #[u0,u1,u2],.int .i64 fee]++#[.pointer (some ⟨b,0,none⟩),.pointer (some ⟨b2,0,none⟩)]) w fun e w'=>e = .returned (.tuple #[])∧(∃ v',∃ K',PSt b p w' v' K' (L++[t])∧FeI w' b2 (F+fee))∧Gr w w' (fun q=>(q=b∨q=b2)∨(Value.slice va L.length vc).ownBlock=some q):=by
 obtain⟨i0,hi,hz0,hz1,hz2⟩:=info_parts Tryz.infoTx9
 obtain⟨ai,ni,ci,ao,no,co,e,_⟩:=hF w (Gr.refl _ _)
 simp only[List.cons.injEq,and_true] at e
 obtain⟨rfl,rfl,rfl⟩:=e
 obtain⟨U,hU⟩:∃ U,U=(w.alloc (.cells #[.int .i64 t.1,.slice ai ni ci,.slice ao no co] 52)).alloc (.cells #[.int .i64 t.1,.slice ai ni ci,.slice ao no co] 52):=⟨_,rfl⟩
 have hbU:Below w.heap.size w U:=by rw[hU];exact Ze (Zf _ _) (Zf _ _)
 have hU1:U.heap[w.heap.size+1]? = some (.cells #[.int .i64 t.1,.slice ai ni ci,.slice ao no co] 52 (0,0)):=by
  rw[hU]
  have:=Zk (w.alloc (.cells #[.int .i64 t.1,.slice ai ni ci,.slice ao no co] 52)) (.int .i64 t.1) (.slice ai ni ci) (.slice ao no co) 52
  rw[show (w.alloc (.cells #[.int .i64 t.1,.slice ai ni ci,.slice ao no co] 52)).heap.size=w.heap.size+1 by simp] at this
  exact this
 have hUs:U.heap.size=w.heap.size+2:=by rw[hU];simp
 have hbp:=h.bp
 have hpl:=h.pl
 have hsz:=hb.size
 have hAU:=Ze hb hbU
 have OWNU:U.ownsRow (p+1) 52 3 (.slice va L.length vc) L.length K.flatten:=(Gr.of (S:=fun _=>False) hAU).own h.own (fun _ _ q=>q)
 have bxw:=(hb.block b (by omega)).trans h.box
 have bxU:=(hAU.block b (by omega)).trans h.box
 have b0:=Zd bxw 0 _ rfl
 have bl:b<w.heap.size:=lt_of_block bxw
 have fxU:=(hAU.block b2 (by omega)).trans h2
 have NEWR:Hid (∀ j u,[Value.int .i64 t.1,.slice ai ni ci,.slice ao no co][j]? = some u→World.cell? ((w.alloc (.cells #[.int .i64 t.1,.slice ai ni ci,.slice ao no co] 52)).alloc (.cells #[.int .i64 t.1,.slice ai ni ci,.slice ao no co] 52)) ((⟨w.heap.size+1,0,none⟩:Addr).add j)=some u):=by rw[←hU];exact World.news_of_block hU1
 have OWNR:Hid (World.ownsRow ((w.alloc (.cells #[.int .i64 t.1,.slice ai ni ci,.slice ao no co] 52)).alloc (.cells #[.int .i64 t.1,.slice ai ni ci,.slice ao no co] 52)) (p+1) 52 3 (.slice va L.length vc) L.length K.flatten):=by rw[←hU];exact OWNU
 have SZR:p+1≤((w.alloc (.cells #[.int .i64 t.1,.slice ai ni ci,.slice ao no co] 52)).alloc (.cells #[.int .i64 t.1,.slice ai ni ci,.slice ao no co] 52)).heap.size:=by rw[←hU];omega
 have HNB:Hid (∀ q,q≤p→(Value.slice va L.length vc).ownBlock≠some q):=fun q hq e=>by have:=(h.own.lt q e).1;omega
 have HH:=Zb h
 have HBW:=Zb hb
 have HFF:=Zb hF
 have HBU:=Zb hbU
 have BXU:=Zb bxU
 have HLL:=Zb hl
 obtain⟨n,hn⟩:∃ n,L.length=n:=⟨_,rfl⟩
 have FXU:=Zb fxU
 have fw:w.cell? ⟨b2,0,none⟩=some (.int .i64 F):=Zd ((hb.block b2 (by omega)).trans h2) 0 _ rfl
 have HN:=Zb hn
 rw[hn] at OWNR HLL b0 HNB BXU HH bxU
 simp only[hn]
 clear h hb hF hbU hU1 OWNU bxw hAU hpl hsz hn hl h2 fxU
 go_enter Tryz.func50,Tryz.ntmps50
 go_wp2_with (at_builtin;refine wpList_append_lies _ rfl _ _ 48 rfl (p+1) 52 i0 (.agg #[.int .i64 0,.slice none 0 0,.slice none 0 0]) 3 56 Tryz.underlying48 hi hz0 hz1 hz2 rfl (by decide) _ _ _ rfl (Za OWNR) ⟨w.heap.size+1,0,none⟩ 1 1 [.int .i64 t.1,.slice ai ni ci,.slice ao no co] rfl rfl (Za NEWR) (fun u hu=>by simp at hu;rcases hu with rfl|rfl|rfl <;> rfl) (by decide) (by have:=Za HLL;unfold maxLen;omega) (by have:=Za HLL;omega) SZR _ rfl ?_;intro g7 cap7 w7 hown7 hgrow7 hor7 _;rw[←hU] at hgrow7 hor7;have hx7:=(hgrow7.block b (lt_of_block (Za BXU)) (fun e=>(Za HNB) b (by omega) e.symm)).trans (Za BXU);have HX7:=Zb hx7;have HO7:=Zb hown7;have HG7:=Zb hgrow7;have HOR7:=Zb hor7;have yy0:=Zd hx7 0 _ rfl;have yyl:=lt_of_block hx7;have yyf:=Zh hx7 0;have hf7:=(hgrow7.block b2 (lt_of_block (Za FXU)) (fun e=>(Za HNB) b2 (by omega) e.symm)).trans (Za FXU);have HF7:=Zb hf7;have ff0:=Zd hf7 0 _ rfl;have ffl:=lt_of_block hf7;have fff:=Zh hf7 0;clear hf7;clear hx7 hown7 hgrow7 hor7)
 have PU:=PSt.push (v':=.slice (some ⟨g7,0,none⟩) (n+1) cap7) (Za HH) (Za HBW) (Za HFF) (Za HBU) (Za HG7) (by rw[Za HN];exact Za HO7) (by
  rcases Za HOR7 with q|q
  ·exact .inl q
  ·exact .inr ⟨g7,rfl,by omega⟩)
 have g9:Gr (w7.setCell ⟨b,0,none⟩ (.slice (some ⟨g7,0,none⟩) (n+1) cap7)) ((w7.setCell ⟨b,0,none⟩ (.slice (some ⟨g7,0,none⟩) (n+1) cap7)).setCell ⟨b2,0,none⟩ (.int .i64 (F+fee))) (fun q=>q=b2):=(Gr.refl _ (fun q=>q=b2)).one b2 0 (.inl rfl) _
 have R1:=Zb (PU.1.on g9 (fun q e=>by subst e;exact⟨by omega,fun q=>hne q.symm⟩))
 have R2:Hid (FeI ((w7.setCell ⟨b,0,none⟩ (.slice (some ⟨g7,0,none⟩) (n+1) cap7)).setCell ⟨b2,0,none⟩ (.int .i64 (F+fee))) b2 (F+fee)):=V5 ((heap_setCell_other w7 ⟨b,0,none⟩ b2 _ (fun e=>hne e.symm)).trans (Za HF7))
 have R3:Hid (Gr w ((w7.setCell ⟨b,0,none⟩ (.slice (some ⟨g7,0,none⟩) (n+1) cap7)).setCell ⟨b2,0,none⟩ (.int .i64 (F+fee))) (fun q=>(q=b∨q=b2)∨(Value.slice va n vc).ownBlock=some q)):=(PU.2.mono (fun q _ e=>e.elim (fun e=>.inl (.inl e)) .inr)).trans (g9.mono (fun q _ e=>.inl (.inr e)))
 clear PU g9
 (try go_wp2)
 ((try simp only[Exit.inBlock,Exit.then]);first|refine bodyPost_end (results_none rfl _ _ _) rfl ?_|refine bodyPost_ret (results_none rfl _ _ _) rfl ?_)
 exact⟨rfl,⟨_,_,Za R1,Za R2⟩,Za R3⟩
theorem Bv(b p:Nat)(va:Option Addr)(vc:Nat)(K:List (List Value))(L:List TxD)(fee:Int)(u0 u1 u2:Value)(t:TxD)(wA w:World)(h:PSt b p wA (.slice va L.length vc) K L)(hb:Below wA.heap.size wA w)(hF:Fresh wA.heap.size w (fun w2=>Tr.txR.C w2 [u0,u1,u2] t))(hl:L.length<8) :
  Calls Tryz.prog 51 (#[.agg #[u0,u1,u2],.int .i64 fee]++#[.pointer (some ⟨b,0,none⟩)]) w fun e w'=>e = .returned (.tuple #[])∧(∃ v',∃ K',PSt b p w' v' K' (L++[t]))∧Gr w w' (fun q=>q=b∨(Value.slice va L.length vc).ownBlock=some q):=by
 obtain⟨i0,hi,hz0,hz1,hz2⟩:=info_parts Tryz.infoTx9
 obtain⟨ai,ni,ci,ao,no,co,e,_⟩:=hF w (Gr.refl _ _)
 simp only[List.cons.injEq,and_true] at e
 obtain⟨rfl,rfl,rfl⟩:=e
 obtain⟨U,hU⟩:∃ U,U=(w.alloc (.cells #[.int .i64 t.1,.slice ai ni ci,.slice ao no co] 52)).alloc (.cells #[.int .i64 t.1,.slice ai ni ci,.slice ao no co] 52):=⟨_,rfl⟩
 have hbU:Below w.heap.size w U:=by rw[hU];exact Ze (Zf _ _) (Zf _ _)
 have hU1:U.heap[w.heap.size+1]? = some (.cells #[.int .i64 t.1,.slice ai ni ci,.slice ao no co] 52 (0,0)):=by
  rw[hU]
  have:=Zk (w.alloc (.cells #[.int .i64 t.1,.slice ai ni ci,.slice ao no co] 52)) (.int .i64 t.1) (.slice ai ni ci) (.slice ao no co) 52
  rw[show (w.alloc (.cells #[.int .i64 t.1,.slice ai ni ci,.slice ao no co] 52)).heap.size=w.heap.size+1 by simp] at this
  exact this
 have hUs:U.heap.size=w.heap.size+2:=by rw[hU];simp
 have hbp:=h.bp
 have hpl:=h.pl
 have hsz:=hb.size
 have hAU:=Ze hb hbU
 have OWNU:U.ownsRow (p+1) 52 3 (.slice va L.length vc) L.length K.flatten:=(Gr.of (S:=fun _=>False) hAU).own h.own (fun _ _ q=>q)
 have bxw:=(hb.block b (by omega)).trans h.box
 have bxU:=(hAU.block b (by omega)).trans h.box
 have b0:=Zd bxw 0 _ rfl
 have bl:b<w.heap.size:=lt_of_block bxw
 have NEWR:Hid (∀ j u,[Value.int .i64 t.1,.slice ai ni ci,.slice ao no co][j]? = some u→World.cell? ((w.alloc (.cells #[.int .i64 t.1,.slice ai ni ci,.slice ao no co] 52)).alloc (.cells #[.int .i64 t.1,.slice ai ni ci,.slice ao no co] 52)) ((⟨w.heap.size+1,0,none⟩:Addr).add j)=some u):=by rw[←hU];exact World.news_of_block hU1
 have OWNR:Hid (World.ownsRow ((w.alloc (.cells #[.int .i64 t.1,.slice ai ni ci,.slice ao no co] 52)).alloc (.cells #[.int .i64 t.1,.slice ai ni ci,.slice ao no co] 52)) (p+1) 52 3 (.slice va L.length vc) L.length K.flatten):=by rw[←hU];exact OWNU
 have SZR:p+1≤((w.alloc (.cells #[.int .i64 t.1,.slice ai ni ci,.slice ao no co] 52)).alloc (.cells #[.int .i64 t.1,.slice ai ni ci,.slice ao no co] 52)).heap.size:=by rw[←hU];omega
 have HNB:Hid (∀ q,q≤p→(Value.slice va L.length vc).ownBlock≠some q):=fun q hq e=>by have:=(h.own.lt q e).1;omega
 have HH:=Zb h
 have HBW:=Zb hb
 have HFF:=Zb hF
 have HBU:=Zb hbU
 have BXU:=Zb bxU
 have HLL:=Zb hl
 obtain⟨n,hn⟩:∃ n,L.length=n:=⟨_,rfl⟩
 have HN:=Zb hn
 rw[hn] at OWNR HLL b0 HNB BXU HH bxU
 simp only[hn]
 clear h hb hF hbU hU1 OWNU bxw hAU hpl hsz hn hl
 go_enter Tryz.func51,Tryz.ntmps51
 go_wp2_with (at_builtin;refine wpList_append_lies _ rfl _ _ 48 rfl (p+1) 52 i0 (.agg #[.int .i64 0,.slice none 0 0,.slice none 0 0]) 3 56 Tryz.underlying48 hi hz0 hz1 hz2 rfl (by decide) _ _ _ rfl (Za OWNR) ⟨w.heap.size+1,0,none⟩ 1 1 [.int .i64 t.1,.slice ai ni ci,.slice ao no co] rfl rfl (Za NEWR) (fun u hu=>by simp at hu;rcases hu with rfl|rfl|rfl <;> rfl) (by decide) (by have:=Za HLL;unfold maxLen;omega) (by have:=Za HLL;omega) SZR _ rfl ?_;intro g7 cap7 w7 hown7 hgrow7 hor7 _;rw[←hU] at hgrow7 hor7;have hx7:=(hgrow7.block b (lt_of_block (Za BXU)) (fun e=>(Za HNB) b (by omega) e.symm)).trans (Za BXU);have HX7:=Zb hx7;have HO7:=Zb hown7;have HG7:=Zb hgrow7;have HOR7:=Zb hor7;have yy0:=Zd hx7 0 _ rfl;have yyl:=lt_of_block hx7;have yyf:=Zh hx7 0;clear hx7 hown7 hgrow7 hor7)
 have PU:=PSt.push (v':=.slice (some ⟨g7,0,none⟩) (n+1) cap7) (Za HH) (Za HBW) (Za HFF) (Za HBU) (Za HG7) (by rw[Za HN];exact Za HO7) (by
  rcases Za HOR7 with q|q
  ·exact .inl q
  ·exact .inr ⟨g7,rfl,by omega⟩)
 have HPU:=Zb PU
 clear PU
 (try go_wp2)
 ((try simp only[Exit.inBlock,Exit.then]);first|refine bodyPost_end (results_none rfl _ _ _) rfl ?_|refine bodyPost_ret (results_none rfl _ _ _) rfl ?_)
 exact⟨rfl,⟨_,_,(Za HPU).1⟩,(Za HPU).2⟩
theorem Zdf(b b2 p:Nat)(va:Option Addr)(vc:Nat)(K:List (List Value))(L:List TxD)(fee:Int)(u0 u1 u2:Value)(t:TxD)(wA w:World)(h:PSt b p wA (.slice va L.length vc) K L)(F:Int)(h2:FeI wA b2 F)(hne:b≠b2)(hb2:b2<p)(f1:0≤F)(f2:F≤1000000000)(f3:0≤fee)(f4:fee≤1000000000)(hb:Below wA.heap.size wA w)(hF:Fresh wA.heap.size w (fun w2=>Tr.txR.C w2 [u0,u1,u2] t))(hl:L.length<3) :
  Calls Tryz.prog 65 (#[.agg #[u0,u1,u2],.int .i64 fee]++#[.pointer (some ⟨b,0,none⟩),.pointer (some ⟨b2,0,none⟩)]) w fun e w'=>e = .returned (.tuple #[])∧(∃ v',∃ K',PSt b p w' v' K' (L++[t])∧FeI w' b2 (F+fee))∧Gr w w' (fun q=>(q=b∨q=b2)∨(Value.slice va L.length vc).ownBlock=some q):=by
 obtain⟨i0,hi,hz0,hz1,hz2⟩:=info_parts Tryz.infoTx9
 obtain⟨ai,ni,ci,ao,no,co,e,_⟩:=hF w (Gr.refl _ _)
 simp only[List.cons.injEq,and_true] at e
 obtain⟨rfl,rfl,rfl⟩:=e
 obtain⟨U,hU⟩:∃ U,U=(w.alloc (.cells #[.int .i64 t.1,.slice ai ni ci,.slice ao no co] 52)).alloc (.cells #[.int .i64 t.1,.slice ai ni ci,.slice ao no co] 52):=⟨_,rfl⟩
 have hbU:Below w.heap.size w U:=by rw[hU];exact Ze (Zf _ _) (Zf _ _)
 have hU1:U.heap[w.heap.size+1]? = some (.cells #[.int .i64 t.1,.slice ai ni ci,.slice ao no co] 52 (0,0)):=by
  rw[hU]
  have:=Zk (w.alloc (.cells #[.int .i64 t.1,.slice ai ni ci,.slice ao no co] 52)) (.int .i64 t.1) (.slice ai ni ci) (.slice ao no co) 52
  rw[show (w.alloc (.cells #[.int .i64 t.1,.slice ai ni ci,.slice ao no co] 52)).heap.size=w.heap.size+1 by simp] at this
  exact this
 have hUs:U.heap.size=w.heap.size+2:=by rw[hU];simp
 have hbp:=h.bp
 have hpl:=h.pl
 have hsz:=hb.size
 have hAU:=Ze hb hbU
 have OWNU:U.ownsRow (p+1) 52 3 (.slice va L.length vc) L.length K.flatten:=(Gr.of (S:=fun _=>False) hAU).own h.own (fun _ _ q=>q)
 have bxw:=(hb.block b (by omega)).trans h.box
 have bxU:=(hAU.block b (by omega)).trans h.box
 have b0:=Zd bxw 0 _ rfl
 have bl:b<w.heap.size:=lt_of_block bxw
 have fxU:=(hAU.block b2 (by omega)).trans h2
 have NEWR:Hid (∀ j u,[Value.int .i64 t.1,.slice ai ni ci,.slice ao no co][j]? = some u→World.cell? ((w.alloc (.cells #[.int .i64 t.1,.slice ai ni ci,.slice ao no co] 52)).alloc (.cells #[.int .i64 t.1,.slice ai ni ci,.slice ao no co] 52)) ((⟨w.heap.size+1,0,none⟩:Addr).add j)=some u):=by rw[←hU];exact World.news_of_block hU1
 have OWNR:Hid (World.ownsRow ((w.alloc (.cells #[.int .i64 t.1,.slice ai ni ci,.slice ao no co] 52)).alloc (.cells #[.int .i64 t.1,.slice ai ni ci,.slice ao no co] 52)) (p+1) 52 3 (.slice va L.length vc) L.length K.flatten):=by rw[←hU];exact OWNU
 have SZR:p+1≤((w.alloc (.cells #[.int .i64 t.1,.slice ai ni ci,.slice ao no co] 52)).alloc (.cells #[.int .i64 t.1,.slice ai ni ci,.slice ao no co] 52)).heap.size:=by rw[←hU];omega
 have HNB:Hid (∀ q,q≤p→(Value.slice va L.length vc).ownBlock≠some q):=fun q hq e=>by have:=(h.own.lt q e).1;omega
 have HH:=Zb h
 have HBW:=Zb hb
 have HFF:=Zb hF
 have HBU:=Zb hbU
 have BXU:=Zb bxU
 have HLL:=Zb hl
 obtain⟨n,hn⟩:∃ n,L.length=n:=⟨_,rfl⟩
 have FXU:=Zb fxU
 have fw:w.cell? ⟨b2,0,none⟩=some (.int .i64 F):=Zd ((hb.block b2 (by omega)).trans h2) 0 _ rfl
 have HN:=Zb hn
 rw[hn] at OWNR HLL b0 HNB BXU HH bxU
 simp only[hn]
 clear h hb hF hbU hU1 OWNU bxw hAU hpl hsz hn hl h2 fxU
 go_enter Tryz.func65,Tryz.ntmps65
 have gl:(n:Int)<3:=by have:=Za HLL;omega
 go_wp2_with (at_builtin;refine wpList_append_lies _ rfl _ _ 48 rfl (p+1) 52 i0 (.agg #[.int .i64 0,.slice none 0 0,.slice none 0 0]) 3 56 Tryz.underlying48 hi hz0 hz1 hz2 rfl (by decide) _ _ _ rfl (Za OWNR) ⟨w.heap.size+1,0,none⟩ 1 1 [.int .i64 t.1,.slice ai ni ci,.slice ao no co] rfl rfl (Za NEWR) (fun u hu=>by simp at hu;rcases hu with rfl|rfl|rfl <;> rfl) (by decide) (by have:=Za HLL;unfold maxLen;omega) (by have:=Za HLL;omega) SZR _ rfl ?_;intro g7 cap7 w7 hown7 hgrow7 hor7 _;rw[←hU] at hgrow7 hor7;have hx7:=(hgrow7.block b (lt_of_block (Za BXU)) (fun e=>(Za HNB) b (by omega) e.symm)).trans (Za BXU);have HX7:=Zb hx7;have HO7:=Zb hown7;have HG7:=Zb hgrow7;have HOR7:=Zb hor7;have yy0:=Zd hx7 0 _ rfl;have yyl:=lt_of_block hx7;have yyf:=Zh hx7 0;have hf7:=(hgrow7.block b2 (lt_of_block (Za FXU)) (fun e=>(Za HNB) b2 (by omega) e.symm)).trans (Za FXU);have HF7:=Zb hf7;have ff0:=Zd hf7 0 _ rfl;have ffl:=lt_of_block hf7;have fff:=Zh hf7 0;clear hf7;clear hx7 hown7 hgrow7 hor7)
 have PU:=PSt.push (v':=.slice (some ⟨g7,0,none⟩) (n+1) cap7) (Za HH) (Za HBW) (Za HFF) (Za HBU) (Za HG7) (by rw[Za HN];exact Za HO7) (by
  rcases Za HOR7 with q|q
  ·exact .inl q
  ·exact .inr ⟨g7,rfl,by omega⟩)
 have g9:Gr (w7.setCell ⟨b,0,none⟩ (.slice (some ⟨g7,0,none⟩) (n+1) cap7)) ((w7.setCell ⟨b,0,none⟩ (.slice (some ⟨g7,0,none⟩) (n+1) cap7)).setCell ⟨b2,0,none⟩ (.int .i64 (F+fee))) (fun q=>q=b2):=(Gr.refl _ (fun q=>q=b2)).one b2 0 (.inl rfl) _
 have R1:=Zb (PU.1.on g9 (fun q e=>by subst e;exact⟨by omega,fun q=>hne q.symm⟩))
 have R2:Hid (FeI ((w7.setCell ⟨b,0,none⟩ (.slice (some ⟨g7,0,none⟩) (n+1) cap7)).setCell ⟨b2,0,none⟩ (.int .i64 (F+fee))) b2 (F+fee)):=V5 ((heap_setCell_other w7 ⟨b,0,none⟩ b2 _ (fun e=>hne e.symm)).trans (Za HF7))
 have R3:Hid (Gr w ((w7.setCell ⟨b,0,none⟩ (.slice (some ⟨g7,0,none⟩) (n+1) cap7)).setCell ⟨b2,0,none⟩ (.int .i64 (F+fee))) (fun q=>(q=b∨q=b2)∨(Value.slice va n vc).ownBlock=some q)):=(PU.2.mono (fun q _ e=>e.elim (fun e=>.inl (.inl e)) .inr)).trans (g9.mono (fun q _ e=>.inl (.inr e)))
 clear PU g9
 (try go_wp2)
 ((try simp only[Exit.inBlock,Exit.then]);first|refine bodyPost_end (results_none rfl _ _ _) rfl ?_|refine bodyPost_ret (results_none rfl _ _ _) rfl ?_)
 exact⟨rfl,⟨_,_,Za R1,Za R2⟩,Za R3⟩
theorem At(b b2 p:Nat)(va:Option Addr)(vc:Nat)(K:List (List Value))(L:List TxD)(fee:Int)(u0 u1 u2:Value)(t:TxD)(wA w:World)(h:PSt b p wA (.slice va L.length vc) K L)(hb:Below wA.heap.size wA w)(hF:Fresh wA.heap.size w (fun w2=>Tr.txR.C w2 [u0,u1,u2] t))(hl:3≤L.length) :
  Calls Tryz.prog 65 (#[.agg #[u0,u1,u2],.int .i64 fee]++#[.pointer (some ⟨b,0,none⟩),.pointer (some ⟨b2,0,none⟩)]) w fun e w'=>e = .returned (.tuple #[])∧Below w.heap.size w w':=by
 obtain⟨ai,ni,ci,ao,no,co,e,_⟩:=hF w (Gr.refl _ _)
 simp only[List.cons.injEq,and_true] at e
 obtain⟨rfl,rfl,rfl⟩:=e
 have HB:=Zb (Zf w (.cells #[.int .i64 t.1,.slice ai ni ci,.slice ao no co] 52))
 have hbp:=h.bp
 have hpl:=h.pl
 have bxw:=(hb.block b (by omega)).trans h.box
 have b0:=Zd bxw 0 _ rfl
 have bl:b<w.heap.size:=lt_of_block bxw
 have gl:¬((L.length:Int)<3):=by omega
 obtain⟨n,hn⟩:∃ n,L.length=n:=⟨_,rfl⟩
 rw[hn] at b0 gl
 clear h hb hF hbp hpl bxw hl hn
 go_enter Tryz.func65,Tryz.ntmps65
 go_wp2
 ((try simp only[Exit.inBlock,Exit.then]);first|refine bodyPost_end (results_none rfl _ _ _) rfl ?_|refine bodyPost_ret (results_none rfl _ _ _) rfl ?_)
 exact⟨rfl,Za HB⟩
def D0(lo hi:Nat):Nat→Prop:=fun q=>(lo≤q∧q<hi)∨(Value.slice none 0 0).ownBlock=some q
theorem D0.ge{lo hi q:Nat}(h:D0 lo hi q):lo≤q∧q<hi:=by
 rcases h with h|h
 ·exact h
 ·cases h
def DV(lo hi:Nat)(v:Value):Nat→Prop:=fun q=>(lo≤q∧q<hi)∨v.ownBlock=some q
theorem DV.dirty{lo hi b p:Nat}{w:World}{v:Value}{K:List (List Value)}{L:List TxD}{N0:Nat}(h:PSt b p w v K L)(hh:hi≤N0)(hp:N0≤p)(q:Nat)(hq:DV lo hi v q):q≠p∧q<w.heap.size∧(D0 lo hi q∨N0≤q):=by
 have:=h.pl
 rcases hq with e|e
 ·exact⟨by omega,by omega,.inl (.inl e)⟩
 ·have:=h.own.lt q e
  exact⟨by omega,this.2,.inr (by omega)⟩
def SwI(b b2 lo hi N0:Nat)(C0:List Zg)(p:Nat)(D:Nat→Prop)(w:World)(X:List (TxD×List Zg)):Prop:=
 ∃ va vc K,PSt b p w (.slice va (X.map (·.1)).length vc) K (X.map (·.1))∧FeI w b2 (Zm C0 - Zm (Xh C0 X))∧N0≤p∧D=DV lo hi (.slice va (X.map (·.1)).length vc)∧0≤Zm C0 - Zm (Xh C0 X)∧(X=[]∨(Zm C0≤1000000000∧Z7 (Xh C0 X)))
theorem Gi{C:List Zg}(h:Z7 C):0≤Zm C:=Wl C (fun c hc=>by have:=Yp (h.one c hc);omega)
theorem Zht(b b2 lo hi:Nat)(w0:World)(C0:List Zg)(hb:w0.heap[b]? = some (.cells #[.slice none 0 0] 48 (0,0)))(hb2:FeI w0 b2 0)(h1:lo≤b∧b<hi)(h2:lo≤b2∧b2<hi)(hne:b≠b2)(hhi:hi≤w0.heap.size) :
  Zgw 50 #[.pointer (some ⟨b,0,none⟩),.pointer (some ⟨b2,0,none⟩)] w0 C0 (D0 lo hi) (SwI b b2 lo hi w0.heap.size C0) where
 enters:=enters_of (fn:=Tryz.f50) (by kernel_rfl) (by kernel_rfl) rfl
 start p w hw hp pl:=⟨none,0,[],PSt.start ((hw.block b (by omega)).trans hb) (by omega) pl,by
  have:Zm C0 - Zm (Xh C0 [])=0:=by rw[Vb];omega
  unfold FeI;rw[this];exact (hw.block b2 (by omega)).trans hb2,hp,rfl,by rw[Vb];omega,.inl rfl⟩
 dirty p D w X:=by
  rintro ⟨va,vc,K,h,_,hp,rfl,_⟩ q hq
  exact DV.dirty h hhi hp q hq
 on p D w w' X:=by
  rintro ⟨va,vc,K,h,hf,hp,hD,r⟩ g
  exact⟨va,vc,K,h.on g (fun q e=>by subst e;exact⟨Nat.le_refl _,by omega⟩),(g.block b2 (lt_of_block hf) (fun e=>by have e:b2=p:=e;omega)).trans hf,hp,hD,r⟩
 call p D wA w X t C' u0 u1 u2:=by
  rintro ⟨va,vc,K,h,hf,hp,rfl,h0,hr⟩ hbw hF r1 r2 r3 hl
  have hs:Zm C0≤1000000000:=by
   rcases hr with rfl|hr
   ·rw[Vb] at r1;exact r1.sum
   ·exact hr.1
  have n1:=Gi r1
  have n2:=Gi r2
  have n3:=r1.sum
  refine (Ec b b2 p va vc K (X.map (·.1)) _ u0 u1 u2 t wA w h _ hf hne (by omega) h0 (by omega) (by omega) (by omega) hbw hF (by rw[List.length_map];exact hl)).mono ?_
  rintro e w' ⟨rfl,⟨v',K',hS,hf'⟩,hg⟩
  obtain⟨a,c,rfl,_,_⟩:=hS.txs
  have e1:(X++[(t,C')]).map (·.1)=X.map (·.1)++[t]:=by simp
  refine⟨rfl,hg.mono (fun q _ e=>?_),DV lo hi (.slice a ((X++[(t,C')]).map (·.1)).length c),a,c,K',?_,?_,hp,rfl,?_,.inr ⟨hs,?_⟩⟩
  ·rcases e with (e|e)|e
   ·subst e;exact .inl h1
   ·subst e;exact .inl h2
   ·exact .inr e
  ·rw[e1];exact hS
  ·rw[Wi]
   have:Zm C0 - Zm (Xh C0 X)+(Zm (Xh C0 X) - Zm C')=Zm C0 - Zm C':=by omega
   rw[←this];exact hf'
  ·rw[Wi];omega
  ·rw[Wi];exact r2
theorem PSt.reads{b p:Nat}{w w2:World}{va:Option Addr}{vc:Nat}{K:List (List Value)}{L:List TxD}{S:Nat→Prop}(h:PSt b p w (.slice va L.length vc) K L)(g:Gr w w2 S)(hS:∀ q,S q→q≤p):TxsAt w2 va L.length L∧SlOk va L.length vc:=by
 have o:=g.own h.own (fun k hk e=>by have:=(h.own.lt k hk).1;have:=hS k e;omega)
 obtain⟨a,c,e,h1,h2⟩:=Tr.rows_of_own Tr.txR o (h.kept w2 (g.mono (fun q _ e=>.inl (hS q e)))) rfl
 injection e with e1 _ e3
 subst e1 e3
 exact⟨h1,h2⟩
def Zev(w w':World)(x:Int)(K:List ByteArray)(L:List TxD)(C:List Zg)(f:Int)(e:Ending):Prop:=
 ∃ ka kn kc sa sn sc ca cn cc,e = .returned (.tuple #[.agg #[.slice ka kn kc],.slice sa sn sc,.slice ca cn cc,.int .i64 f,.int .i64 x]) ∧
  Fresh w.heap.size w' (fun w2=>Bk.TextsAt w2 ka kn K∧TxsAt w2 sa sn L∧CoinsAt w2 ca cn C)∧SlOk ka kn kc∧SlOk sa sn sc∧SlOk ca cn cc∧Below w.heap.size w w'
def swF(K:List ByteArray)(C:List Zg)(l:List TxD)(h x:Int):List ByteArray×List TxD×List Zg×Int:=
 if x=0 then ((Yh h l (K,C)).2.1,(Yh h l (K,C)).1,(Yh h l (K,C)).2.2,Zm C - Zm (Yh h l (K,C)).2.2) else ([],[],[],0)
def Vv(w:World):List Obj→World
 | []=>w
 | o :: r=>Vv (w.alloc o) r
theorem Uq:∀ (os:List Obj) (w:World),(Vv w os).heap.size=w.heap.size+os.length
 | [],_=>rfl
 | o :: r,w=>by rw[Vv,Uq r,List.length_cons];simp;omega
theorem Xl:∀ (os:List Obj) (w:World),Below w.heap.size w (Vv w os)
 | [],_=>Below.refl _ _
 | o :: r,w=>Ze (Zf w o) (Xl r (w.alloc o))
theorem Zz:∀ (os:List Obj) (w:World) (i:Nat) (o:Obj),os[i]? = some o→(Vv w os).heap[w.heap.size+i]? = some o
 | [],_,_,_,h=>by simp at h
 | o :: r,w,0,x,h=>by
  simp at h;subst h
  have h1:(w.alloc o).heap[w.heap.size]? = some o:=heap_alloc_new w o
  exact ((Xl r (w.alloc o)).block _ (lt_of_block h1)).trans h1
 | o :: r,w,i+1,x,h=>by
  have:=Zz r (w.alloc o) i x (by simpa using h)
  rw[show (w.alloc o).heap.size+i=w.heap.size+(i+1) by simp;omega] at this
  exact this
theorem Jy{fn:Func}{p q u v z:Tmp}{ty ty2 ty3:TypeId}(h:fn.results=#[.cell p ty,.cell q ty2,.tmp u,.cell v ty3,.tmp z])(tmps:Array Value)(P:Program)(w:World) :
  (results fn tmps).run P w =
   ((asAddr (tmps.getD p undef)).run P w).andThen fun a w₁=>((loadVar ty a).run P w₁).andThen fun x w₂=>((asAddr (tmps.getD q undef)).run P w₂).andThen fun a2 w₃=>((loadVar ty2 a2).run P w₃).andThen fun y w₄=>((asAddr (tmps.getD v undef)).run P w₄).andThen fun a3 w₅=>((loadVar ty3 a3).run P w₅).andThen fun z3 w₆=>.ok (.tuple #[x,y,tmps.getD u undef,z3,tmps.getD z undef]) w₆:=by
 simp only[results,h]
 simp[Sem.run_bind,Result.andThen]
theorem E8(ka:Option Addr)(kn kc:Nat)(K:List ByteArray)(la:Option Addr)(ln lc:Nat)(C:List Zg)(a:Option Addr)(m c:Nat)(L:List TxD)(h x:Int)(K':List ByteArray)(L':List TxD)(C':List Zg)(f:Int)(w:World)
  (hE:Env w) (hK:Bk.TextsAt w ka kn K) (hC:CoinsAt w la ln C) (sC:SlOk la ln lc) (hL:TxsAt w a m L) (hx:swE K C L h=x) (hr:swF K C L h x=(K',L',C',f)) :
  Calls Tryz.prog 19 #[.agg #[.slice ka kn kc],.slice la ln lc,.slice a m c,.int .i64 h] w fun e w'=>Zev w w' x K' L' C' f e:=by
 obtain⟨X,hX⟩:∃ X,X=Vv w [.cells #[.slice ka kn kc] 24,.cells #[.slice none 0 0] 24,.cells #[.slice none 0 0] 48,.cells #[.int .i64 0] 3]:=⟨_,rfl⟩
 have hbX:Below w.heap.size w X:=by rw[hX];exact Xl _ _
 have hXs:X.heap.size=w.heap.size+4:=by rw[hX];exact Uq _ _
 have x0:X.heap[w.heap.size]? = some (.cells #[.slice ka kn kc] 24 (0,0)):=by rw[hX];exact Zz _ w 0 _ rfl
 have x1:X.heap[w.heap.size+1]? = some (.cells #[.slice none 0 0] 24 (0,0)):=by rw[hX];exact Zz _ w 1 _ rfl
 have x2:X.heap[w.heap.size+2]? = some (.cells #[.slice none 0 0] 48 (0,0)):=by rw[hX];exact Zz _ w 2 _ rfl
 have x3:X.heap[w.heap.size+3]? = some (.cells #[.int .i64 0] 3 (0,0)):=by rw[hX];exact Zz _ w 3 _ rfl
 have hX':X=(((w.alloc (.cells #[.slice ka kn kc] 24)).alloc (.cells #[.slice none 0 0] 24)).alloc (.cells #[.slice none 0 0] 48)).alloc (.cells #[.int .i64 0] 3):=hX
 have hKp:=Zht (w.heap.size+2) (w.heap.size+3) (w.heap.size+2) (w.heap.size+4) X C x2 x3 (by omega) (by omega) (by omega) (by omega)
 have hin:∀ V,Gr X V (D0 (w.heap.size+2) (w.heap.size+4))→Below w.heap.size w V:=fun V g=>g.below hbX hbX.size (fun q e=>by have:=e.ge;omega)
 have C1:=Zb (T7 _ _ _ _ ka kn kc K la ln lc C a m c L h x X hKp w hin hE hK hC sC hL hx)
 have HBX:=Zb hbX
 have HXs:=Zb hXs
 have HR:=Zb hr
 have HIN:=Zb hin
 have HX1:=Zb x1
 have HX2:=Zb x2
 have HX3:=Zb x3
 have t0:=Zd (X:=[.slice ka kn kc]) x0 0 _ rfl
 have tl:=lt_of_block x0
 clear hE hK hC sC hL hx hr hbX hXs x0 x1 x2 x3 hX hKp hin
 go_enter Tryz.func19,Tryz.ntmps19
 go_wp2_with fail
 rw[←hX']
 clear hX'
 (try go_wp2_with fail)
 refine (Za C1).mono ?_
 rintro e w1 hres
 rcases hres with ⟨h0,rfl,hb1⟩|⟨h0,p,D,rfl,hp,hg1,hd,hI⟩
 ·have gx:(x != 0)=true:=by simp[h0]
  have y1:=(hb1.block _ (lt_of_block (Za HX1))).trans (Za HX1)
  have y2:=(hb1.block _ (lt_of_block (Za HX2))).trans (Za HX2)
  have y3:=(hb1.block _ (lt_of_block (Za HX3))).trans (Za HX3)
  have y10:=Zd (X:=[.slice none 0 0]) y1 0 _ rfl
  have y20:=Zd (X:=[.slice none 0 0]) y2 0 _ rfl
  have y30:=Zd (X:=[.int .i64 0]) y3 0 _ rfl
  have y1f:=Zh y1 0
  have y2f:=Zh y2 0
  have y3f:=Zh y3 0
  have y1l:=lt_of_block y1
  have y2l:=lt_of_block y2
  have y3l:=lt_of_block y3
  have HRE:Hid (K'=[]∧L'=[]∧C'=[]∧f=0):=by
   have:=Za HR
   unfold swF at this
   rw[if_neg h0] at this
   simp only[Prod.mk.injEq] at this
   exact⟨this.1.symm,this.2.1.symm,this.2.2.1.symm,this.2.2.2.symm⟩
  have HB:=Zb (Ze (Za HBX) hb1)
  clear hb1 y1 y2 y3 C1 HR
  go_wp2
  (try simp only[Exit.inBlock,Exit.then])
  refine bodyPost_ret (v:=.tuple #[.agg #[.slice none 0 0],.slice none 0 0,.slice none 0 0,.int .i64 0,.int .i64 x]) ?_ rfl ?_
  ·rw[Jy rfl]
   go_simp
  ·obtain⟨rfl,rfl,rfl,rfl⟩:=Za HRE
   exact⟨_,_,_,_,_,_,_,_,_,rfl,fun _ _=>⟨Bk.TextsAt.nil _ _,RowsAt.nil _ _,RowsAt.nil _ _⟩,Xm,Xm,Xm,((((Za HB).setCell (p:=⟨w.heap.size+1,0,none⟩) (by simp) _).setCell (p:=⟨w.heap.size+2,0,none⟩) (by simp) _).setCell (p:=⟨w.heap.size+3,0,none⟩) (by simp) _)⟩
 ·obtain⟨va,vc,Kl,hS,hf,_,_,_,_⟩:=hI
  obtain⟨ka',kn',kc',la',ln',lc',hpb,hFr,sK',sC'⟩:=hd
  have y1:=(hg1.block _ (lt_of_block (Za HX1)) (fun e=>by have:=e.ge;omega)).trans (Za HX1)
  have y10:=Zd (X:=[.slice none 0 0]) y1 0 _ rfl
  have y20:=Zd (X:=[_]) hS.box 0 _ rfl
  have y30:=Zd (X:=[_]) hf 0 _ rfl
  have p0:=Zd hpb 0 _ rfl
  have p1:=Zd hpb 1 _ rfl
  have pl:=lt_of_block hpb
  have y1f:=Zh y1 0
  have y2f:=Zh hS.box 0
  have y3f:=Zh hf 0
  have y1l:=lt_of_block y1
  have y2l:=lt_of_block hS.box
  have y3l:=lt_of_block hf
  subst h0
  have hRE:Yh h L (K,C)=(L',K',C')∧f=Zm C - Zm C':=by
   have:=Za HR
   unfold swF at this
   rw[if_pos rfl] at this
   simp only[Prod.mk.injEq] at this
   obtain⟨r1,r2,r3,r4⟩:=this
   exact⟨Prod.ext r2 (Prod.ext r1 r3),by rw[←r4,r3]⟩
  obtain⟨hsw,hfe⟩:=hRE
  have e1:(swT h L (K,C)).map (·.1)=L':=by rw[Jh,hsw]
  have e2:Xh C (swT h L (K,C))=C':=by have:=Gh h L (K,C);rw[hsw] at this;exact this
  rw[hsw] at hFr
  rw[e1] at hS y20
  rw[e2,←hfe] at hf y30
  obtain⟨n,hn⟩:∃ n,L'.length=n:=⟨_,rfl⟩
  have FIN:Hid (∀ W,Gr w1 W (fun q=>w.heap.size+1≤q∧q<w.heap.size+4)→Zev w W 0 K' L' C' f (.returned (.tuple #[.agg #[.slice ka' kn' kc'],.slice va n vc,.slice la' ln' lc',.int .i64 f,.int .i64 0]))):=fun W g=>by
   have hxs:=Za HXs
   have hb1:=(Za HIN) w1 hg1
   have hsz:=hg1.size
   subst hn
   refine⟨ka',kn',kc',va,L'.length,vc,la',ln',lc',rfl,fun W2 g2=>?_,sK',(hS.reads (Gr.refl w1 (fun _=>False)) (fun _ q=>q.elim)).2,sC',g.below hb1 hb1.size (fun q e=>by omega)⟩
   have r1:=hFr W2 ((g.mono (fun q _ e=>by omega)).trans (g2.mono (fun q _ e=>by omega)))
   have r2:=(hS.reads ((g.mono (T:=fun q=>q<w.heap.size+4) (fun q _ e=>e.2)).trans (g2.mono (fun q _ e=>by omega))) (fun q e=>by omega)).1
   exact⟨r1.1,r2,r1.2⟩
  rw[hn] at y20
  clear hS hf hFr hpb hg1 hsw hfe e1 e2 y1 HR C1 sK' sC' HX1 HX2 HX3 hn
  go_wp2_with fail
  go_region
  go_wp2
  (try simp only[Exit.inBlock,Exit.then])
  refine bodyPost_ret (v:=.tuple #[.agg #[.slice ka' kn' kc'],.slice va n vc,.slice la' ln' lc',.int .i64 f,.int .i64 0]) ?_ rfl ?_
  ·rw[Jy rfl]
   go_simp
  ·exact (Za FIN) _ ((((Gr.refl w1 (fun q=>w.heap.size+1≤q∧q<w.heap.size+4)).one (w.heap.size+1) 0 (.inl (by omega)) _).one (w.heap.size+1+1) 0 (.inl (by omega)) _).one (w.heap.size+1+1+1) 0 (.inl (by omega)) _).draw
end Go.Proofs.YtpikejjiignchaaGreatDoor
