import Derived.Test.YtmomfkikogbdeaaGreatDoorG27
set_option maxHeartbeats 6400000
set_option maxRecDepth 10000
namespace Go.Proofs.YtmomfkikogbdeaaGreatDoor
open Go.RowKit
def FeI(w:World)(b:Nat)(F:Int):Prop:=w.heap[b]? = some (.cells #[.int .i64 F] 3 (0,0))
theorem Ei(b b2 p:Nat)(va:Option Addr)(vc:Nat)(K:List (List Value))(L:List TxD)(fee:Int)(u0 u1 u2:Value)(t:TxD)(wA w:World)(h:St b p wA (.slice va L.length vc) K L)(F:Int)(h2:FeI wA b2 F)(hne:b≠b2)(hb2:b2<p)(f1:0≤F)(f2:F≤1000000000)(f3:0≤fee)(f4:fee≤1000000000)(hb:Below wA.heap.size wA w)(hF:Fresh wA.heap.size w (fun w2=>Tr.txR.C w2 [u0,u1,u2] t))(hl:L.length<8) :
  Calls Tryz.prog 79 (#[.agg #[u0,u1,u2],.int .i64 fee]++#[.pointer (some ⟨b,0,none⟩),.pointer (some ⟨b2,0,none⟩)]) w fun e w'=>e = .returned (.tuple #[])∧(∃ v',∃ K',St b p w' v' K' (L++[t])∧FeI w' b2 (F+fee))∧Gr w w' (fun q=>(q=b∨q=b2)∨(Value.slice va L.length vc).ownBlock=some q):=by
 obtain⟨i0,hi,hz0,hz1,hz2⟩:=info_parts Tryz.infoTx9
 obtain⟨ai,ni,ci,ao,no,co,e,_⟩:=hF w (Gr.refl _ _)
 simp only[List.cons.injEq,and_true] at e
 obtain⟨rfl,rfl,rfl⟩:=e
 obtain⟨U,hU⟩:∃ U,U=(w.alloc (.cells #[.int .i64 t.1,.slice ai ni ci,.slice ao no co] 59)).alloc (.cells #[.int .i64 t.1,.slice ai ni ci,.slice ao no co] 59):=⟨_,rfl⟩
 have hbU:Below w.heap.size w U:=by rw[hU];exact Zf (Zi _ _) (Zi _ _)
 have hU1:U.heap[w.heap.size+1]? = some (.cells #[.int .i64 t.1,.slice ai ni ci,.slice ao no co] 59 (0,0)):=by
  rw[hU]
  have:=Zu (w.alloc (.cells #[.int .i64 t.1,.slice ai ni ci,.slice ao no co] 59)) (.int .i64 t.1) (.slice ai ni ci) (.slice ao no co) 59
  rw[show (w.alloc (.cells #[.int .i64 t.1,.slice ai ni ci,.slice ao no co] 59)).heap.size=w.heap.size+1 by simp] at this
  exact this
 have hUs:U.heap.size=w.heap.size+2:=by rw[hU];simp
 have hbp:=h.bp
 have hpl:=h.pl
 have hsz:=hb.size
 have hAU:=Zf hb hbU
 have OWNU:U.ownsRow (p+1) 59 3 (.slice va L.length vc) L.length K.flatten:=(Gr.of (S:=fun _=>False) hAU).own h.own (fun _ _ q=>q)
 have bxw:=(hb.block b (by omega)).trans h.box
 have bxU:=(hAU.block b (by omega)).trans h.box
 have b0:=Zd bxw 0 _ rfl
 have bl:b<w.heap.size:=lt_of_block bxw
 have fxU:=(hAU.block b2 (by omega)).trans h2
 have NEWR:Hid (∀ j u,[Value.int .i64 t.1,.slice ai ni ci,.slice ao no co][j]? = some u→World.cell? ((w.alloc (.cells #[.int .i64 t.1,.slice ai ni ci,.slice ao no co] 59)).alloc (.cells #[.int .i64 t.1,.slice ai ni ci,.slice ao no co] 59)) ((⟨w.heap.size+1,0,none⟩:Addr).add j)=some u):=by rw[←hU];exact World.news_of_block hU1
 have OWNR:Hid (World.ownsRow ((w.alloc (.cells #[.int .i64 t.1,.slice ai ni ci,.slice ao no co] 59)).alloc (.cells #[.int .i64 t.1,.slice ai ni ci,.slice ao no co] 59)) (p+1) 59 3 (.slice va L.length vc) L.length K.flatten):=by rw[←hU];exact OWNU
 have SZR:p+1≤((w.alloc (.cells #[.int .i64 t.1,.slice ai ni ci,.slice ao no co] 59)).alloc (.cells #[.int .i64 t.1,.slice ai ni ci,.slice ao no co] 59)).heap.size:=by rw[←hU];omega
 have HNB:Hid (∀ q,q≤p→(Value.slice va L.length vc).ownBlock≠some q):=fun q hq e=>by have:=(h.own.lt q e).1;omega
 have HH:=Zb h
 have HBW:=Zb hb
 have HFF:=Zb hF
 have HBU:=Zb hbU
 have BXU:=Zb bxU
 have HLL:=Zb hl
 obtain⟨n,hn⟩:∃ n,L.length=n:=⟨_,rfl⟩
 have FXU:=Zb fxU
 have fw:w.cell? ⟨b2,0,none⟩=some (.int .i64 F):=Zd ((hb.block b2 (by omega)).trans h2) 0 _ rfl
 have HN:=Zb hn
 rw[hn] at OWNR HLL b0 HNB BXU HH bxU
 simp only[hn]
 clear h hb hF hbU hU1 OWNU bxw hAU hpl hsz hn hl h2 fxU
 go_enter Tryz.func79,Tryz.ntmps79
 go_wp2_with (at_builtin;refine wpList_append_lies _ rfl _ _ 37 rfl (p+1) 59 i0 (.agg #[.int .i64 0,.slice none 0 0,.slice none 0 0]) 3 56 Tryz.underlying37 hi hz0 hz1 hz2 rfl (by decide) _ _ _ rfl (Za OWNR) ⟨w.heap.size+1,0,none⟩ 1 1 [.int .i64 t.1,.slice ai ni ci,.slice ao no co] rfl rfl (Za NEWR) (fun u hu=>by simp at hu;rcases hu with rfl|rfl|rfl <;> rfl) (by decide) (by have:=Za HLL;unfold maxLen;omega) (by have:=Za HLL;omega) SZR _ rfl ?_;intro g7 cap7 w7 hown7 hgrow7 hor7 _;rw[←hU] at hgrow7 hor7;have hx7:=(hgrow7.block b (lt_of_block (Za BXU)) (fun e=>(Za HNB) b (by omega) e.symm)).trans (Za BXU);have HX7:=Zb hx7;have HO7:=Zb hown7;have HG7:=Zb hgrow7;have HOR7:=Zb hor7;have yy0:=Zd hx7 0 _ rfl;have yyl:=lt_of_block hx7;have yyf:=Zg hx7 0;have hf7:=(hgrow7.block b2 (lt_of_block (Za FXU)) (fun e=>(Za HNB) b2 (by omega) e.symm)).trans (Za FXU);have HF7:=Zb hf7;have ff0:=Zd hf7 0 _ rfl;have ffl:=lt_of_block hf7;have fff:=Zg hf7 0;clear hf7;clear hx7 hown7 hgrow7 hor7)
 have PU:=St.push (v':=.slice (some ⟨g7,0,none⟩) (n+1) cap7) (Za HH) (Za HBW) (Za HFF) (Za HBU) (Za HG7) (by rw[Za HN];exact Za HO7) (by
  rcases Za HOR7 with q|q
  ·exact .inl q
  ·exact .inr ⟨g7,rfl,by omega⟩)
 have g9:Gr (w7.setCell ⟨b,0,none⟩ (.slice (some ⟨g7,0,none⟩) (n+1) cap7)) ((w7.setCell ⟨b,0,none⟩ (.slice (some ⟨g7,0,none⟩) (n+1) cap7)).setCell ⟨b2,0,none⟩ (.int .i64 (F+fee))) (fun q=>q=b2):=(Gr.refl _ (fun q=>q=b2)).one b2 0 (.inl rfl) _
 have R1:=Zb (PU.1.on g9 (fun q e=>by subst e;exact⟨by omega,fun q=>hne q.symm⟩))
 have R2:Hid (FeI ((w7.setCell ⟨b,0,none⟩ (.slice (some ⟨g7,0,none⟩) (n+1) cap7)).setCell ⟨b2,0,none⟩ (.int .i64 (F+fee))) b2 (F+fee)):=Wz ((heap_setCell_other w7 ⟨b,0,none⟩ b2 _ (fun e=>hne e.symm)).trans (Za HF7))
 have R3:Hid (Gr w ((w7.setCell ⟨b,0,none⟩ (.slice (some ⟨g7,0,none⟩) (n+1) cap7)).setCell ⟨b2,0,none⟩ (.int .i64 (F+fee))) (fun q=>(q=b∨q=b2)∨(Value.slice va n vc).ownBlock=some q)):=(PU.2.mono (fun q _ e=>e.elim (fun e=>.inl (.inl e)) .inr)).trans (g9.mono (fun q _ e=>.inl (.inr e)))
 clear PU g9
 (try go_wp2)
 ((try simp only[Exit.inBlock,Exit.then]);first|refine bodyPost_end (results_none rfl _ _ _) rfl ?_|refine bodyPost_ret (results_none rfl _ _ _) rfl ?_)
 exact⟨rfl,⟨_,_,Za R1,Za R2⟩,Za R3⟩
theorem Bz(b p:Nat)(va:Option Addr)(vc:Nat)(K:List (List Value))(L:List TxD)(fee:Int)(u0 u1 u2:Value)(t:TxD)(wA w:World)(h:St b p wA (.slice va L.length vc) K L)(hb:Below wA.heap.size wA w)(hF:Fresh wA.heap.size w (fun w2=>Tr.txR.C w2 [u0,u1,u2] t))(hl:L.length<8) :
  Calls Tryz.prog 88 (#[.agg #[u0,u1,u2],.int .i64 fee]++#[.pointer (some ⟨b,0,none⟩)]) w fun e w'=>e = .returned (.tuple #[])∧(∃ v',∃ K',St b p w' v' K' (L++[t]))∧Gr w w' (fun q=>q=b∨(Value.slice va L.length vc).ownBlock=some q):=by
 obtain⟨i0,hi,hz0,hz1,hz2⟩:=info_parts Tryz.infoTx9
 obtain⟨ai,ni,ci,ao,no,co,e,_⟩:=hF w (Gr.refl _ _)
 simp only[List.cons.injEq,and_true] at e
 obtain⟨rfl,rfl,rfl⟩:=e
 obtain⟨U,hU⟩:∃ U,U=(w.alloc (.cells #[.int .i64 t.1,.slice ai ni ci,.slice ao no co] 59)).alloc (.cells #[.int .i64 t.1,.slice ai ni ci,.slice ao no co] 59):=⟨_,rfl⟩
 have hbU:Below w.heap.size w U:=by rw[hU];exact Zf (Zi _ _) (Zi _ _)
 have hU1:U.heap[w.heap.size+1]? = some (.cells #[.int .i64 t.1,.slice ai ni ci,.slice ao no co] 59 (0,0)):=by
  rw[hU]
  have:=Zu (w.alloc (.cells #[.int .i64 t.1,.slice ai ni ci,.slice ao no co] 59)) (.int .i64 t.1) (.slice ai ni ci) (.slice ao no co) 59
  rw[show (w.alloc (.cells #[.int .i64 t.1,.slice ai ni ci,.slice ao no co] 59)).heap.size=w.heap.size+1 by simp] at this
  exact this
 have hUs:U.heap.size=w.heap.size+2:=by rw[hU];simp
 have hbp:=h.bp
 have hpl:=h.pl
 have hsz:=hb.size
 have hAU:=Zf hb hbU
 have OWNU:U.ownsRow (p+1) 59 3 (.slice va L.length vc) L.length K.flatten:=(Gr.of (S:=fun _=>False) hAU).own h.own (fun _ _ q=>q)
 have bxw:=(hb.block b (by omega)).trans h.box
 have bxU:=(hAU.block b (by omega)).trans h.box
 have b0:=Zd bxw 0 _ rfl
 have bl:b<w.heap.size:=lt_of_block bxw
 have NEWR:Hid (∀ j u,[Value.int .i64 t.1,.slice ai ni ci,.slice ao no co][j]? = some u→World.cell? ((w.alloc (.cells #[.int .i64 t.1,.slice ai ni ci,.slice ao no co] 59)).alloc (.cells #[.int .i64 t.1,.slice ai ni ci,.slice ao no co] 59)) ((⟨w.heap.size+1,0,none⟩:Addr).add j)=some u):=by rw[←hU];exact World.news_of_block hU1
 have OWNR:Hid (World.ownsRow ((w.alloc (.cells #[.int .i64 t.1,.slice ai ni ci,.slice ao no co] 59)).alloc (.cells #[.int .i64 t.1,.slice ai ni ci,.slice ao no co] 59)) (p+1) 59 3 (.slice va L.length vc) L.length K.flatten):=by rw[←hU];exact OWNU
 have SZR:p+1≤((w.alloc (.cells #[.int .i64 t.1,.slice ai ni ci,.slice ao no co] 59)).alloc (.cells #[.int .i64 t.1,.slice ai ni ci,.slice ao no co] 59)).heap.size:=by rw[←hU];omega
 have HNB:Hid (∀ q,q≤p→(Value.slice va L.length vc).ownBlock≠some q):=fun q hq e=>by have:=(h.own.lt q e).1;omega
 have HH:=Zb h
 have HBW:=Zb hb
 have HFF:=Zb hF
 have HBU:=Zb hbU
 have BXU:=Zb bxU
 have HLL:=Zb hl
 obtain⟨n,hn⟩:∃ n,L.length=n:=⟨_,rfl⟩
 have HN:=Zb hn
 rw[hn] at OWNR HLL b0 HNB BXU HH bxU
 simp only[hn]
 clear h hb hF hbU hU1 OWNU bxw hAU hpl hsz hn hl
 go_enter Tryz.func88,Tryz.ntmps88
 go_wp2_with (at_builtin;refine wpList_append_lies _ rfl _ _ 37 rfl (p+1) 59 i0 (.agg #[.int .i64 0,.slice none 0 0,.slice none 0 0]) 3 56 Tryz.underlying37 hi hz0 hz1 hz2 rfl (by decide) _ _ _ rfl (Za OWNR) ⟨w.heap.size+1,0,none⟩ 1 1 [.int .i64 t.1,.slice ai ni ci,.slice ao no co] rfl rfl (Za NEWR) (fun u hu=>by simp at hu;rcases hu with rfl|rfl|rfl <;> rfl) (by decide) (by have:=Za HLL;unfold maxLen;omega) (by have:=Za HLL;omega) SZR _ rfl ?_;intro g7 cap7 w7 hown7 hgrow7 hor7 _;rw[←hU] at hgrow7 hor7;have hx7:=(hgrow7.block b (lt_of_block (Za BXU)) (fun e=>(Za HNB) b (by omega) e.symm)).trans (Za BXU);have HX7:=Zb hx7;have HO7:=Zb hown7;have HG7:=Zb hgrow7;have HOR7:=Zb hor7;have yy0:=Zd hx7 0 _ rfl;have yyl:=lt_of_block hx7;have yyf:=Zg hx7 0;clear hx7 hown7 hgrow7 hor7)
 have PU:=St.push (v':=.slice (some ⟨g7,0,none⟩) (n+1) cap7) (Za HH) (Za HBW) (Za HFF) (Za HBU) (Za HG7) (by rw[Za HN];exact Za HO7) (by
  rcases Za HOR7 with q|q
  ·exact .inl q
  ·exact .inr ⟨g7,rfl,by omega⟩)
 have HPU:=Zb PU
 clear PU
 (try go_wp2)
 ((try simp only[Exit.inBlock,Exit.then]);first|refine bodyPost_end (results_none rfl _ _ _) rfl ?_|refine bodyPost_ret (results_none rfl _ _ _) rfl ?_)
 exact⟨rfl,⟨_,_,(Za HPU).1⟩,(Za HPU).2⟩
theorem Zdm(b b2 p:Nat)(va:Option Addr)(vc:Nat)(K:List (List Value))(L:List TxD)(fee:Int)(u0 u1 u2:Value)(t:TxD)(wA w:World)(h:St b p wA (.slice va L.length vc) K L)(F:Int)(h2:FeI wA b2 F)(hne:b≠b2)(hb2:b2<p)(f1:0≤F)(f2:F≤1000000000)(f3:0≤fee)(f4:fee≤1000000000)(hb:Below wA.heap.size wA w)(hF:Fresh wA.heap.size w (fun w2=>Tr.txR.C w2 [u0,u1,u2] t))(hl:L.length<3) :
  Calls Tryz.prog 82 (#[.agg #[u0,u1,u2],.int .i64 fee]++#[.pointer (some ⟨b,0,none⟩),.pointer (some ⟨b2,0,none⟩)]) w fun e w'=>e = .returned (.tuple #[])∧(∃ v',∃ K',St b p w' v' K' (L++[t])∧FeI w' b2 (F+fee))∧Gr w w' (fun q=>(q=b∨q=b2)∨(Value.slice va L.length vc).ownBlock=some q):=by
 obtain⟨i0,hi,hz0,hz1,hz2⟩:=info_parts Tryz.infoTx9
 obtain⟨ai,ni,ci,ao,no,co,e,_⟩:=hF w (Gr.refl _ _)
 simp only[List.cons.injEq,and_true] at e
 obtain⟨rfl,rfl,rfl⟩:=e
 obtain⟨U,hU⟩:∃ U,U=(w.alloc (.cells #[.int .i64 t.1,.slice ai ni ci,.slice ao no co] 59)).alloc (.cells #[.int .i64 t.1,.slice ai ni ci,.slice ao no co] 59):=⟨_,rfl⟩
 have hbU:Below w.heap.size w U:=by rw[hU];exact Zf (Zi _ _) (Zi _ _)
 have hU1:U.heap[w.heap.size+1]? = some (.cells #[.int .i64 t.1,.slice ai ni ci,.slice ao no co] 59 (0,0)):=by
  rw[hU]
  have:=Zu (w.alloc (.cells #[.int .i64 t.1,.slice ai ni ci,.slice ao no co] 59)) (.int .i64 t.1) (.slice ai ni ci) (.slice ao no co) 59
  rw[show (w.alloc (.cells #[.int .i64 t.1,.slice ai ni ci,.slice ao no co] 59)).heap.size=w.heap.size+1 by simp] at this
  exact this
 have hUs:U.heap.size=w.heap.size+2:=by rw[hU];simp
 have hbp:=h.bp
 have hpl:=h.pl
 have hsz:=hb.size
 have hAU:=Zf hb hbU
 have OWNU:U.ownsRow (p+1) 59 3 (.slice va L.length vc) L.length K.flatten:=(Gr.of (S:=fun _=>False) hAU).own h.own (fun _ _ q=>q)
 have bxw:=(hb.block b (by omega)).trans h.box
 have bxU:=(hAU.block b (by omega)).trans h.box
 have b0:=Zd bxw 0 _ rfl
 have bl:b<w.heap.size:=lt_of_block bxw
 have fxU:=(hAU.block b2 (by omega)).trans h2
 have NEWR:Hid (∀ j u,[Value.int .i64 t.1,.slice ai ni ci,.slice ao no co][j]? = some u→World.cell? ((w.alloc (.cells #[.int .i64 t.1,.slice ai ni ci,.slice ao no co] 59)).alloc (.cells #[.int .i64 t.1,.slice ai ni ci,.slice ao no co] 59)) ((⟨w.heap.size+1,0,none⟩:Addr).add j)=some u):=by rw[←hU];exact World.news_of_block hU1
 have OWNR:Hid (World.ownsRow ((w.alloc (.cells #[.int .i64 t.1,.slice ai ni ci,.slice ao no co] 59)).alloc (.cells #[.int .i64 t.1,.slice ai ni ci,.slice ao no co] 59)) (p+1) 59 3 (.slice va L.length vc) L.length K.flatten):=by rw[←hU];exact OWNU
 have SZR:p+1≤((w.alloc (.cells #[.int .i64 t.1,.slice ai ni ci,.slice ao no co] 59)).alloc (.cells #[.int .i64 t.1,.slice ai ni ci,.slice ao no co] 59)).heap.size:=by rw[←hU];omega
 have HNB:Hid (∀ q,q≤p→(Value.slice va L.length vc).ownBlock≠some q):=fun q hq e=>by have:=(h.own.lt q e).1;omega
 have HH:=Zb h
 have HBW:=Zb hb
 have HFF:=Zb hF
 have HBU:=Zb hbU
 have BXU:=Zb bxU
 have HLL:=Zb hl
 obtain⟨n,hn⟩:∃ n,L.length=n:=⟨_,rfl⟩
 have FXU:=Zb fxU
 have fw:w.cell? ⟨b2,0,none⟩=some (.int .i64 F):=Zd ((hb.block b2 (by omega)).trans h2) 0 _ rfl
 have HN:=Zb hn
 rw[hn] at OWNR HLL b0 HNB BXU HH bxU
 simp only[hn]
 clear h hb hF hbU hU1 OWNU bxw hAU hpl hsz hn hl h2 fxU
 go_enter Tryz.func82,Tryz.ntmps82
 have gl:(n:Int)<3:=by have:=Za HLL;omega
 go_wp2_with (at_builtin;refine wpList_append_lies _ rfl _ _ 37 rfl (p+1) 59 i0 (.agg #[.int .i64 0,.slice none 0 0,.slice none 0 0]) 3 56 Tryz.underlying37 hi hz0 hz1 hz2 rfl (by decide) _ _ _ rfl (Za OWNR) ⟨w.heap.size+1,0,none⟩ 1 1 [.int .i64 t.1,.slice ai ni ci,.slice ao no co] rfl rfl (Za NEWR) (fun u hu=>by simp at hu;rcases hu with rfl|rfl|rfl <;> rfl) (by decide) (by have:=Za HLL;unfold maxLen;omega) (by have:=Za HLL;omega) SZR _ rfl ?_;intro g7 cap7 w7 hown7 hgrow7 hor7 _;rw[←hU] at hgrow7 hor7;have hx7:=(hgrow7.block b (lt_of_block (Za BXU)) (fun e=>(Za HNB) b (by omega) e.symm)).trans (Za BXU);have HX7:=Zb hx7;have HO7:=Zb hown7;have HG7:=Zb hgrow7;have HOR7:=Zb hor7;have yy0:=Zd hx7 0 _ rfl;have yyl:=lt_of_block hx7;have yyf:=Zg hx7 0;have hf7:=(hgrow7.block b2 (lt_of_block (Za FXU)) (fun e=>(Za HNB) b2 (by omega) e.symm)).trans (Za FXU);have HF7:=Zb hf7;have ff0:=Zd hf7 0 _ rfl;have ffl:=lt_of_block hf7;have fff:=Zg hf7 0;clear hf7;clear hx7 hown7 hgrow7 hor7)
 have PU:=St.push (v':=.slice (some ⟨g7,0,none⟩) (n+1) cap7) (Za HH) (Za HBW) (Za HFF) (Za HBU) (Za HG7) (by rw[Za HN];exact Za HO7) (by
  rcases Za HOR7 with q|q
  ·exact .inl q
  ·exact .inr ⟨g7,rfl,by omega⟩)
 have g9:Gr (w7.setCell ⟨b,0,none⟩ (.slice (some ⟨g7,0,none⟩) (n+1) cap7)) ((w7.setCell ⟨b,0,none⟩ (.slice (some ⟨g7,0,none⟩) (n+1) cap7)).setCell ⟨b2,0,none⟩ (.int .i64 (F+fee))) (fun q=>q=b2):=(Gr.refl _ (fun q=>q=b2)).one b2 0 (.inl rfl) _
 have R1:=Zb (PU.1.on g9 (fun q e=>by subst e;exact⟨by omega,fun q=>hne q.symm⟩))
 have R2:Hid (FeI ((w7.setCell ⟨b,0,none⟩ (.slice (some ⟨g7,0,none⟩) (n+1) cap7)).setCell ⟨b2,0,none⟩ (.int .i64 (F+fee))) b2 (F+fee)):=Wz ((heap_setCell_other w7 ⟨b,0,none⟩ b2 _ (fun e=>hne e.symm)).trans (Za HF7))
 have R3:Hid (Gr w ((w7.setCell ⟨b,0,none⟩ (.slice (some ⟨g7,0,none⟩) (n+1) cap7)).setCell ⟨b2,0,none⟩ (.int .i64 (F+fee))) (fun q=>(q=b∨q=b2)∨(Value.slice va n vc).ownBlock=some q)):=(PU.2.mono (fun q _ e=>e.elim (fun e=>.inl (.inl e)) .inr)).trans (g9.mono (fun q _ e=>.inl (.inr e)))
 clear PU g9
 (try go_wp2)
 ((try simp only[Exit.inBlock,Exit.then]);first|refine bodyPost_end (results_none rfl _ _ _) rfl ?_|refine bodyPost_ret (results_none rfl _ _ _) rfl ?_)
 exact⟨rfl,⟨_,_,Za R1,Za R2⟩,Za R3⟩
theorem Au(b b2 p:Nat)(va:Option Addr)(vc:Nat)(K:List (List Value))(L:List TxD)(fee:Int)(u0 u1 u2:Value)(t:TxD)(wA w:World)(h:St b p wA (.slice va L.length vc) K L)(hb:Below wA.heap.size wA w)(hF:Fresh wA.heap.size w (fun w2=>Tr.txR.C w2 [u0,u1,u2] t))(hl:3≤L.length) :
  Calls Tryz.prog 82 (#[.agg #[u0,u1,u2],.int .i64 fee]++#[.pointer (some ⟨b,0,none⟩),.pointer (some ⟨b2,0,none⟩)]) w fun e w'=>e = .returned (.tuple #[])∧Below w.heap.size w w':=by
 obtain⟨ai,ni,ci,ao,no,co,e,_⟩:=hF w (Gr.refl _ _)
 simp only[List.cons.injEq,and_true] at e
 obtain⟨rfl,rfl,rfl⟩:=e
 have HB:=Zb (Zi w (.cells #[.int .i64 t.1,.slice ai ni ci,.slice ao no co] 59))
 have hbp:=h.bp
 have hpl:=h.pl
 have bxw:=(hb.block b (by omega)).trans h.box
 have b0:=Zd bxw 0 _ rfl
 have bl:b<w.heap.size:=lt_of_block bxw
 have gl:¬((L.length:Int)<3):=by omega
 obtain⟨n,hn⟩:∃ n,L.length=n:=⟨_,rfl⟩
 rw[hn] at b0 gl
 clear h hb hF hbp hpl bxw hl hn
 go_enter Tryz.func82,Tryz.ntmps82
 go_wp2
 ((try simp only[Exit.inBlock,Exit.then]);first|refine bodyPost_end (results_none rfl _ _ _) rfl ?_|refine bodyPost_ret (results_none rfl _ _ _) rfl ?_)
 exact⟨rfl,Za HB⟩
def D0(lo hi:Nat):Nat→Prop:=fun q=>(lo≤q∧q<hi)∨(Value.slice none 0 0).ownBlock=some q
theorem D0.ge{lo hi q:Nat}(h:D0 lo hi q):lo≤q∧q<hi:=by
 rcases h with h|h
 ·exact h
 ·cases h
def DV(lo hi:Nat)(v:Value):Nat→Prop:=fun q=>(lo≤q∧q<hi)∨v.ownBlock=some q
theorem DV.dirty{lo hi b p:Nat}{w:World}{v:Value}{K:List (List Value)}{L:List TxD}{N0:Nat}(h:St b p w v K L)(hh:hi≤N0)(hp:N0≤p)(q:Nat)(hq:DV lo hi v q):q≠p∧q<w.heap.size∧(D0 lo hi q∨N0≤q):=by
 have:=h.pl
 rcases hq with e|e
 ·exact⟨by omega,by omega,.inl (.inl e)⟩
 ·have:=h.own.lt q e
  exact⟨by omega,this.2,.inr (by omega)⟩
def SwI(b b2 lo hi N0:Nat)(C0:List Zh)(p:Nat)(D:Nat→Prop)(w:World)(X:List (TxD×List Zh)):Prop:=
 ∃ va vc K,St b p w (.slice va (X.map (·.1)).length vc) K (X.map (·.1))∧FeI w b2 (Zo C0 - Zo (Y3 C0 X))∧N0≤p∧D=DV lo hi (.slice va (X.map (·.1)).length vc)∧0≤Zo C0 - Zo (Y3 C0 X)∧(X=[]∨(Zo C0≤1000000000∧Z6 (Y3 C0 X)))
theorem P9{C:List Zh}(h:Z6 C):0≤Zo C:=X4 C (fun c hc=>by have:=Yp (h.one c hc);omega)
theorem Zip(b b2 lo hi:Nat)(w0:World)(C0:List Zh)(hb:w0.heap[b]? = some (.cells #[.slice none 0 0] 37 (0,0)))(hb2:FeI w0 b2 0)(h1:lo≤b∧b<hi)(h2:lo≤b2∧b2<hi)(hne:b≠b2)(hhi:hi≤w0.heap.size) :
  Zhd 79 #[.pointer (some ⟨b,0,none⟩),.pointer (some ⟨b2,0,none⟩)] w0 C0 (D0 lo hi) (SwI b b2 lo hi w0.heap.size C0) where
 enters:=enters_of (fn:=Tryz.f79) (by kernel_rfl) (by kernel_rfl) rfl
 start p w hw hp pl:=⟨none,0,[],St.start ((hw.block b (by omega)).trans hb) (by omega) pl,by
  have:Zo C0 - Zo (Y3 C0 [])=0:=by rw[Ws];omega
  unfold FeI;rw[this];exact (hw.block b2 (by omega)).trans hb2,hp,rfl,by rw[Ws];omega,.inl rfl⟩
 dirty p D w X:=by
  rintro ⟨va,vc,K,h,_,hp,rfl,_⟩ q hq
  exact DV.dirty h hhi hp q hq
 on p D w w' X:=by
  rintro ⟨va,vc,K,h,hf,hp,hD,r⟩ g
  exact⟨va,vc,K,h.on g (fun q e=>by subst e;exact⟨Nat.le_refl _,by omega⟩),(g.block b2 (lt_of_block hf) (fun e=>by have e:b2=p:=e;omega)).trans hf,hp,hD,r⟩
 call p D wA w X t C' u0 u1 u2:=by
  rintro ⟨va,vc,K,h,hf,hp,rfl,h0,hr⟩ hbw hF r1 r2 r3 hl
  have hs:Zo C0≤1000000000:=by
   rcases hr with rfl|hr
   ·rw[Ws] at r1;exact r1.sum
   ·exact hr.1
  have n1:=P9 r1
  have n2:=P9 r2
  have n3:=r1.sum
  refine (Ei b b2 p va vc K (X.map (·.1)) _ u0 u1 u2 t wA w h _ hf hne (by omega) h0 (by omega) (by omega) (by omega) hbw hF (by rw[List.length_map];exact hl)).mono ?_
  rintro e w' ⟨rfl,⟨v',K',hS,hf'⟩,hg⟩
  obtain⟨a,c,rfl,_,_⟩:=hS.txs
  have e1:(X++[(t,C')]).map (·.1)=X.map (·.1)++[t]:=by simp
  refine⟨rfl,hg.mono (fun q _ e=>?_),DV lo hi (.slice a ((X++[(t,C')]).map (·.1)).length c),a,c,K',?_,?_,hp,rfl,?_,.inr ⟨hs,?_⟩⟩
  ·rcases e with (e|e)|e
   ·subst e;exact .inl h1
   ·subst e;exact .inl h2
   ·exact .inr e
  ·rw[e1];exact hS
  ·rw[Xz]
   have:Zo C0 - Zo (Y3 C0 X)+(Zo (Y3 C0 X) - Zo C')=Zo C0 - Zo C':=by omega
   rw[←this];exact hf'
  ·rw[Xz];omega
  ·rw[Xz];exact r2
theorem St.reads{b p:Nat}{w w2:World}{va:Option Addr}{vc:Nat}{K:List (List Value)}{L:List TxD}{S:Nat→Prop}(h:St b p w (.slice va L.length vc) K L)(g:Gr w w2 S)(hS:∀ q,S q→q≤p):TxsAt w2 va L.length L∧SlOk va L.length vc:=by
 have o:=g.own h.own (fun k hk e=>by have:=(h.own.lt k hk).1;have:=hS k e;omega)
 obtain⟨a,c,e,h1,h2⟩:=Tr.rows_of_own Tr.txR o (h.kept w2 (g.mono (fun q _ e=>.inl (hS q e)))) rfl
 injection e with e1 _ e3
 subst e1 e3
 exact⟨h1,h2⟩
def Zeu(w w':World)(x:Int)(K:List ByteArray)(L:List TxD)(C:List Zh)(f:Int)(e:Ending):Prop:=
 ∃ ka kn kc sa sn sc ca cn cc,e = .returned (.tuple #[.agg #[.slice ka kn kc],.slice sa sn sc,.slice ca cn cc,.int .i64 f,.int .i64 x]) ∧
  Fresh w.heap.size w' (fun w2=>Bk.TextsAt w2 ka kn K∧TxsAt w2 sa sn L∧CoinsAt w2 ca cn C)∧SlOk ka kn kc∧SlOk sa sn sc∧SlOk ca cn cc∧Below w.heap.size w w'
def swF(K:List ByteArray)(C:List Zh)(l:List TxD)(h x:Int):List ByteArray×List TxD×List Zh×Int:=
 if x=0 then ((Zs h l (K,C)).2.1,(Zs h l (K,C)).1,(Zs h l (K,C)).2.2,Zo C - Zo (Zs h l (K,C)).2.2) else ([],[],[],0)
def Z9(w:World):List Obj→World
 | []=>w
 | o :: r=>Z9 (w.alloc o) r
theorem Yq:∀ (os:List Obj) (w:World),(Z9 w os).heap.size=w.heap.size+os.length
 | [],_=>rfl
 | o :: r,w=>by rw[Z9,Yq r,List.length_cons];simp;omega
theorem Zp:∀ (os:List Obj) (w:World),Below w.heap.size w (Z9 w os)
 | [],_=>Below.refl _ _
 | o :: r,w=>Zf (Zi w o) (Zp r (w.alloc o))
theorem Zm:∀ (os:List Obj) (w:World) (i:Nat) (o:Obj),os[i]? = some o→(Z9 w os).heap[w.heap.size+i]? = some o
 | [],_,_,_,h=>by simp at h
 | o :: r,w,0,x,h=>by
  simp at h;subst h
  have h1:(w.alloc o).heap[w.heap.size]? = some o:=heap_alloc_new w o
  exact ((Zp r (w.alloc o)).block _ (lt_of_block h1)).trans h1
 | o :: r,w,i+1,x,h=>by
  have:=Zm r (w.alloc o) i x (by simpa using h)
  rw[show (w.alloc o).heap.size+i=w.heap.size+(i+1) by simp;omega] at this
  exact this
theorem J0{fn:Func}{p q u v z:Tmp}{ty ty2 ty3:TypeId}(h:fn.results=#[.cell p ty,.cell q ty2,.tmp u,.cell v ty3,.tmp z])(tmps:Array Value)(P:Program)(w:World) :
  (results fn tmps).run P w =
   ((asAddr (tmps.getD p undef)).run P w).andThen fun a w₁=>((loadVar ty a).run P w₁).andThen fun x w₂=>((asAddr (tmps.getD q undef)).run P w₂).andThen fun a2 w₃=>((loadVar ty2 a2).run P w₃).andThen fun y w₄=>((asAddr (tmps.getD v undef)).run P w₄).andThen fun a3 w₅=>((loadVar ty3 a3).run P w₅).andThen fun z3 w₆=>.ok (.tuple #[x,y,tmps.getD u undef,z3,tmps.getD z undef]) w₆:=by
 simp only[results,h]
 simp[Sem.run_bind,Result.andThen]
theorem Li(ka:Option Addr)(kn kc:Nat)(K:List ByteArray)(la:Option Addr)(ln lc:Nat)(C:List Zh)(a:Option Addr)(m c:Nat)(L:List TxD)(h x:Int)(K':List ByteArray)(L':List TxD)(C':List Zh)(f:Int)(w:World)
  (hE:Env w) (hK:Bk.TextsAt w ka kn K) (hC:CoinsAt w la ln C) (sC:SlOk la ln lc) (hL:TxsAt w a m L) (hx:swE K C L h=x) (hr:swF K C L h x=(K',L',C',f)) :
  Calls Tryz.prog 23 #[.agg #[.slice ka kn kc],.slice la ln lc,.slice a m c,.int .i64 h] w fun e w'=>Zeu w w' x K' L' C' f e:=by
 obtain⟨X,hX⟩:∃ X,X=Z9 w [.cells #[.slice ka kn kc] 24,.cells #[.slice none 0 0] 24,.cells #[.slice none 0 0] 37,.cells #[.int .i64 0] 3]:=⟨_,rfl⟩
 have hbX:Below w.heap.size w X:=by rw[hX];exact Zp _ _
 have hXs:X.heap.size=w.heap.size+4:=by rw[hX];exact Yq _ _
 have x0:X.heap[w.heap.size]? = some (.cells #[.slice ka kn kc] 24 (0,0)):=by rw[hX];exact Zm _ w 0 _ rfl
 have x1:X.heap[w.heap.size+1]? = some (.cells #[.slice none 0 0] 24 (0,0)):=by rw[hX];exact Zm _ w 1 _ rfl
 have x2:X.heap[w.heap.size+2]? = some (.cells #[.slice none 0 0] 37 (0,0)):=by rw[hX];exact Zm _ w 2 _ rfl
 have x3:X.heap[w.heap.size+3]? = some (.cells #[.int .i64 0] 3 (0,0)):=by rw[hX];exact Zm _ w 3 _ rfl
 have hX':X=(((w.alloc (.cells #[.slice ka kn kc] 24)).alloc (.cells #[.slice none 0 0] 24)).alloc (.cells #[.slice none 0 0] 37)).alloc (.cells #[.int .i64 0] 3):=hX
 have hKp:=Zip (w.heap.size+2) (w.heap.size+3) (w.heap.size+2) (w.heap.size+4) X C x2 x3 (by omega) (by omega) (by omega) (by omega)
 have hin:∀ V,Gr X V (D0 (w.heap.size+2) (w.heap.size+4))→Below w.heap.size w V:=fun V g=>g.below hbX hbX.size (fun q e=>by have:=e.ge;omega)
 have C1:=Zb (Se _ _ _ _ ka kn kc K la ln lc C a m c L h x X hKp w hin hE hK hC sC hL hx)
 have HBX:=Zb hbX
 have HXs:=Zb hXs
 have HR:=Zb hr
 have HIN:=Zb hin
 have HX1:=Zb x1
 have HX2:=Zb x2
 have HX3:=Zb x3
 have t0:=Zd (X:=[.slice ka kn kc]) x0 0 _ rfl
 have tl:=lt_of_block x0
 clear hE hK hC sC hL hx hr hbX hXs x0 x1 x2 x3 hX hKp hin
 go_enter Tryz.func23,Tryz.ntmps23
 go_wp2_with fail
 rw[←hX']
 clear hX'
 (try go_wp2_with fail)
 refine (Za C1).mono ?_
 rintro e w1 hres
 rcases hres with ⟨h0,rfl,hb1⟩|⟨h0,p,D,rfl,hp,hg1,hd,hI⟩
 ·have gx:(x != 0)=true:=by simp[h0]
  have y1:=(hb1.block _ (lt_of_block (Za HX1))).trans (Za HX1)
  have y2:=(hb1.block _ (lt_of_block (Za HX2))).trans (Za HX2)
  have y3:=(hb1.block _ (lt_of_block (Za HX3))).trans (Za HX3)
  have y10:=Zd (X:=[.slice none 0 0]) y1 0 _ rfl
  have y20:=Zd (X:=[.slice none 0 0]) y2 0 _ rfl
  have y30:=Zd (X:=[.int .i64 0]) y3 0 _ rfl
  have y1f:=Zg y1 0
  have y2f:=Zg y2 0
  have y3f:=Zg y3 0
  have y1l:=lt_of_block y1
  have y2l:=lt_of_block y2
  have y3l:=lt_of_block y3
  have HRE:Hid (K'=[]∧L'=[]∧C'=[]∧f=0):=by
   have:=Za HR
   unfold swF at this
   rw[if_neg h0] at this
   simp only[Prod.mk.injEq] at this
   exact⟨this.1.symm,this.2.1.symm,this.2.2.1.symm,this.2.2.2.symm⟩
  have HB:=Zb (Zf (Za HBX) hb1)
  clear hb1 y1 y2 y3 C1 HR
  go_wp2
  (try simp only[Exit.inBlock,Exit.then])
  refine bodyPost_ret (v:=.tuple #[.agg #[.slice none 0 0],.slice none 0 0,.slice none 0 0,.int .i64 0,.int .i64 x]) ?_ rfl ?_
  ·rw[J0 rfl]
   go_simp
  ·obtain⟨rfl,rfl,rfl,rfl⟩:=Za HRE
   exact⟨_,_,_,_,_,_,_,_,_,rfl,fun _ _=>⟨Bk.TextsAt.nil _ _,RowsAt.nil _ _,RowsAt.nil _ _⟩,Zw,Zw,Zw,((((Za HB).setCell (p:=⟨w.heap.size+1,0,none⟩) (by simp) _).setCell (p:=⟨w.heap.size+2,0,none⟩) (by simp) _).setCell (p:=⟨w.heap.size+3,0,none⟩) (by simp) _)⟩
 ·obtain⟨va,vc,Kl,hS,hf,_,_,_,_⟩:=hI
  obtain⟨ka',kn',kc',la',ln',lc',hpb,hFr,sK',sC'⟩:=hd
  have y1:=(hg1.block _ (lt_of_block (Za HX1)) (fun e=>by have:=e.ge;omega)).trans (Za HX1)
  have y10:=Zd (X:=[.slice none 0 0]) y1 0 _ rfl
  have y20:=Zd (X:=[_]) hS.box 0 _ rfl
  have y30:=Zd (X:=[_]) hf 0 _ rfl
  have p0:=Zd hpb 0 _ rfl
  have p1:=Zd hpb 1 _ rfl
  have pl:=lt_of_block hpb
  have y1f:=Zg y1 0
  have y2f:=Zg hS.box 0
  have y3f:=Zg hf 0
  have y1l:=lt_of_block y1
  have y2l:=lt_of_block hS.box
  have y3l:=lt_of_block hf
  subst h0
  have hRE:Zs h L (K,C)=(L',K',C')∧f=Zo C - Zo C':=by
   have:=Za HR
   unfold swF at this
   rw[if_pos rfl] at this
   simp only[Prod.mk.injEq] at this
   obtain⟨r1,r2,r3,r4⟩:=this
   exact⟨Prod.ext r2 (Prod.ext r1 r3),by rw[←r4,r3]⟩
  obtain⟨hsw,hfe⟩:=hRE
  have e1:(swT h L (K,C)).map (·.1)=L':=by rw[Ud,hsw]
  have e2:Y3 C (swT h L (K,C))=C':=by have:=P8 h L (K,C);rw[hsw] at this;exact this
  rw[hsw] at hFr
  rw[e1] at hS y20
  rw[e2,←hfe] at hf y30
  obtain⟨n,hn⟩:∃ n,L'.length=n:=⟨_,rfl⟩
  have FIN:Hid (∀ W,Gr w1 W (fun q=>w.heap.size+1≤q∧q<w.heap.size+4)→Zeu w W 0 K' L' C' f (.returned (.tuple #[.agg #[.slice ka' kn' kc'],.slice va n vc,.slice la' ln' lc',.int .i64 f,.int .i64 0]))):=fun W g=>by
   have hxs:=Za HXs
   have hb1:=(Za HIN) w1 hg1
   have hsz:=hg1.size
   subst hn
   refine⟨ka',kn',kc',va,L'.length,vc,la',ln',lc',rfl,fun W2 g2=>?_,sK',(hS.reads (Gr.refl w1 (fun _=>False)) (fun _ q=>q.elim)).2,sC',g.below hb1 hb1.size (fun q e=>by omega)⟩
   have r1:=hFr W2 ((g.mono (fun q _ e=>by omega)).trans (g2.mono (fun q _ e=>by omega)))
   have r2:=(hS.reads ((g.mono (T:=fun q=>q<w.heap.size+4) (fun q _ e=>e.2)).trans (g2.mono (fun q _ e=>by omega))) (fun q e=>by omega)).1
   exact⟨r1.1,r2,r1.2⟩
  rw[hn] at y20
  clear hS hf hFr hpb hg1 hsw hfe e1 e2 y1 HR C1 sK' sC' HX1 HX2 HX3 hn
  go_wp2_with fail
  go_region
  go_wp2
  (try simp only[Exit.inBlock,Exit.then])
  refine bodyPost_ret (v:=.tuple #[.agg #[.slice ka' kn' kc'],.slice va n vc,.slice la' ln' lc',.int .i64 f,.int .i64 0]) ?_ rfl ?_
  ·rw[J0 rfl]
   go_simp
  ·exact (Za FIN) _ ((((Gr.refl w1 (fun q=>w.heap.size+1≤q∧q<w.heap.size+4)).one (w.heap.size+1) 0 (.inl (by omega)) _).one (w.heap.size+1+1) 0 (.inl (by omega)) _).one (w.heap.size+1+1+1) 0 (.inl (by omega)) _).draw
open Go.RowKit Go.Maps
def Zhi(v:Value):Option (DataW Value×List MemPlace):=some (.held v,[])
abbrev Dm:Value:=.slice none 0 0
abbrev Zio(x:Int):Lit:=.int .i64 x
theorem Zhh:Keyed Tryz.prog 3:=int_keyed Tryz.underlying3
theorem Zhn(w:World):(zeroValue 29).run Tryz.prog w = .ok (.slice none 0 0) w:=by kernel_rfl
theorem Zge{x y:Int}(h:x≠y):Zio x≠Zio y:=by
 intro e;injection e with _ e;exact h e
theorem Pz{x:Int}(h : -1000000≤x)(h2:x≤1000000):(Lit.int .i64 x).wf=true:=by simp[Lit.wf,IntKind.min,IntKind.max,IntKind.signed,IntKind.bits];omega
def BMap(bm n:Nat)(f:Int→Value)(w:World):Prop:=∃ D,w.ownsMap Tryz.prog 3 Zhi bm n D∧IsMap D∧∀ x:Int,D.atKey (Zio x) (.held Dm) = .held (f x)
theorem BMap.heap{bm n:Nat}{f:Int→Value}{w w':World}(h:BMap bm n f w)(hb:w'.heap[bm]? = w.heap[bm]?):BMap bm n f w':=by
 obtain⟨D,⟨es,clock,h1,r⟩,r2⟩:=h
 exact⟨D,⟨es,clock,hb.trans h1,r⟩,r2⟩
theorem BMap.lt{bm n:Nat}{f:Int→Value}{w:World}(h:BMap bm n f w):bm<w.heap.size:=by
 obtain⟨D,h1,_⟩:=h
 exact h1.lt
theorem BMap.keep{bm n:Nat}{f:Int→Value}{w w':World}(h:BMap bm n f w)(hb:Below w.heap.size w w'):BMap bm n f w':=h.heap (hb.block bm h.lt)
theorem BMap.gr{bm n:Nat}{f:Int→Value}{w w':World}{S:Nat→Prop}(h:BMap bm n f w)(g:Gr w w' S)(hn:¬S bm):BMap bm n f w':=h.heap (g.block bm h.lt hn)
theorem BMap.isMap{bm n:Nat}{f:Int→Value}{w:World}(h:BMap bm n f w):∃ es clock,w.heap[bm]? = some (.map es clock):=by
 obtain⟨D,⟨es,clock,h1,r⟩,r2⟩:=h
 exact⟨es,clock,h1⟩
theorem BMap.made(w:World):BMap w.heap.size 0 (fun _=>Dm) (w.alloc (.map #[] 0)):=
 ⟨.map [],World.ownsMap_made w Tryz.prog 3 Zhi,⟨_,rfl⟩,fun _=>rfl⟩
theorem BMap.look{bm n:Nat}{f:Int→Value}{w:World}(h:BMap bm n f w)(x:Int)(hx:(Lit.int .i64 x).wf=true):(Instr.lookup 252 (.map (some bm)) (.int .i64 x) false).run Tryz.prog w = .ok (f x) w:=by
 obtain⟨D,h1,_,h3⟩:=h
 obtain⟨v,ps,hrun,hv⟩:=h1.lookup Zhh Tryz.underlying252 (Zhn w) (zd:=.held Dm) (zp:=[]) rfl (keyOf_int_mk Tryz.underlying3 hx)
 rw[h3] at hv
 have hv2:v=f x:=DataW.held.inj (Prod.mk.inj (Option.some.inj hv)).1
 rw[hv2] at hrun
 exact hrun
theorem BMap.drew_look{bm n:Nat}{f:Int→Value}{w:World}(h:BMap bm n f w)(x:Int)(hx:(Lit.int .i64 x).wf=true):(Instr.lookup 252 (.map (some bm)) (.int .i64 x) false).run Tryz.prog w.drew = .ok (f x) w.drew:=BMap.look (w:=w.drew) (h.heap rfl) x hx
theorem BMap.put{bm n:Nat}{f:Int→Value}{w:World}(h:BMap bm n f w)(hn:n<1000000)(x:Int)(hx:(Lit.int .i64 x).wf=true)(v:Value) :
  ∃ w',(Instr.mapUpdate 252 (.map (some bm)) (.int .i64 x) v).run Tryz.prog w = .ok () w'∧BMap bm (n+1) (fun y=>if y=x then v else f y) w'∧w.grownBy w' (some bm):=by
 obtain⟨D,h1,h2,h3⟩:=h
 obtain⟨w',hrun,r1,r2⟩:=h1.update Zhh Tryz.underlying252 (by unfold maxLen;omega) (keyOf_int_mk Tryz.underlying3 hx) (val:=v) (d:=.held v) (ps:=[]) rfl
 refine⟨w',hrun,⟨_,r1,?_,fun y=>?_⟩,r2⟩
 ·obtain⟨es,rfl⟩:=h2;exact⟨_,rfl⟩
 ·by_cases e:y=x
  ·subst e;rw[atKey_put_same h2 (by simp[WideAt.IsKeyLit])];show _=DataW.held (if y=y then v else f y);rw[if_pos rfl]
  ·rw[atKey_put_other (Zge e),h3];show _=DataW.held (if y=x then v else f y);rw[if_neg e]
theorem Qe(w:World)(n:Nat):Below w.heap.size w (w.drewN n):=⟨rfl,rfl,rfl,Nat.le_refl _,fun _ _=>rfl⟩
theorem Uu{α : Type}{l k:List α}{j:Nat}(h1:j<l.length)(h2:j<k.length)(h:l.take j=k.take j)(e:l[j]=k[j]):l.take (j+1)=k.take (j+1):=by
 rw[List.take_succ_eq_append_getElem h1,List.take_succ_eq_append_getElem h2,h,e]
theorem W7{α : Type}{l k:List α}{j:Nat}(h1:j<l.length)(h2:j<k.length)(e:l[j]≠k[j]):l≠k:=fun h=>by
 subst h;exact e rfl
theorem Bb(b1 o1 b2 o2 n c d:Nat)(l k:List (Int×Int))(o:Bool)(w:World)(hn:n≤maxLen)(z1:l.length=n)(z2:k.length=n)
  (h1:∀ i,i<n→w.cell? ⟨b1,o1+i*2,none⟩=some (.int .i64 (l.getD i (0,0)).1)∧w.cell? ⟨b1,o1+i*2+1,none⟩=some (.int .i64 (l.getD i (0,0)).2))
  (h2:∀ i,i<n→w.cell? ⟨b2,o2+i*2,none⟩=some (.int .i64 (k.getD i (0,0)).1)∧w.cell? ⟨b2,o2+i*2+1,none⟩=some (.int .i64 (k.getD i (0,0)).2)) (ho:decide (l=k)=o) :
  Calls Tryz.prog 94 #[.slice (some ⟨b1,o1,none⟩) n c,.slice (some ⟨b2,o2,none⟩) n d] w fun e w'=>e = .returned (.bool o)∧∃ m,w'=w.drewN m:=by
 subst ho
 unfold maxLen at hn
 have H1:=Zb h1
 have H2:=Zb h2
 have Z1:=Zb z1
 have Z2:=Zb z2
 clear h1 h2 z1 z2
 go_enter Tryz.func94,Tryz.ntmps94
 go_wp2
 go_loopw [13] (fun i wr=>∃ j m:Nat,j≤n∧i = .int .i64 j∧wr=w.drewN m∧Hid (l.take j=k.take j)) (fun i _=>n - (intOf i).toNat)
 case atStart=>exact⟨0,0,Nat.zero_le _,rfl,rfl,rfl⟩
 case round=>
  obtain⟨j,m,hk,rfl,rfl,A⟩:=hrel
  by_cases hlt:j<n
  ·have hl1:j<l.length:=by rw[Za Z1];exact hlt
   have hl2:j<k.length:=by rw[Za Z2];exact hlt
   obtain⟨g1,g2⟩:=(Za H1) j hlt
   obtain⟨g3,g4⟩:=(Za H2) j hlt
   have e1:l.getD j (0,0)=l[j]:=by simp[hl1]
   have e2:k.getD j (0,0)=k[j]:=by simp[hl2]
   rw[e1] at g1 g2
   rw[e2] at g3 g4
   have TS:=Zb (Uu hl1 hl2 (Za A))
   have TU:=Zb (W7 hl1 hl2)
   obtain⟨q,hq⟩:∃ q,l[j]=q:=⟨_,rfl⟩
   obtain⟨r,hr⟩:∃ r,k[j]=r:=⟨_,rfl⟩
   rw[hq] at g1 g2
   rw[hr] at g3 g4
   rw[hq,hr] at TS TU
   obtain⟨q1,q2⟩:=q
   obtain⟨r1,r2⟩:=r
   simp only at g1 g2 g3 g4
   clear hq hr e1 e2 A
   by_cases he:q1=r1
   ·subst he
    by_cases hf:q2=r2
    ·subst hf
     have T:=Zb ((Za TS) rfl)
     clear TS TU
     go_wp2
     go_quiet (fail)
     go_wp2
     go_roundw
     case rel=>exact⟨j+1,m+nq,by omega,by go_num,rfl,T⟩
     case measure=>simp[intOf];omega
    ·have U:Hid (decide (l=k)=false):=decide_eq_false ((Za TU) (fun e=>hf (by injection e)))
     clear TS TU
     go_wp2
     go_quiet (fail)
     go_wp2
     go_ret
     exact⟨by rw[Za U];rfl,m+nq,by simp[World.drewN,Nat.add_assoc]⟩
   ·have U:Hid (decide (l=k)=false):=decide_eq_false ((Za TU) (fun e=>he (by injection e)))
    clear TS TU
    go_wp2
    go_quiet (fail)
    go_wp2
    go_ret
    exact⟨by rw[Za U];rfl,m+nq,by simp[World.drewN,Nat.add_assoc]⟩
  ·have U:Hid (decide (l=k)=true):=by
    have h:=Za A
    rw[List.take_of_length_le (by rw[Za Z1];omega),List.take_of_length_le (by rw[Za Z2];omega)] at h
    exact decide_eq_true h
   clear A
   go_wp2
   go_ret
   exact⟨by rw[Za U];rfl,m,rfl⟩
theorem Bd(a b:Option Addr)(n m c d:Nat)(w:World)(h:n≠m) :
  Calls Tryz.prog 94 #[.slice a n c,.slice b m d] w fun e w'=>e = .returned (.bool false)∧w=w':=by
 have g:((n:Int) != (m:Int))=true:=by simp;omega
 clear h
 go_enter Tryz.func94,Tryz.ntmps94
 go_wp2
 go_ret
 exact⟨rfl,rfl⟩
theorem Bc(a b:Option Addr)(c d:Nat)(w:World) :
  Calls Tryz.prog 94 #[.slice a 0 c,.slice b 0 d] w fun e w'=>e = .returned (.bool true)∧w=w':=by
 go_enter Tryz.func94,Tryz.ntmps94
 go_wp2
 refine wp_loop_rounds 1 ?_
 rw[rounds_succ]
 go_wp2
 go_ret
 exact⟨rfl,rfl⟩
theorem Hi(a b:Option Addr)(n m c d:Nat)(l k:List (Int×Int))(o:Bool)(w:World)(hn:n≤maxLen)(hA:OpsAt w a n l)(hB:OpsAt w b m k)(ho:decide (l=k)=o) :
  Calls Tryz.prog 94 #[.slice a n c,.slice b m d] w fun e w'=>e = .returned (.bool o)∧Below w.heap.size w w':=by
 by_cases h:n=m
 ·subst h
  by_cases h0:n=0
  ·subst h0
   have e1:l=[]:=List.length_eq_zero_iff.1 hA.1
   have e2:k=[]:=List.length_eq_zero_iff.1 hB.1
   subst e1 e2
   rw[decide_eq_true rfl] at ho
   subst ho
   exact (Bc a b c d w).mono fun e w' ⟨h1,h2⟩=>⟨h1,h2 ▸ Below.refl _ _⟩
  ·obtain⟨b1,o1,rfl,h1⟩:=hA.2 (by omega)
   obtain⟨b2,o2,rfl,h2⟩:=hB.2 (by omega)
   exact (Bb b1 o1 b2 o2 n c d l k o w hn hA.1 hB.1 h1 h2 ho).mono fun e w' ⟨e1,q,e2⟩=>⟨e1,by rw[e2];exact Qe w q⟩
 ·have e:l≠k:=fun e=>h (by rw[←hA.1,←hB.1,e])
  rw[decide_eq_false e] at ho
  subst ho
  exact (Bd a b n m c d w h).mono fun e w' ⟨h1,h2⟩=>⟨h1,h2 ▸ Below.refl _ _⟩
theorem Es(x y:InD)(a b:Option Addr)(n c m d:Nat)(o:Bool)(w:World)(hn:n≤maxLen)(hA:OpsAt w a n x.2.2)(hB:OpsAt w b m y.2.2)(ho:decide (x=y)=o) :
  Calls Tryz.prog 93 #[.agg #[.int .i64 x.1,.int .i64 x.2.1,.slice a n c],.agg #[.int .i64 y.1,.int .i64 y.2.1,.slice b m d]] w fun e w'=>e = .returned (.bool o)∧Below w.heap.size w w':=by
 obtain⟨x1,x2,k⟩:=x
 obtain⟨y1,y2,l⟩:=y
 simp only at hA hB ⊢
 have hb:=Zf (Zi w (.cells #[.int .i64 x1,.int .i64 x2,.slice a n c] 119)) (Zi _ (.cells #[.int .i64 y1,.int .i64 y2,.slice b m d] 119))
 have HB:=Zb hb
 by_cases h1:x1=y1
 ·subst h1
  by_cases h2:x2=y2
  ·subst h2
   have C:=Zb (Hi a b n m c d k l o _ hn (hA.later hb) (hB.later hb) (by rw[←ho];simp))
   clear hA hB hb ho
   go_enter Tryz.func93,Tryz.ntmps93
   go_wp2_with fail
   refine (Za C).mono ?_
   rintro e w2 ⟨rfl,hb2⟩
   have HB2:=Zb (Zf (Za HB) hb2)
   clear hb2
   go_wp2
   go_ret
   exact⟨rfl,Za HB2⟩
  ·have e:o=false:=by rw[←ho];exact decide_eq_false (fun e=>h2 (by injection e with _ e;injection e))
   subst e
   clear hA hB hb ho
   go_enter Tryz.func93,Tryz.ntmps93
   go_wp2
   go_ret
   exact⟨rfl,Za HB⟩
 ·have e:o=false:=by rw[←ho];exact decide_eq_false (fun e=>h1 (by injection e))
  subst e
  clear hA hB hb ho
  go_enter Tryz.func93,Tryz.ntmps93
  go_wp2
  go_ret
  exact⟨rfl,Za HB⟩
theorem Gd(x y:Z0)(a b:Option Addr)(n c m d:Nat)(o:Bool)(w:World)(hn:n≤maxLen)(hA:OpsAt w a n x.2)(hB:OpsAt w b m y.2)(ho:decide (x=y)=o) :
  Calls Tryz.prog 97 #[.agg #[.int .i64 x.1,.slice a n c],.agg #[.int .i64 y.1,.slice b m d]] w fun e w'=>e = .returned (.bool o)∧Below w.heap.size w w':=by
 obtain⟨x1,k⟩:=x
 obtain⟨y1,l⟩:=y
 simp only at hA hB ⊢
 have hb:=Zf (Zi w (.cells #[.int .i64 x1,.slice a n c] 122)) (Zi _ (.cells #[.int .i64 y1,.slice b m d] 122))
 have HB:=Zb hb
 by_cases h1:x1=y1
 ·subst h1
  have C:=Zb (Hi a b n m c d k l o _ hn (hA.later hb) (hB.later hb) (by rw[←ho];simp))
  clear hA hB hb ho
  go_enter Tryz.func97,Tryz.ntmps97
  go_wp2_with fail
  refine (Za C).mono ?_
  rintro e w2 ⟨rfl,hb2⟩
  have HB2:=Zb (Zf (Za HB) hb2)
  clear hb2
  go_wp2
  go_ret
  exact⟨rfl,Za HB2⟩
 ·have e:o=false:=by rw[←ho];exact decide_eq_false (fun e=>h1 (by injection e))
  have g:(x1 == y1)=false:=by simp[h1]
  subst e
  clear hA hB hb ho
  go_enter Tryz.func97,Tryz.ntmps97
  go_wp2
  go_ret
  exact⟨rfl,Za HB⟩
theorem Be(b1 o1 b2 o2 n c d:Nat)(l k:List InD)(o:Bool)(w:World)(hn:n≤maxLen)(z1:l.length=n)(z2:k.length=n)
  (h1:∀ i (h:i<l.length),InAt w b1 (o1+i*3) l[i]) (h2:∀ i (h:i<k.length),InAt w b2 (o2+i*3) k[i]) (ho:decide (l=k)=o) :
  Calls Tryz.prog 95 #[.slice (some ⟨b1,o1,none⟩) n c,.slice (some ⟨b2,o2,none⟩) n d,.func (.func 93) #[] #[]] w fun e w'=>e = .returned (.bool o)∧Below w.heap.size w w':=by
 subst ho
 unfold maxLen at hn
 have H1:=Zb h1
 have H2:=Zb h2
 have Z1:=Zb z1
 have Z2:=Zb z2
 clear h1 h2 z1 z2
 go_enter Tryz.func95,Tryz.ntmps95
 go_wp2
 go_loopw [17] (fun i wr=>∃ j:Nat,j≤n∧i = .int .i64 j∧Below w.heap.size w wr∧Hid (l.take j=k.take j)) (fun i _=>n - (intOf i).toNat)
 case atStart=>exact⟨0,Nat.zero_le _,rfl,Below.refl _ _,rfl⟩
 case round=>
  obtain⟨j,hk,rfl,hb,A⟩:=hrel
  have HB:=Zb hb
  by_cases hlt:j<n
  ·have hl1:j<l.length:=by rw[Za Z1];exact hlt
   have hl2:j<k.length:=by rw[Za Z2];exact hlt
   have g:=InAt.kept _ _ _ _ _ hb ((Za H1) j hl1)
   have f:=InAt.kept _ _ _ _ _ hb ((Za H2) j hl2)
   have TS:=Zb (Uu hl1 hl2 (Za A))
   have TU:=Zb (W7 hl1 hl2)
   obtain⟨q,hq⟩:∃ q,l[j]=q:=⟨_,rfl⟩
   obtain⟨r,hr⟩:∃ r,k[j]=r:=⟨_,rfl⟩
   rw[hq] at g
   rw[hr] at f
   rw[hq,hr] at TS TU
   obtain⟨g1,g2,qa,qn,qc,g3,g4,g5⟩:=g
   obtain⟨f1,f2,ra,rn,rc,f3,f4,_⟩:=f
   obtain⟨q1,q2,qk⟩:=q
   obtain⟨r1,r2,rk⟩:=r
   simp only at g1 g2 g3 g4 f1 f2 f3 f4
   have lt2:b2<wr.heap.size:=World.block_lt_of_cell? _ _ f1
   have hb2:=Zf (Zi wr (.cells #[.int .i64 q1,.int .i64 q2,.slice qa qn qc] 119)) (Zi _ (.cells #[.int .i64 r1,.int .i64 r2,.slice ra rn rc] 119))
   have HB2:=Zb hb2
   have C:Hid (∀ o,decide (((q1,q2,qk):InD)=(r1,r2,rk))=o→Calls Tryz.prog 93 #[.agg #[.int .i64 q1,.int .i64 q2,.slice qa qn qc],.agg #[.int .i64 r1,.int .i64 r2,.slice ra rn rc]] ((wr.alloc (.cells #[.int .i64 q1,.int .i64 q2,.slice qa qn qc] 119)).alloc (.cells #[.int .i64 r1,.int .i64 r2,.slice ra rn rc] 119)) fun e w'=>e = .returned (.bool o)∧Below _ _ w'):=
    fun o ho=>Es (q1,q2,qk) (r1,r2,rk) qa ra qn qc rn rc o _ g5.len (g4.later hb2) (f4.later hb2) ho
   clear hq hr A g4 f4 g5 hb hb2
   by_cases he:((q1,q2,qk):InD)=(r1,r2,rk)
   ·have T:=Zb ((Za TS) he)
    have C2:=Zb ((Za C) true (decide_eq_true he))
    clear TS TU C he
    go_wp2_with fail
    refine (Za C2).mono ?_
    rintro e w3 ⟨rfl,hb3⟩
    have HB3:=Zb (Zf (Zf (Za HB) (Za HB2)) hb3)
    clear hb3
    go_wp2
    go_roundw
    case rel=>exact⟨j+1,by omega,by go_num,Za HB3,T⟩
    case measure=>simp[intOf];omega
   ·have U:Hid (decide (l=k)=false):=decide_eq_false ((Za TU) he)
    have C2:=Zb ((Za C) false (decide_eq_false he))
    clear TS TU C he
    go_wp2_with fail
    refine (Za C2).mono ?_
    rintro e w3 ⟨rfl,hb3⟩
    have HB3:=Zb (Zf (Zf (Za HB) (Za HB2)) hb3)
    clear hb3
    go_wp2
    go_ret
    exact⟨by rw[Za U];rfl,Za HB3⟩
  ·have U:Hid (decide (l=k)=true):=by
    have h:=Za A
    rw[List.take_of_length_le (by rw[Za Z1];omega),List.take_of_length_le (by rw[Za Z2];omega)] at h
    exact decide_eq_true h
   clear A hb
   go_wp2
   go_ret
   exact⟨by rw[Za U];rfl,Za HB⟩
theorem Dx(b1 o1 b2 o2 n c d:Nat)(l k:List Z0)(o:Bool)(w:World)(hn:n≤maxLen)(z1:l.length=n)(z2:k.length=n)
  (h1:∀ i (h:i<l.length),OutAt w b1 (o1+i*2) l[i]) (h2:∀ i (h:i<k.length),OutAt w b2 (o2+i*2) k[i]) (ho:decide (l=k)=o) :
  Calls Tryz.prog 96 #[.slice (some ⟨b1,o1,none⟩) n c,.slice (some ⟨b2,o2,none⟩) n d,.func (.func 97) #[] #[]] w fun e w'=>e = .returned (.bool o)∧Below w.heap.size w w':=by
 subst ho
 unfold maxLen at hn
 have H1:=Zb h1
 have H2:=Zb h2
 have Z1:=Zb z1
 have Z2:=Zb z2
 clear h1 h2 z1 z2
 go_enter Tryz.func96,Tryz.ntmps96
 go_wp2
 go_loopw [17] (fun i wr=>∃ j:Nat,j≤n∧i = .int .i64 j∧Below w.heap.size w wr∧Hid (l.take j=k.take j)) (fun i _=>n - (intOf i).toNat)
 case atStart=>exact⟨0,Nat.zero_le _,rfl,Below.refl _ _,rfl⟩
 case round=>
  obtain⟨j,hk,rfl,hb,A⟩:=hrel
  have HB:=Zb hb
  by_cases hlt:j<n
  ·have hl1:j<l.length:=by rw[Za Z1];exact hlt
   have hl2:j<k.length:=by rw[Za Z2];exact hlt
   have g:=OutAt.kept _ _ _ _ _ hb ((Za H1) j hl1)
   have f:=OutAt.kept _ _ _ _ _ hb ((Za H2) j hl2)
   have TS:=Zb (Uu hl1 hl2 (Za A))
   have TU:=Zb (W7 hl1 hl2)
   obtain⟨q,hq⟩:∃ q,l[j]=q:=⟨_,rfl⟩
   obtain⟨r,hr⟩:∃ r,k[j]=r:=⟨_,rfl⟩
   rw[hq] at g
   rw[hr] at f
   rw[hq,hr] at TS TU
   obtain⟨g1,qa,qn,qc,g3,g4,g5⟩:=g
   obtain⟨f1,ra,rn,rc,f3,f4,_⟩:=f
   obtain⟨q1,qk⟩:=q
   obtain⟨r1,rk⟩:=r
   simp only at g1 g3 g4 f1 f3 f4
   have lt2:b2<wr.heap.size:=World.block_lt_of_cell? _ _ f1
   have hb2:=Zf (Zi wr (.cells #[.int .i64 q1,.slice qa qn qc] 122)) (Zi _ (.cells #[.int .i64 r1,.slice ra rn rc] 122))
   have HB2:=Zb hb2
   have C:Hid (∀ o,decide (((q1,qk):Z0)=(r1,rk))=o→Calls Tryz.prog 97 #[.agg #[.int .i64 q1,.slice qa qn qc],.agg #[.int .i64 r1,.slice ra rn rc]] ((wr.alloc (.cells #[.int .i64 q1,.slice qa qn qc] 122)).alloc (.cells #[.int .i64 r1,.slice ra rn rc] 122)) fun e w'=>e = .returned (.bool o)∧Below _ _ w'):=
    fun o ho=>Gd (q1,qk) (r1,rk) qa ra qn qc rn rc o _ g5.len (g4.later hb2) (f4.later hb2) ho
   clear hq hr A g4 f4 g5 hb hb2
   by_cases he:((q1,qk):Z0)=(r1,rk)
   ·have T:=Zb ((Za TS) he)
    have C2:=Zb ((Za C) true (decide_eq_true he))
    clear TS TU C he
    go_wp2_with fail
    refine (Za C2).mono ?_
    rintro e w3 ⟨rfl,hb3⟩
    have HB3:=Zb (Zf (Zf (Za HB) (Za HB2)) hb3)
    clear hb3
    go_wp2
    go_roundw
    case rel=>exact⟨j+1,by omega,by go_num,Za HB3,T⟩
    case measure=>simp[intOf];omega
   ·have U:Hid (decide (l=k)=false):=decide_eq_false ((Za TU) he)
    have C2:=Zb ((Za C) false (decide_eq_false he))
    clear TS TU C he
    go_wp2_with fail
    refine (Za C2).mono ?_
    rintro e w3 ⟨rfl,hb3⟩
    have HB3:=Zb (Zf (Zf (Za HB) (Za HB2)) hb3)
    clear hb3
    go_wp2
    go_ret
    exact⟨by rw[Za U];rfl,Za HB3⟩
  ·have U:Hid (decide (l=k)=true):=by
    have h:=Za A
    rw[List.take_of_length_le (by rw[Za Z1];omega),List.take_of_length_le (by rw[Za Z2];omega)] at h
    exact decide_eq_true h
   clear A hb
   go_wp2
   go_ret
   exact⟨by rw[Za U];rfl,Za HB⟩
theorem Bg(a b:Option Addr)(n m c d:Nat)(v:Value)(w:World)(h:n≠m) :
  Calls Tryz.prog 95 #[.slice a n c,.slice b m d,v] w fun e w'=>e = .returned (.bool false)∧w=w':=by
 have g:((n:Int) != (m:Int))=true:=by simp;omega
 clear h
 go_enter Tryz.func95,Tryz.ntmps95
 go_wp2
 go_ret
 exact⟨rfl,rfl⟩
theorem Bf(a b:Option Addr)(c d:Nat)(v:Value)(w:World) :
  Calls Tryz.prog 95 #[.slice a 0 c,.slice b 0 d,v] w fun e w'=>e = .returned (.bool true)∧w=w':=by
 go_enter Tryz.func95,Tryz.ntmps95
 go_wp2
 refine wp_loop_rounds 1 ?_
 rw[rounds_succ]
 go_wp2
 go_ret
 exact⟨rfl,rfl⟩
theorem D7(a b:Option Addr)(n m c d:Nat)(l k:List InD)(o:Bool)(w:World)(hn:n≤maxLen)(hA:InsAt w a n l)(hB:InsAt w b m k)(ho:decide (l=k)=o) :
  Calls Tryz.prog 95 #[.slice a n c,.slice b m d,.func (.func 93) #[] #[]] w fun e w'=>e = .returned (.bool o)∧Below w.heap.size w w':=by
 by_cases h:n=m
 ·subst h
  by_cases h0:n=0
  ·subst h0
   have e1:l=[]:=List.length_eq_zero_iff.1 hA.1
   have e2:k=[]:=List.length_eq_zero_iff.1 hB.1
   subst e1 e2
   rw[decide_eq_true rfl] at ho
   subst ho
   exact (Bf a b c d _ w).mono fun e w' ⟨h1,h2⟩=>⟨h1,h2 ▸ Below.refl _ _⟩
  ·obtain⟨b1,o1,rfl,_,h1⟩:=hA.2 (by omega)
   obtain⟨b2,o2,rfl,_,h2⟩:=hB.2 (by omega)
   exact Be b1 o1 b2 o2 n c d l k o w hn hA.1 hB.1 h1 h2 ho
 ·have e:l≠k:=fun e=>h (by rw[←hA.1,←hB.1,e])
  rw[decide_eq_false e] at ho
  subst ho
  exact (Bg a b n m c d _ w h).mono fun e w' ⟨h1,h2⟩=>⟨h1,h2 ▸ Below.refl _ _⟩
theorem Dz(a b:Option Addr)(n m c d:Nat)(v:Value)(w:World)(h:n≠m) :
  Calls Tryz.prog 96 #[.slice a n c,.slice b m d,v] w fun e w'=>e = .returned (.bool false)∧w=w':=by
 have g:((n:Int) != (m:Int))=true:=by simp;omega
 clear h
 go_enter Tryz.func96,Tryz.ntmps96
 go_wp2
 go_ret
 exact⟨rfl,rfl⟩
theorem Dy(a b:Option Addr)(c d:Nat)(v:Value)(w:World) :
  Calls Tryz.prog 96 #[.slice a 0 c,.slice b 0 d,v] w fun e w'=>e = .returned (.bool true)∧w=w':=by
 go_enter Tryz.func96,Tryz.ntmps96
 go_wp2
 refine wp_loop_rounds 1 ?_
 rw[rounds_succ]
 go_wp2
 go_ret
 exact⟨rfl,rfl⟩
theorem Zav(a b:Option Addr)(n m c d:Nat)(l k:List Z0)(o:Bool)(w:World)(hn:n≤maxLen)(hA:OutsAt w a n l)(hB:OutsAt w b m k)(ho:decide (l=k)=o) :
  Calls Tryz.prog 96 #[.slice a n c,.slice b m d,.func (.func 97) #[] #[]] w fun e w'=>e = .returned (.bool o)∧Below w.heap.size w w':=by
 by_cases h:n=m
 ·subst h
  by_cases h0:n=0
  ·subst h0
   have e1:l=[]:=List.length_eq_zero_iff.1 hA.1
   have e2:k=[]:=List.length_eq_zero_iff.1 hB.1
   subst e1 e2
   rw[decide_eq_true rfl] at ho
   subst ho
   exact (Dy a b c d _ w).mono fun e w' ⟨h1,h2⟩=>⟨h1,h2 ▸ Below.refl _ _⟩
  ·obtain⟨b1,o1,rfl,_,h1⟩:=hA.2 (by omega)
   obtain⟨b2,o2,rfl,_,h2⟩:=hB.2 (by omega)
   exact Dx b1 o1 b2 o2 n c d l k o w hn hA.1 hB.1 h1 h2 ho
 ·have e:l≠k:=fun e=>h (by rw[←hA.1,←hB.1,e])
  rw[decide_eq_false e] at ho
  subst ho
  exact (Dz a b n m c d _ w h).mono fun e w' ⟨h1,h2⟩=>⟨h1,h2 ▸ Below.refl _ _⟩
theorem Ky(h h':Int)(ai ao bi bo:Option Addr)(ni ci no co mi di mo eo:Nat)(I I':List InD)(O O':List Z0)(o:Bool)(w:World)(li:ni≤maxLen)(lo:no≤maxLen)
  (hI:InsAt w ai ni I) (hO:OutsAt w ao no O) (hI':InsAt w bi mi I') (hO':OutsAt w bo mo O') (ho:Vh (h,I,O) (h',I',O')=o) :
  Calls Tryz.prog 30 #[.agg #[.int .i64 h,.slice ai ni ci,.slice ao no co],.agg #[.int .i64 h',.slice bi mi di,.slice bo mo eo]] w fun e w'=>e = .returned (.bool o)∧Below w.heap.size w w':=by
 have hb1:=Zi w (.cells #[.int .i64 h,.slice ai ni ci,.slice ao no co] 59)
 have hb2:=Zi (w.alloc (.cells #[.int .i64 h,.slice ai ni ci,.slice ao no co] 59)) (.cells #[.int .i64 h',.slice bi mi di,.slice bo mo eo] 59)
 have hb:=Zf hb1 hb2
 have HB:=Zb hb
 have M2:=Zb (Ze hb2 (Ut w (.int .i64 h) (.slice ai ni ci) (.slice ao no co) 59).2.2)
 have N2:=Zb (Ut (w.alloc (.cells #[.int .i64 h,.slice ai ni ci,.slice ao no co] 59)) (.int .i64 h') (.slice bi mi di) (.slice bo mo eo) 59).2.2
 have HI:=Zb (hI.later hb)
 have HO:=Zb (hO.later hb)
 have HI':=Zb (hI'.later hb)
 have HO':=Zb (hO'.later hb)
 have LI:=Zb li
 have LO:=Zb lo
 clear hI hO hI' hO' hb hb1 hb2 li lo
 by_cases h1:h=h'
 ·subst h1
  by_cases h2:I=I'
  ·have ho':decide (O=O')=o:=by rw[←ho];unfold Vh;simp[h2]
   have CI:=Zb (D7 ai bi ni mi ci di I I' true _ (Za LI) (Za HI) (Za HI') (decide_eq_true h2))
   have HQ:=Zb ho'
   clear ho ho' h2
   go_enter Tryz.func30,Tryz.ntmps30
   go_wp2_with fail
   refine (Za CI).mono ?_
   rintro e w2 ⟨rfl,hb2⟩
   have m2:=Ze hb2 (Za M2)
   have n2:=Ze hb2 (Za N2)
   rw[show (w.alloc (.cells #[.int .i64 h,.slice ai ni ci,.slice ao no co] 59)).heap.size=w.heap.size+1 by simp] at n2
   have s2:w.heap.size+1<w2.heap.size:=World.block_lt_of_cell? _ _ n2
   have s1:w.heap.size<w2.heap.size:=by omega
   have CO:=Zb (Zav ao bo no mo co eo O O' o w2 (Za LO) ((Za HO).later hb2) ((Za HO').later hb2) (Za HQ))
   have HB2:=Zb (Zf (Za HB) hb2)
   clear hb2
   go_wp2_with fail
   refine (Za CO).mono ?_
   rintro e w3 ⟨rfl,hb3⟩
   have HB3:=Zb (Zf (Za HB2) hb3)
   clear hb3
   go_wp2
   go_ret
   exact⟨rfl,Za HB3⟩
  ·have e:o=false:=by rw[←ho];unfold Vh;simp[h2]
   subst e
   have CI:=Zb (D7 ai bi ni mi ci di I I' false _ (Za LI) (Za HI) (Za HI') (decide_eq_false h2))
   clear ho h2
   go_enter Tryz.func30,Tryz.ntmps30
   go_wp2_with fail
   refine (Za CI).mono ?_
   rintro e w2 ⟨rfl,hb2⟩
   have HB2:=Zb (Zf (Za HB) hb2)
   clear hb2
   go_wp2
   go_ret
   exact⟨rfl,Za HB2⟩
 ·have e:o=false:=by rw[←ho];unfold Vh;simp[h1]
  subst e
  have g:(h == h')=false:=by simp[h1]
  clear ho
  go_enter Tryz.func30,Tryz.ntmps30
  go_wp2
  go_ret
  exact⟨rfl,Za HB⟩
end Go.Proofs.YtmomfkikogbdeaaGreatDoor
