/- The contract of tree.Block. -/
import Derived.Test.YtmomfkikogbdeaaGreatDoorTrCheckToTrAdd
import Derived.Test.YtmomfkikogbdeaaGreatDoorPolSweepToNodKnow
import Derived.Test.YtmomfkikogbdeaaGreatDoorPolSwToPolKeepW
import Derived.Test.YtmomfkikogbdeaaGreatDoorLockPrintToBlkPrint
import Derived.Test.YtmomfkikogbdeaaGreatDoorCoinTakeToBlkHead
import Derived.Deep.RegionHeld3
import Derived.Deep.RegionLaw
import Derived.DeepKeys
import Derived.Laws.StructEq
namespace Go.Proofs.YtmomfkikogbdeaaGreatDoor.Tr
open Go.RowKit
def blockE(N:List Int)(T:List Zg)(s:Int):Zg×Int:=
 if chkTr N T≠0 then (zeroB,chkTr N T) else if decide (s∈N)=true then (fnd s N T,0) else (zeroB,5)
theorem fnd_at{N:List Int}{T:List Zg}{s:Int}(hl:N.length=T.length)(h:s∈N):fnd s N T∈T:=by
 rcases Q0 s N T 0 hl with ⟨_,q,_⟩|⟨i,hi,_,_,q⟩
 ·exact absurd h q
 ·rw[q];exact List.getElem_mem hi
def Cy(w w':World)(x:Zg)(y:Int)(e:Ending):Prop:=
 ∃ ta tn tc,e = .returned (.tuple #[.agg #[.int .i64 x.1,.int .i64 x.2.1,.int .i64 x.2.2.1,.int .i64 x.2.2.2.1,.slice ta tn tc],.int .i64 y])∧TxsAt w' ta tn x.2.2.2.2∧SlOk ta tn tc∧Below w.heap.size w w'
theorem Sh{w w':World}{y:Int}(hb:Below w.heap.size w w'):Cy w w' zeroB y (.returned (.tuple #[.agg #[.int .i64 0,.int .i64 0,.int .i64 0,.int .i64 0,.slice none 0 0],.int .i64 y])):=
 ⟨none,0,0,rfl,RowsAt.nil _ _,⟨Nat.le_refl _,Nat.zero_le _,fun _=>⟨rfl,rfl⟩⟩,hb⟩
theorem Hf(W:World)(t:Nat)(a b c d e:Value):Gr W (((((W.setCell ⟨t,0,none⟩ a).setCell ⟨t,1,none⟩ b).setCell ⟨t,2,none⟩ c).setCell ⟨t,3,none⟩ d).setCell ⟨t,4,none⟩ e) (fun q=>q=t):=
 (((((Gr.refl W (fun q=>q=t)).one t 0 (.inl rfl) _).one t 1 (.inl rfl) _).one t 2 (.inl rfl) _).one t 3 (.inl rfl) _).one t 4 (.inl rfl) _
set_option maxRecDepth 10000 in
set_option maxHeartbeats 6400000 in
theorem block_is(a b:Option Addr)(n c m d:Nat)(N:List Int)(T:List Zg)(s:Int)(x:Zg)(y:Int)(w:World)(hN:IntsAt w a n N)(hT:BlksAt w b m T)(sN:SlOk a n c)(sT:SlOk b m d)(hx:blockE N T s=(x,y)) :
  Calls Tryz.prog 20 #[.agg #[.slice a n c,.slice b m d],.int .i64 s] w fun e w'=>Cy w w' x y e:=by
 obtain⟨X,hX⟩:∃ X,X=(w.alloc (.cells #[.slice a n c,.slice b m d] 28)).alloc (.cells #[.int .i64 0,.int .i64 0,.int .i64 0,.int .i64 0,.slice none 0 0] 39):=⟨_,rfl⟩
 have hbX:Below w.heap.size w X:=by rw[hX];exact bel_on (bel_new _ _) (bel_new _ _)
 have hX0:X.heap[w.heap.size]? = some (.cells [.slice a n c,.slice b m d].toArray 28 (0,0)):=by rw[hX,Below.heap_alloc _ _ _ (by simp)];exact Yh _ _ _ _
 have hX1:X.heap[w.heap.size+1]? = some (.cells [.int .i64 0,.int .i64 0,.int .i64 0,.int .i64 0,.slice none 0 0].toArray 39 (0,0)):=by
  rw[hX]
  have:=Zl (w.alloc (.cells #[.slice a n c,.slice b m d] 28)) (.int .i64 0) (.int .i64 0) (.int .i64 0) (.int .i64 0) (.slice none 0 0) 39
  rw[show (w.alloc (.cells #[.slice a n c,.slice b m d] 28)).heap.size=w.heap.size+1 by simp] at this
  exact this
 have HB:=hide hbX
 have HX0:=hide hX0
 have HX1:=hide hX1
 obtain⟨z,hz⟩:∃ z,chkTr N T=z:=⟨_,rfl⟩
 have C1:=hide (V3 a b n c m d N T z X (hN.later hbX) (hT.later hbX) sN sT hz)
 have x0:=Za hX0 0 _ rfl
 have x1:=Za hX0 1 _ rfl
 have xl:=lt_of_block hX0
 unfold blockE at hx
 rw[hz] at hx
 by_cases q:z=0
 ·subst q
  rw[if_neg (by simp)] at hx
  obtain⟨hl,h24,hH,hgo⟩:=Vm hz
  obtain rfl:n=m:=by rw[←hN.1,←hT.1,hl]
  have hnm:n≤maxLen:=sN.len
  obtain⟨o,ho⟩:∃ o,decide (s∈N)=o:=⟨_,rfl⟩
  rw[ho] at hx
  have C2:=hide (fun W (hb:Below X.heap.size X W)=>Ms a b n c n d N s o W hnm (hN.later (bel_on hbX hb)) ho)
  cases o with
  | false=>
   rw[if_neg (by simp)] at hx
   obtain⟨rfl,rfl⟩:zeroB=x∧5=y:=⟨congrArg Prod.fst hx,congrArg Prod.snd hx⟩
   clear hbX hX0 hX1 hN hT sN sT hz hx hl h24 hH hgo ho hnm
   go_enter Tryz.func20,Tryz.ntmps20
   go_wp2_with fail
   rw[←hX]
   clear hX
   refine (unhide C1).mono ?_
   rintro e w1 ⟨rfl,hb1⟩
   have CC:=hide ((unhide C2) _ hb1)
   have hc:=(hb1.block _ (lt_of_block (unhide HX0))).trans (unhide HX0)
   have hc1:=(hb1.block _ (lt_of_block (unhide HX1))).trans (unhide HX1)
   have H0:=hide hc
   have H1:=hide hc1
   have t0:=Za hc 0 _ rfl
   have t1:=Za hc 1 _ rfl
   have tl:=lt_of_block hc
   have HBX1:=hide hb1
   have HB1:=hide (bel_on (unhide HB) hb1)
   clear hb1 x0 x1 xl hc hc1 C1 C2
   go_wp2_with fail
   refine (unhide CC).mono ?_
   rintro e w2 ⟨rfl,hb2⟩
   have hd:=(hb2.block _ (lt_of_block (unhide H1))).trans (unhide H1)
   have z0:=Za hd 0 _ rfl
   have f0:=Zb hd 0
   have z1:=Za hd 1 _ rfl
   have f1:=Zb hd 1
   have z2:=Za hd 2 _ rfl
   have f2:=Zb hd 2
   have z3:=Za hd 3 _ rfl
   have f3:=Zb hd 3
   have z4:=Za hd 4 _ rfl
   have f4:=Zb hd 4
   have zl:=lt_of_block hd
   clear hd
   have HBW:=hide (bel_on (unhide HB1) hb2)
   clear hb2 t0 t1 tl
   go_wp2
   (try simp only[Exit.inBlock,Exit.then])
   refine bodyPost_ret (v:=.tuple #[.agg #[.int .i64 0,.int .i64 0,.int .i64 0,.int .i64 0,.slice none 0 0],.int .i64 5]) ?_ rfl (Sh ?_)
   ·rw[Zq rfl]
    go_simp
   ·exact (Hf _ _ _ _ _ _ _).below (unhide HBW) (by omega) (fun k hk=>by omega)
  | true=>
   rw[if_pos rfl] at hx
   obtain⟨hfx,rfl⟩:fnd s N T=x∧0=y:=⟨congrArg Prod.fst hx,congrArg Prod.snd hx⟩
   have hmem:x∈T:=by rw[←hfx];exact fnd_at hl (by simpa using ho)
   have hsm:=blk_small (Qj N T [] [] hl hgo x hmem)
   have C3:=hide (fun W (hb:Below X.heap.size X W)=>Ro a b n c d N T s x W hnm (hN.later (bel_on hbX hb)) (hT.later (bel_on hbX hb)) hfx)
   have HSM:=hide hsm
   clear hbX hX0 hX1 hN hT sN sT hz hx hl h24 hH hgo ho hnm hfx hmem hsm
   obtain⟨p,h,k,r,L⟩:=x
   go_enter Tryz.func20,Tryz.ntmps20
   go_wp2_with fail
   rw[←hX]
   clear hX
   refine (unhide C1).mono ?_
   rintro e w1 ⟨rfl,hb1⟩
   have CC:=hide ((unhide C2) _ hb1)
   have hc:=(hb1.block _ (lt_of_block (unhide HX0))).trans (unhide HX0)
   have hc1:=(hb1.block _ (lt_of_block (unhide HX1))).trans (unhide HX1)
   have H0:=hide hc
   have H1:=hide hc1
   have t0:=Za hc 0 _ rfl
   have t1:=Za hc 1 _ rfl
   have tl:=lt_of_block hc
   have HBX1:=hide hb1
   have HB1:=hide (bel_on (unhide HB) hb1)
   clear hb1 x0 x1 xl hc hc1 C1 C2
   go_wp2_with fail
   refine (unhide CC).mono ?_
   rintro e w2 ⟨rfl,hb2⟩
   have C4:=hide ((unhide C3) _ (bel_on (unhide HBX1) hb2))
   have hc2:=(hb2.block _ (lt_of_block (unhide H0))).trans (unhide H0)
   have hd:=(hb2.block _ (lt_of_block (unhide H1))).trans (unhide H1)
   have HD:=hide hd
   have u0:=Za hc2 0 _ rfl
   have u1:=Za hc2 1 _ rfl
   have ul:=lt_of_block hc2
   have HB2:=hide (bel_on (unhide HB1) hb2)
   clear hb2 hc2 hd t0 t1 tl CC C3
   go_wp2_with fail
   refine (unhide C4).mono ?_
   rintro e w3 ⟨ta,tn,tc,rfl,hL,sL,hb3⟩
   have hL:TxsAt w2 ta tn L:=hL
   have C5:=hide (Qi p h k r ta tn tc L w3 (hL.later hb3) sL (by rw[←hL.1];exact (unhide HSM).1) (unhide HSM).2)
   have hd:=(hb3.block _ (lt_of_block (unhide HD))).trans (unhide HD)
   have HD3:=hide hd
   have HB3:=hide (bel_on (unhide HB2) hb3)
   have HLT:=hide hL.1
   clear hb3 hd hL sL u0 u1 ul C4
   unfold blkV
   go_wp2_with fail
   refine (unhide C5).mono ?_
   rintro e w4 ⟨a',c',rfl,hf,hb4⟩
   have hd:=(hb4.block _ (lt_of_block (unhide HD3))).trans (unhide HD3)
   have z0:=Za hd 0 _ rfl
   have f0:=Zb hd 0
   have z1:=Za hd 1 _ rfl
   have f1:=Zb hd 1
   have z2:=Za hd 2 _ rfl
   have f2:=Zb hd 2
   have z3:=Za hd 3 _ rfl
   have f3:=Zb hd 3
   have z4:=Za hd 4 _ rfl
   have f4:=Zb hd 4
   have zl:=lt_of_block hd
   clear hd
   have hg:=Hf w4 (w.heap.size+1) (.int .i64 p) (.int .i64 h) (.int .i64 k) (.int .i64 r) (.slice a' tn c')
   have hlw:=lt_of_block (unhide HD3)
   have HW:=hide (hf _ (hg.mono fun q _ e=>by omega))
   have HBW:Hid (Below w.heap.size w (((((w4.setCell ⟨w.heap.size+1,0,none⟩ (.int .i64 p)).setCell ⟨w.heap.size+1,1,none⟩ (.int .i64 h)).setCell ⟨w.heap.size+1,2,none⟩ (.int .i64 k)).setCell ⟨w.heap.size+1,3,none⟩ (.int .i64 r)).setCell ⟨w.heap.size+1,4,none⟩ (.slice a' tn c'))):=hg.below (bel_on (unhide HB3) hb4) (by omega) (fun k hk=>by omega)
   clear hb4 hf hg hlw C5
   go_wp2
   (try simp only[Exit.inBlock,Exit.then])
   refine bodyPost_ret (v:=.tuple #[.agg #[.int .i64 p,.int .i64 h,.int .i64 k,.int .i64 r,.slice a' tn c'],.int .i64 0]) ?_ rfl ?_
   ·rw[Zq rfl]
    go_simp
   ·obtain⟨a2,n2,c2,e2,f1,f2⟩:=unhide HW
    cases e2
    exact⟨_,_,_,rfl,f1,f2,unhide HBW⟩
 ·rw[if_pos q] at hx
  obtain⟨rfl,rfl⟩:zeroB=x∧z=y:=⟨congrArg Prod.fst hx,congrArg Prod.snd hx⟩
  have g:(z != 0)=true:=by simp[q]
  clear hbX hX0 hX1 hN hT sN sT hz hx q
  go_enter Tryz.func20,Tryz.ntmps20
  go_wp2_with fail
  rw[←hX]
  clear hX
  refine (unhide C1).mono ?_
  rintro e w1 ⟨rfl,hb1⟩
  have hd:=(hb1.block _ (lt_of_block (unhide HX1))).trans (unhide HX1)
  have z0:=Za hd 0 _ rfl
  have f0:=Zb hd 0
  have z1:=Za hd 1 _ rfl
  have f1:=Zb hd 1
  have z2:=Za hd 2 _ rfl
  have f2:=Zb hd 2
  have z3:=Za hd 3 _ rfl
  have f3:=Zb hd 3
  have z4:=Za hd 4 _ rfl
  have f4:=Zb hd 4
  have zl:=lt_of_block hd
  clear hd
  have HB1:=hide (bel_on (unhide HB) hb1)
  clear hb1 x0 x1 xl C1
  go_wp2
  (try simp only[Exit.inBlock,Exit.then])
  refine bodyPost_ret (v:=.tuple #[.agg #[.int .i64 0,.int .i64 0,.int .i64 0,.int .i64 0,.slice none 0 0],.int .i64 z]) ?_ rfl (Sh ?_)
  ·rw[Zq rfl]
   go_simp
  ·exact (Hf _ _ _ _ _ _ _).below (unhide HB1) (by omega) (fun k hk=>by omega)
end Go.Proofs.YtmomfkikogbdeaaGreatDoor.Tr
namespace Go.Proofs.YtmomfkikogbdeaaGreatDoor
open Go.RowKit
def So(w:World)(q:Nat):Prop:=(∀ (j:Nat) (i i':Int),w.cell? ⟨q,j,none⟩=some (.int .i64 i)→w.cell? ⟨q,j+1,none⟩=some (.int .i64 i')→False)∧∀ (j:Nat) (s:ByteArray),w.cell? ⟨q,j,none⟩≠some (.string s)
theorem Mb{w:World}{q:Nat}{es:Array MapEntry}{c:Nat}(h:w.heap[q]? = some (.map es c)):So w q:=by
 refine⟨fun j i i' h1 _=>?_,fun j s h1=>?_⟩ <;> simp[World.cell?,h] at h1
theorem Kr{w:World}{q:Nat}{a b c d:Option Addr}{n1 c1 n2 c2 n3 c3 n4 c4:Nat}{t:Int}{m:Option Nat}{ty:TypeId}(h:w.heap[q]? = some (.cells [.slice a n1 c1,.slice b n2 c2,.slice c n3 c3,.slice d n4 c4,.int .i64 t,.map m].toArray ty (0,0))):So w q:=by
 refine⟨fun j i i' h1 h2=>?_,fun j s h1=>?_⟩
 ·match j with
  | 0=>simp[World.cell?,h] at h1
  | 1=>simp[World.cell?,h] at h1
  | 2=>simp[World.cell?,h] at h1
  | 3=>simp[World.cell?,h] at h1
  | 4=>simp[World.cell?,h] at h2
  | 5=>simp[World.cell?,h] at h1
  | j+6=>simp[World.cell?,h] at h1
 ·match j with
  | 0=>simp[World.cell?,h] at h1
  | 1=>simp[World.cell?,h] at h1
  | 2=>simp[World.cell?,h] at h1
  | 3=>simp[World.cell?,h] at h1
  | 4=>simp[World.cell?,h] at h1
  | 5=>simp[World.cell?,h] at h1
  | j+6=>simp[World.cell?,h] at h1
theorem Zbt{w w':World}{S:Nat→Prop}(g:Gr w w' S)(hS:∀ q,S q→So w q){a:Option Addr}{n:Nat}{l:List (Int×Int)}(h:OpsAt w a n l):OpsAt w' a n l:=by
 refine⟨h.1,fun h0=>?_⟩
 obtain⟨b,off,rfl,hc⟩:=h.2 h0
 refine⟨b,off,rfl,fun i hi=>?_⟩
 obtain⟨c0,c1⟩:=hc i hi
 have hn:¬S b:=fun q=>(hS b q).1 _ _ _ c0 c1
 exact⟨g.cell c0 hn,g.cell c1 hn⟩
theorem Cb{w w':World}{S:Nat→Prop}(g:Gr w w' S)(hS:∀ q,S q→So w q){a:Option Addr}{n:Nat}{C:List Zd}(h:CoinsAt w a n C):CoinsAt w' a n C:=by
 refine⟨h.1,fun h0=>?_⟩
 obtain⟨b,off,rfl,hl,hc⟩:=h.2 h0
 refine⟨b,off,rfl,Nat.lt_of_lt_of_le hl g.size,fun i hi=>?_⟩
 obtain⟨c0,c1,c2,⟨la,ln,lc,c3,h5,h6⟩,c4,c5⟩:=hc i hi
 have hn:¬S b:=fun q=>(hS b q).1 _ _ _ c0 c1
 exact⟨g.cell c0 hn,g.cell c1 hn,g.cell c2 hn,⟨la,ln,lc,g.cell c3 hn,Zbt g hS h5,h6⟩,g.cell c4 hn,g.cell c5 hn⟩
def Qn(β : Int→List Zd)(s:Int)(C:List Zd):Int→List Zd:=fun x=>if x=s then C else β x
structure Sp(w:World)(ka:Option Addr)(kn:Nat)(K:List ByteArray)(na:Option Addr)(nn:Nat)(N:List Int)(ba:Option Addr)(bn:Nat)(T:List Zg)(pa:Option Addr)(pn:Nat)(P:List TxD):Prop where
 k:Bk.TextsAt w ka kn K
 n:Tr.IntsAt w na nn N
 b:Tr.BlksAt w ba bn T
 p:TxsAt w pa pn P
def Cx(w:World)(f:Int→Value)(β : Int→List Zd):Prop:=∀ x,∃ a m c,f x = .slice a m c∧CoinsAt w a m (β x)∧SlOk a m c
structure DeskAt(Z:Nat→Prop)(w:World)(d bm m:Nat)(ka:Option Addr)(kn kc:Nat)(K:List ByteArray)(na:Option Addr)(nn nc:Nat)(N:List Int)(ba:Option Addr)(bn bc:Nat)(T:List Zg)(pa:Option Addr)(pn pc:Nat)(P:List TxD)(tip:Int)(f:Int→Value)(β : Int→List Zd):Prop where
 box:w.heap[d]? = some (.cells [.slice ka kn kc,.slice na nn nc,.slice ba bn bc,.slice pa pn pc,.int .i64 tip,.map (some bm)].toArray 254 (0,0))
 dat:∀ W,Gr w W (fun q=>q=d∨q=bm∨Z q)→Sp W ka kn K na nn N ba bn T pa pn P
 coi:∀ W,Gr w W (fun q=>q=d∨q=bm)→Cx W f β
 sk:SlOk ka kn kc
 sn:SlOk na nn nc
 sb:SlOk ba bn bc
 sp:SlOk pa pn pc
 mp:BMap bm m f w
 ne:d≠bm
 zb:∀ q,Z q→q<w.heap.size
section
variable {Z : Nat → Prop} {w w' : World} {d bm m : Nat} {ka na ba pa : Option Addr} {kn kc nn nc bn bc pn pc : Nat} {K : List ByteArray} {N : List Int} {T : List Zg} {P : List TxD} {tip : Int} {f : Int → Value} {β : Int → List Zd}
theorem DeskAt.now(h:DeskAt Z w d bm m ka kn kc K na nn nc N ba bn bc T pa pn pc P tip f β):Sp w ka kn K na nn N ba bn T pa pn P:=h.dat w (Gr.refl _ _)
theorem DeskAt.c(h:DeskAt Z w d bm m ka kn kc K na nn nc N ba bn bc T pa pn pc P tip f β):Cx w f β:=h.coi w (Gr.refl _ _)
theorem DeskAt.later(h:DeskAt Z w d bm m ka kn kc K na nn nc N ba bn bc T pa pn pc P tip f β)(hb:Below w.heap.size w w'):DeskAt Z w' d bm m ka kn kc K na nn nc N ba bn bc T pa pn pc P tip f β:=
 ⟨(hb.block d (lt_of_block h.box)).trans h.box,fun W g=>h.dat W ((Gr.of hb).trans g),fun W g=>h.coi W ((Gr.of hb).trans g),h.sk,h.sn,h.sb,h.sp,h.mp.keep hb,h.ne,fun q e=>Nat.lt_of_lt_of_le (h.zb q e) hb.size⟩
theorem DeskAt.np(h:DeskAt Z w d bm m ka kn kc K na nn nc N ba bn bc T pa pn pc P tip f β)(q:Nat)(hq:q=d∨q=bm):So w q:=by
 rcases hq with rfl|rfl
 ·exact Kr h.box
 ·obtain⟨es,c,hm⟩:=h.mp.isMap
  exact Mb hm
theorem DeskAt.book(h:DeskAt Z w d bm m ka kn kc K na nn nc N ba bn bc T pa pn pc P tip f β):KAt w d K:=⟨ka,kn,kc,Za h.box 0 _ rfl,h.now.k,h.sk,lt_of_block h.box⟩
theorem DeskAt.put(h:DeskAt Z w d bm m ka kn kc K na nn nc N ba bn bc T pa pn pc P tip f β){W:World}(hb:Below w.heap.size w W){s:Int}{a:Option Addr}{n c:Nat}{C:List Zd}(hC:CoinsAt W a n C)(sC:SlOk a n c)
  (hm:BMap bm (m+1) (fun y=>if y=s then .slice a n c else f y) w') (hg:W.grownBy w' (some bm)):DeskAt Z w' d bm (m+1) ka kn kc K na nn nc N ba bn bc T pa pn pc P tip (fun y=>if y=s then .slice a n c else f y) (Qn β s C):=by
 have h2:=h.later hb
 have g:Gr W w' (fun q=>q=bm):=(Gr.refl W (fun q=>q=bm)).grown hg (fun q e=>.inl (by injection e with e;exact e.symm))
 have g2:Gr W w' (fun q=>q=d∨q=bm):=g.mono (fun q _ e=>.inr e)
 refine⟨g.heap h2.box h.ne,fun V gv=>h2.dat V ((g.mono (fun q _ e=>.inr (.inl e))).trans gv),fun V gv=>?_,h.sk,h.sn,h.sb,h.sp,hm,h.ne,fun q e=>Nat.lt_of_lt_of_le (h2.zb q e) g.size⟩
 have D:=h2.coi V (g2.trans gv)
 intro x
 unfold Qn
 by_cases e:x=s
 ·simp only[if_pos e]
  exact⟨a,n,c,rfl,Cb (g2.trans gv) (fun q hq=>h2.np q hq) hC,sC⟩
 ·simp only[if_neg e]
  exact D x
theorem DeskAt.widen(h:DeskAt Z w d bm m ka kn kc K na nn nc N ba bn bc T pa pn pc P tip f β)(hb:Below w.heap.size w w')(r:Nat)(hr:w.heap.size≤r)(hr':r<w'.heap.size):DeskAt (fun q=>Z q∨q=r) w' d bm m ka kn kc K na nn nc N ba bn bc T pa pn pc P tip f β:=by
 have h2:=h.later hb
 refine⟨h2.box,fun W g=>h.dat W ((Gr.of hb).far g (fun q e=>?_)),h2.coi,h2.sk,h2.sn,h2.sb,h2.sp,h2.mp,h2.ne,fun q e=>?_⟩
 ·rcases e with e|e|e|e
  ·exact .inr (.inl e)
  ·exact .inr (.inr (.inl e))
  ·exact .inr (.inr (.inr e))
  ·exact .inl (e ▸ hr)
 ·rcases e with e|e
  ·exact h2.zb q e
  ·exact e ▸ hr'
end
theorem Rz{P:Program}{ops:Array Oper}{o:Oper}{a:Act}{w:World}{K:Act→World→Prop}{Q:Exit→Act→World→Prop}{E:Prop}
  (hw:Region.wanted o (yielded ops a.tmps)=true) (f:FuncId) (vs:Array Value) (he:(execOp a.eval o).run P w = .ok (.enter f vs) w) {R:Ending→World→Prop} (hc:Calls P f vs w R) (h:∀ e w',R e w'→∃ v,e = .returned v∧K (a.put o.dst v) w') :
  if Region.wanted o (yielded ops a.tmps)=true then Oper.wp P o a w K Q else E:=by
 rw[if_pos hw]
 unfold Oper.wp
 rw[he,Oper.upon_enter]
 refine hc.mono ?_
 intro e w' hr
 obtain⟨v,rfl,hk⟩:=h e w' hr
 exact hk
end Go.Proofs.YtmomfkikogbdeaaGreatDoor
