import Derived.Test.YtmomfkikogbdeaaGreatDoorH
import Derived.Test.YtmomfkikogbdeaaGreatDoorG28
open Go.Ending renaming returned->dF
open Go.IntKind renaming i64->J
open Go.Obj renaming cells->dE
open Go.Proofs.Tryz renaming prog->aB
open Go.Value renaming int->E,slice->F,bool->dI
open Go.World renaming cell?->bH
open Nat renaming lt_of_lt_of_le->aD
namespace Go.Proofs.YtmomfkikogbdeaaGreatDoor
open Go.RowKit
def Mh(w:World)(q:Nat):Prop:=(∀ (j:Nat) (i i':Int),w.cell? ⟨q,j,none⟩=some (E J i)->w.cell? ⟨q,j+1,none⟩=some (E J i')->False)/\∀ (j:Nat) (s:ByteArray),w.cell? ⟨q,j,none⟩≠some (.string s)
theorem Zbe{w:World}{q:Nat}{es:Array MapEntry}{c:Nat}(h:w.heap[q]? = some (.map es c)):Mh w q:=by
 refine⟨λj i i' h1 _=>?_,λj s h1=>?_⟩ <;> simp[bH,h] at h1
theorem Cb{w:World}{q:Nat}{a b c d n1 c1 n2 c2 n3 c3 n4 c4}{t:Int}{m:Option Nat}{ty:TypeId}(h:w.heap[q]? = some (dE [F a n1 c1,F b n2 c2,F c n3 c3,F d n4 c4,E J t,.map m].toArray ty (0,0))):Mh w q:=by
 refine⟨λj i i' h1 h2=>?_,λj s h1=>?_⟩
 ·match j with
  | 0=>simp[bH,h] at h1
  | 1=>simp[bH,h] at h1
  | 2=>simp[bH,h] at h1
  | 3=>simp[bH,h] at h1
  | 4=>simp[bH,h] at h2
  | 5=>simp[bH,h] at h1
  | j+6=>simp[bH,h] at h1
 ·match j with
  | 0=>simp[bH,h] at h1
  | 1=>simp[bH,h] at h1
  | 2=>simp[bH,h] at h1
  | 3=>simp[bH,h] at h1
  | 4=>simp[bH,h] at h1
  | 5=>simp[bH,h] at h1
  | j+6=>simp[bH,h] at h1
theorem Zqk{w w'}{S:Nat->Prop}(g:Gr w w' S)(hS:∀ q,S q->Mh w q){a n l}(h:OpsAt w a n l):OpsAt w' a n l:=by
 refine⟨h.1,λh0=>?_⟩;obtain⟨b,off,rfl,hc⟩:=h.2 h0;refine⟨b,off,rfl,λi hi=>?_⟩;obtain⟨c0,c1⟩:=hc i hi;have hn:¬S b:=λq=>(hS b q).1 _ _ _ c0 c1;exact⟨g.cell c0 hn,g.cell c1 hn⟩
theorem Zli{w w'}{S:Nat->Prop}(g:Gr w w' S)(hS:∀ q,S q->Mh w q){a n C}(h:CoinsAt w a n C):CoinsAt w' a n C:=by
 refine⟨h.1,λh0=>?_⟩;obtain⟨b,off,rfl,hl,hc⟩:=h.2 h0;refine⟨b,off,rfl,aD hl g.size,λi hi=>?_⟩;obtain⟨c0,c1,c2,⟨la,ln,lc,c3,h5,h6⟩,c4,c5⟩:=hc i hi;have hn:¬S b:=λq=>(hS b q).1 _ _ _ c0 c1;exact⟨g.cell c0 hn,g.cell c1 hn,g.cell c2 hn,⟨la,ln,lc,g.cell c3 hn,Zqk g hS h5,h6⟩,g.cell c4 hn,g.cell c5 hn⟩
def Uz(β : Int->List Zj)(s:Int)(C:List Zj):Int->List Zj:=λx=>if x=s then C else β x
structure Uo(w:World)(ka:Option Addr)(kn:Nat)(K:List ByteArray)(na:Option Addr)(nn:Nat)(N:List Int)(ba:Option Addr)(bn:Nat)(T:List Zk)(pa:Option Addr)(pn:Nat)(P:List TxD):Prop where
 k:Bk.TextsAt w ka kn K
 n:Tr.IntsAt w na nn N
 b:Tr.BlksAt w ba bn T
 p:TxsAt w pa pn P
def Zmd(w:World)(f:Int->Value)(β : Int->List Zj):Prop:=∀ x,∃ a m c,f x = F a m c/\CoinsAt w a m (β x)/\SlOk a m c
structure DeskAt(Z:Nat->Prop)(w:World)(d bm m:Nat)(ka:Option Addr)(kn kc:Nat)(K:List ByteArray)(na:Option Addr)(nn nc:Nat)(N:List Int)(ba:Option Addr)(bn bc:Nat)(T:List Zk)(pa:Option Addr)(pn pc:Nat)(P:List TxD)(tip:Int)(f:Int->Value)(β : Int->List Zj):Prop where
 box:w.heap[d]? = some (dE [F ka kn kc,F na nn nc,F ba bn bc,F pa pn pc,E J tip,.map (some bm)].toArray 254 (0,0))
 dat:∀ W,Gr w W (λq=>q=d\/q=bm\/Z q)->Uo W ka kn K na nn N ba bn T pa pn P
 coi:∀ W,Gr w W (λq=>q=d\/q=bm)->Zmd W f β
 sk:SlOk ka kn kc
 sn:SlOk na nn nc
 sb:SlOk ba bn bc
 sp:SlOk pa pn pc
 mp:BMap bm m f w
 ne:d≠bm
 zb:∀ q,Z q->q<w.heap.size
section
variable {Z : Nat -> Prop} {w w' : World} {d bm m : Nat} {ka na ba pa : Option Addr} {kn kc nn nc bn bc pn pc : Nat} {K : List ByteArray} {N : List Int} {T : List Zk} {P : List TxD} {tip : Int} {f : Int -> Value} {β : Int -> List Zj}
theorem DeskAt.now(h:DeskAt Z w d bm m ka kn kc K na nn nc N ba bn bc T pa pn pc P tip f β):Uo w ka kn K na nn N ba bn T pa pn P:=h.dat w (Gr.refl _ _)
theorem DeskAt.c(h:DeskAt Z w d bm m ka kn kc K na nn nc N ba bn bc T pa pn pc P tip f β):Zmd w f β:=h.coi w (Gr.refl _ _)
theorem DeskAt.later(h:DeskAt Z w d bm m ka kn kc K na nn nc N ba bn bc T pa pn pc P tip f β)(hb:ZD w w'):DeskAt Z w' d bm m ka kn kc K na nn nc N ba bn bc T pa pn pc P tip f β:=
 ⟨(hb.block d (lt_of_block h.box)).trans h.box,λW g=>h.dat W ((Gr.of hb).trans g),λW g=>h.coi W ((Gr.of hb).trans g),h.sk,h.sn,h.sb,h.sp,h.mp.keep hb,h.ne,λq e=>aD (h.zb q e) hb.size⟩
theorem DeskAt.np(h:DeskAt Z w d bm m ka kn kc K na nn nc N ba bn bc T pa pn pc P tip f β)(q:Nat)(hq:q=d\/q=bm):Mh w q:=by
 rcases hq with rfl|rfl
 ·exact Cb h.box
 ·obtain⟨es,c,hm⟩:=h.mp.isMap;exact Zbe hm
theorem DeskAt.book(h:DeskAt Z w d bm m ka kn kc K na nn nc N ba bn bc T pa pn pc P tip f β):KAt w d K:=⟨ka,kn,kc,Zb h.box 0 _ rfl,h.now.k,h.sk,lt_of_block h.box⟩
theorem DeskAt.put(h:DeskAt Z w d bm m ka kn kc K na nn nc N ba bn bc T pa pn pc P tip f β){W:World}(hb:ZD w W){s:Int}{a n c C}(hC:CoinsAt W a n C)(sC:SlOk a n c)
  (hm:BMap bm (m+1) (λy=>if y=s then F a n c else f y) w') (hg:W.grownBy w' (some bm)):DeskAt Z w' d bm (m+1) ka kn kc K na nn nc N ba bn bc T pa pn pc P tip (λy=>if y=s then F a n c else f y) (Uz β s C):=by
 have h2:=h.later hb;have g:Gr W w' (λq=>q=bm):=(Gr.refl W (λq=>q=bm)).grown hg (λq e=>.inl (by injection e with e;exact e.symm));have g2:Gr W w' (λq=>q=d\/q=bm):=g.mono (λq _ e=>.inr e);refine⟨g.heap h2.box h.ne,λV gv=>h2.dat V ((g.mono (λq _ e=>.inr (.inl e))).trans gv),λV gv=>?_,h.sk,h.sn,h.sb,h.sp,hm,h.ne,λq e=>aD (h2.zb q e) g.size⟩;have D:=h2.coi V (g2.trans gv);intro x;unfold Uz;by_cases e:x=s
 ·simp only[if_pos e];exact⟨a,n,c,rfl,Zli (g2.trans gv) (λq hq=>h2.np q hq) hC,sC⟩
 ·simp only[if_neg e];exact D x
theorem DeskAt.widen(h:DeskAt Z w d bm m ka kn kc K na nn nc N ba bn bc T pa pn pc P tip f β)(hb:ZD w w')(r:Nat)(hr:w.heap.size<=r)(ac:r<w'.heap.size):DeskAt (λq=>Z q\/q=r) w' d bm m ka kn kc K na nn nc N ba bn bc T pa pn pc P tip f β:=by
 have h2:=h.later hb;refine⟨h2.box,λW g=>h.dat W ((Gr.of hb).far g (λq e=>?_)),h2.coi,h2.sk,h2.sn,h2.sb,h2.sp,h2.mp,h2.ne,λq e=>?_⟩
 ·rcases e with e|e|e|e
  ·exact .inr (.inl e)
  ·exact .inr (.inr (.inl e))
  ·exact .inr (.inr (.inr e))
  ·exact .inl (e ▸ hr)
 ·rcases e with e|e
  ·exact h2.zb q e
  ·exact e ▸ ac
end
theorem Tryz.underHead:Tryz.prog.underlying 187=some (.array 4 3):=by kernel_rfl
theorem Zgp(p h k n pp hh kk nn:Int)(W):(binOp .eql 187 (.agg #[E J p,E J h,E J k,E J n]) (.agg #[E J pp,E J hh,E J kk,E J nn])).run aB W = .ok (dI ((p == pp) && ((h == hh) && ((k == kk) && (n == nn))))) W:=by
 obtain⟨i0,hi,_,_,_⟩:=info_parts Tryz.infoInt;have hk:Tryz.prog.plainKey 3=true:=by kernel_rfl
 have hc:Tryz.prog.cellsOf 3=1:=by kernel_rfl
 have p0:∀ (x y z u:Int),(part 3 #[E J x,E J y,E J z,E J u] 0).run aB W = .ok (E J x) W:=λx y z u=>run_part_plain W hk rfl;have p1:∀ (x y z u:Int),(part 3 #[E J x,E J y,E J z,E J u] 1).run aB W = .ok (E J y) W:=λx y z u=>run_part_plain W hk rfl;have p2:∀ (x y z u:Int),(part 3 #[E J x,E J y,E J z,E J u] 2).run aB W = .ok (E J z) W:=λx y z u=>run_part_plain W hk rfl;have p3:∀ (x y z u:Int),(part 3 #[E J x,E J y,E J z,E J u] 3).run aB W = .ok (E J u) W:=λx y z u=>run_part_plain W hk rfl;have q:∀ (a b:Int),(Op.equalIn 9999 3 (E J a) (E J b)).run aB W = .ok (a == b) W:=λa b=>run_equalIn_int W 9998 3 .i64 .i64 a b Tryz.underlying3
 have e:(Op.equalIn 10000 187 (.agg #[E J p,E J h,E J k,E J n]) (.agg #[E J pp,E J hh,E J kk,E J nn])).run aB W = .ok ((p == pp) && ((h == hh) && ((k == kk) && (n == nn)))) W:=by
  rw[show (10000:Nat)=9999+1 from rfl,run_equalIn_array W 9999 _ _ Tryz.underHead hi,hc,show List.range 4=[0,1,2,3] from rfl];simp only[Op.eqItems,Sem.run_bind,Nat.mul_one,p0,Result.andThen_ok,q];by_cases e1:p=pp <;> by_cases e2:h=hh <;> by_cases e3:k=kk <;> by_cases e4:n=nn <;> simp[p1,p2,p3,q,e1,e2,e3,e4]
 rw[run_eql_struct,e];rfl
theorem Hw{P:Program}{aa}{o:Oper}{a:Act}{w}{K:Act->World->Prop}{Q:Exit->Act->World->Prop}{ac:Prop}
  (hw:Region.wanted o (yielded aa a.tmps)=true) (f:FuncId) (vs) (he:(execOp a.eval o).run P w = .ok (.enter f vs) w) {R:Ending->World->Prop} (hc:Calls P f vs w R) (h:∀ e w',R e w'->∃ v,e = dF v/\K (a.put o.dst v) w') :
  if Region.wanted o (yielded aa a.tmps)=true then Oper.wp P o a w K Q else ac:=by
 rw[if_pos hw];unfold Oper.wp;rw[he,Oper.upon_enter];refine hc.mono ?_;intro e w' hr;obtain⟨v,rfl,hk⟩:=h e w' hr;exact hk
