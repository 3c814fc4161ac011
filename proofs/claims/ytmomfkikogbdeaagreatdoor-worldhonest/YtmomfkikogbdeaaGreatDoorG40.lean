import Derived.Test.YtmomfkikogbdeaaGreatDoorH
import Derived.Test.YtmomfkikogbdeaaGreatDoorG39
open Go.Proofs.Tryz
open Go renaming lt_of_block->aA,bodyPost_ret->aW
open Go.Ending renaming returned->dA
open Go.Exit renaming inBlock->aR
open Go.IntKind renaming i64->J
open Go.Obj renaming cells->cZ
open Go.Proofs.Tryz renaming prog->aB
open Go.Value renaming int->E,slice->F,tuple->dB,pointer->dC
open Go.World renaming frozen?_of_block->aO
open List renaming getElem_mem->aQ,mem_cons->aU
open Nat renaming le_of_eq->bL,le_refl->aF,zero_le->aL,lt_of_lt_of_le->aD,le_trans->aT
set_option maxHeartbeats 12800000
set_option maxRecDepth 10000
namespace Go.Proofs.YtmomfkikogbdeaaGreatDoor
open Go.RowKit
def Wm(Z:Nat->Prop)(s:Nat)(y:Int)(W:WD)(V V':World)(e:Ending):Prop:=e = dA (E J y)/\(y=0->Sc Z s W V')/\Gr V V' (λq=>¬Z q)
def Gi(V:World)(s p q n:Nat)(z caps:Array Value):Prop:=V.heap[p]? = some (cZ [dC (some ⟨s,0,none⟩)].toArray 204 (0,0))/\V.heap[q]? = some (cZ [.func (.func n) z caps].toArray 292 (0,0))
theorem Qe(Z:Nat->Prop)(s:Nat)(Q:Int)(xn xt xi xw xN th:Int)(ai ao ni ci no co)(y:Int)(W:WD)(w:World)(hk:(decide (1<=Q) && decide (Q<=8))=true)
  (hD:∀ V,ZD w V->Calls aB 193 #[dC (some ⟨s,0,none⟩)] V λe V'=>∃ r f caps vs,e = dA r/\ZD V V'/\(∀ U,(Instr.index 293 r (E J Q)).run aB U = .ok (.func (.func f) #[] caps) U)/\(∀ args U,(callFunc f args).run aB U = .ok (.enter f args) U)/\#[.agg #[E J Q,E J xn,E J xt,E J xi,E J xw,E J xN,E J th,F ai ni ci,F ao no co]]++caps=vs/\Calls aB f vs V' λe U=>Wm Z s y W V' U e) :
  Calls aB 129 #[dC (some ⟨s,0,none⟩),.agg #[E J Q,E J xn,E J xt,E J xi,E J xw,E J xN,E J th,F ai ni ci,F ao no co]] w λe w'=>Wm Z s y W w w' e:=by
 obtain⟨X,hX,an,aa⟩:=ka00 w [E J Q,E J xn,E J xt,E J xi,E J xw,E J xN,E J th,F ai ni ci,F ao no co] 103;obtain⟨C1,af,ag,HD⟩:=kh4 (Yj Q 1 8 true X hk) an aa hD;obtain⟨m0,m1,m2,m3,m4,m5,m6,m7,m8,ml⟩:=kc9 aa;clear an aa hD;go_enter func129,ntmps129
 go_upto_region 1 with fail
 rw[<-hX];clear hX;go_wp2_with fail;refine C1.mono ?_;rintro e w1 ⟨rfl,ab⟩;have ae:=onb af ab;have ah:=mvd ab ag;have aa:=Za ah;clear ab C1 af ag m0 m1 m2 m3 m4 m5 m6 m7 m8 ml;obtain⟨m0,m1,m2,m3,m4,m5,m6,m7,m8,ml⟩:=kc9 aa;clear aa;go_wp2_with fail;have C2:=Zd (HD w1.drew (Zf ae (Zi _)))
 go_region_law (first
  | (refine Yo (by rfl) 193 #[dC (some ⟨s,0,none⟩)] (by kernel_rfl) C2 ?_;rintro e v4 ⟨r,f,caps,vs,rfl,ac,be,eg,rfl,hc⟩;refine⟨_,rfl,?_⟩;have ax:=Zd (Zf (Zf ae (Zi _)) ac);have z:=ZE (Zf (Zi w1) ac) ah;have HC:=Zd hc;have EG:=Zd eg;have n0:=Zb z 0 _ rfl;have n1:=Zb z 1 _ rfl;have n2:=Zb z 2 _ rfl;have n3:=Zb z 3 _ rfl;have n4:=Zb z 4 _ rfl;have n5:=Zb z 5 _ rfl;have n6:=Zb z 6 _ rfl;have n7:=Zb z 7 _ rfl;have n8:=Zb z 8 _ rfl;have nl:=aA z;clear ac z eg hc)
  | (refine Yo (by rfl) f _ (Qn (.tmp 13) #[.tmp 14] #[103] rfl (by kernel_rfl) (by kernel_rfl) EG) HC ?_;rintro e w5 ⟨rfl,al,aq⟩;refine⟨_,rfl,?_⟩;have bd:=Zd al;have bb:Hid (Gr w w5 (λq=>¬Z q)):=(Gr.of ax).trans aq;clear al aq))
 all_goals
  clear be;go_wp2;go_ret;exact⟨rfl,Za bd,Za bb⟩
theorem Lz(Z:Nat->Prop)(s:Nat)(xn xt xi xw xN th:Int)(ai ao ni ci no co)(y:Int)(W:WD)(w:World)(hH:∀ V p q,ZD w V->Gi V s p q 235 #[dC (some ⟨s,0,none⟩)] #[]->Calls aB 265 #[.agg #[E J 1,E J xn,E J xt,E J xi,E J xw,E J xN,E J th,F ai ni ci,F ao no co],dC (some ⟨p,0,none⟩),dC (some ⟨q,0,none⟩)] V λe V'=>Wm Z s y W V V' e) :
  Calls aB 129 #[dC (some ⟨s,0,none⟩),.agg #[E J 1,E J xn,E J xt,E J xi,E J xw,E J xN,E J th,F ai ni ci,F ao no co]] w λe w'=>Wm Z s y W w w' e:=
 Qe Z s 1 xn xt xi xw xN th ai ao ni ci no co y W w (by decide) (λV hV=>(V9 s V).mono λe V' h=>by
  obtain⟨Q,q0,p1,q1,p2,q2,p3,q3,p4,q4,p5,q5,p6,q6,p7,q7,p8,q8,p9,q9,av,bj,aw,bk,ax,bo,rfl,z,h0,k0,h1,k1,h2,k2,h3,k3,h4,k4,h5,k5,h6,k6,h7,k7,h8,k8,h9,k9,h10,af,h11,ag,h12,ah⟩:=h;exact⟨_,265,#[dC (some ⟨Q,0,none⟩),dC (some ⟨q0,0,none⟩)],_,rfl,z,λU=>by kernel_rfl,enters_of (fn:=Tryz.f265) (by kernel_rfl) (by kernel_rfl) rfl,by kernel_rfl,hH V' Q q0 (Zf hV z) ⟨h0,k0⟩⟩)
theorem Ly(Z:Nat->Prop)(s:Nat)(xn xt xi xw xN th:Int)(ai ao ni ci no co)(y:Int)(W:WD)(w:World)(hH:∀ V p q,ZD w V->Gi V s p q 236 #[dC (some ⟨s,0,none⟩)] #[]->Calls aB 265 #[.agg #[E J 2,E J xn,E J xt,E J xi,E J xw,E J xN,E J th,F ai ni ci,F ao no co],dC (some ⟨p,0,none⟩),dC (some ⟨q,0,none⟩)] V λe V'=>Wm Z s y W V V' e) :
  Calls aB 129 #[dC (some ⟨s,0,none⟩),.agg #[E J 2,E J xn,E J xt,E J xi,E J xw,E J xN,E J th,F ai ni ci,F ao no co]] w λe w'=>Wm Z s y W w w' e:=
 Qe Z s 2 xn xt xi xw xN th ai ao ni ci no co y W w (by decide) (λV hV=>(V9 s V).mono λe V' h=>by
  obtain⟨p0,q0,Q,q1,p2,q2,p3,q3,p4,q4,p5,q5,p6,q6,p7,q7,p8,q8,p9,q9,av,bj,aw,bk,ax,bo,rfl,z,h0,k0,h1,k1,h2,k2,h3,k3,h4,k4,h5,k5,h6,k6,h7,k7,h8,k8,h9,k9,h10,af,h11,ag,h12,ah⟩:=h;exact⟨_,265,#[dC (some ⟨Q,0,none⟩),dC (some ⟨q1,0,none⟩)],_,rfl,z,λU=>by kernel_rfl,enters_of (fn:=Tryz.f265) (by kernel_rfl) (by kernel_rfl) rfl,by kernel_rfl,hH V' Q q1 (Zf hV z) ⟨h1,k1⟩⟩)
theorem U1(Z:Nat->Prop)(s:Nat)(xn xt xi xw xN th:Int)(ai ao ni ci no co)(y:Int)(W:WD)(w:World)(hH:∀ V p q,ZD w V->Gi V s p q 238 #[dC (some ⟨s,0,none⟩)] #[]->Calls aB 270 #[.agg #[E J 3,E J xn,E J xt,E J xi,E J xw,E J xN,E J th,F ai ni ci,F ao no co],dC (some ⟨p,0,none⟩),dC (some ⟨q,0,none⟩)] V λe V'=>Wm Z s y W V V' e) :
  Calls aB 129 #[dC (some ⟨s,0,none⟩),.agg #[E J 3,E J xn,E J xt,E J xi,E J xw,E J xN,E J th,F ai ni ci,F ao no co]] w λe w'=>Wm Z s y W w w' e:=
 Qe Z s 3 xn xt xi xw xN th ai ao ni ci no co y W w (by decide) (λV hV=>(V9 s V).mono λe V' h=>by
  obtain⟨p0,q0,p1,q1,Q,q2,p3,q3,p4,q4,p5,q5,p6,q6,p7,q7,p8,q8,p9,q9,aw,bk,ax,bo,ay,bq,rfl,z,h0,k0,h1,k1,h2,k2,h3,k3,h4,k4,h5,k5,h6,k6,h7,k7,h8,k8,h9,k9,h10,ag,h11,ah,h12,aj⟩:=h;exact⟨_,270,#[dC (some ⟨Q,0,none⟩),dC (some ⟨q2,0,none⟩)],_,rfl,z,λU=>by kernel_rfl,enters_of (fn:=Tryz.f270) (by kernel_rfl) (by kernel_rfl) rfl,by kernel_rfl,hH V' Q q2 (Zf hV z) ⟨h2,k2⟩⟩)
theorem Lx(Z:Nat->Prop)(s:Nat)(xn xt xi xw xN th:Int)(ai ao ni ci no co)(y:Int)(W:WD)(w:World)(hH:∀ V p q,ZD w V->Gi V s p q 239 #[dC (some ⟨s,0,none⟩)] #[]->Calls aB 270 #[.agg #[E J 4,E J xn,E J xt,E J xi,E J xw,E J xN,E J th,F ai ni ci,F ao no co],dC (some ⟨p,0,none⟩),dC (some ⟨q,0,none⟩)] V λe V'=>Wm Z s y W V V' e) :
  Calls aB 129 #[dC (some ⟨s,0,none⟩),.agg #[E J 4,E J xn,E J xt,E J xi,E J xw,E J xN,E J th,F ai ni ci,F ao no co]] w λe w'=>Wm Z s y W w w' e:=
 Qe Z s 4 xn xt xi xw xN th ai ao ni ci no co y W w (by decide) (λV hV=>(V9 s V).mono λe V' h=>by
  obtain⟨p0,q0,p1,q1,p2,q2,Q,q3,p4,q4,p5,q5,p6,q6,p7,q7,p8,q8,p9,q9,aw,bk,ax,bo,ay,bq,rfl,z,h0,k0,h1,k1,h2,k2,h3,k3,h4,k4,h5,k5,h6,k6,h7,k7,h8,k8,h9,k9,h10,ag,h11,ah,h12,aj⟩:=h;exact⟨_,270,#[dC (some ⟨Q,0,none⟩),dC (some ⟨q3,0,none⟩)],_,rfl,z,λU=>by kernel_rfl,enters_of (fn:=Tryz.f270) (by kernel_rfl) (by kernel_rfl) rfl,by kernel_rfl,hH V' Q q3 (Zf hV z) ⟨h3,k3⟩⟩)
theorem Lw(Z:Nat->Prop)(s:Nat)(xn xt xi xw xN th:Int)(ai ao ni ci no co)(y:Int)(W:WD)(w:World)(hH:∀ V p q Q q',ZD w V->Gi V s p q 241 #[dC (some ⟨s,0,none⟩)] #[]->Gi V s Q q' 274 #[] #[dC (some ⟨p,0,none⟩),dC (some ⟨q,0,none⟩)]->Calls aB 270 #[.agg #[E J 5,E J xn,E J xt,E J xi,E J xw,E J xN,E J th,F ai ni ci,F ao no co],dC (some ⟨Q,0,none⟩),dC (some ⟨q',0,none⟩)] V λe V'=>Wm Z s y W V V' e) :
  Calls aB 129 #[dC (some ⟨s,0,none⟩),.agg #[E J 5,E J xn,E J xt,E J xi,E J xw,E J xN,E J th,F ai ni ci,F ao no co]] w λe w'=>Wm Z s y W w w' e:=
 Qe Z s 5 xn xt xi xw xN th ai ao ni ci no co y W w (by decide) (λV hV=>(V9 s V).mono λe V' h=>by
  obtain⟨p0,q0,p1,q1,p2,q2,p3,q3,p4,q4,p5,q5,p6,q6,p7,q7,p8,q8,p9,q9,bb,br,bd,bs,be,bt,rfl,z,h0,k0,h1,k1,h2,k2,h3,k3,h4,k4,h5,k5,h6,k6,h7,k7,h8,k8,h9,k9,h10,am,h11,an,h12,ap⟩:=h;exact⟨_,270,#[dC (some ⟨p5,0,none⟩),dC (some ⟨q5,0,none⟩)],_,rfl,z,λU=>by kernel_rfl,enters_of (fn:=Tryz.f270) (by kernel_rfl) (by kernel_rfl) rfl,by kernel_rfl,hH V' p4 q4 p5 q5 (Zf hV z) ⟨h4,k4⟩ ⟨h5,k5⟩⟩)
theorem Lv(Z:Nat->Prop)(s:Nat)(xn xt xi xw xN th:Int)(ai ao ni ci no co)(y:Int)(W:WD)(w:World)(hH:∀ V p q Q q' aa ad,ZD w V->Gi V s p q 243 #[dC (some ⟨s,0,none⟩)] #[]->Gi V s Q q' 274 #[] #[dC (some ⟨p,0,none⟩),dC (some ⟨q,0,none⟩)]->Gi V s aa ad 276 #[] #[dC (some ⟨Q,0,none⟩),dC (some ⟨q',0,none⟩)]->Calls aB 265 #[.agg #[E J 6,E J xn,E J xt,E J xi,E J xw,E J xN,E J th,F ai ni ci,F ao no co],dC (some ⟨aa,0,none⟩),dC (some ⟨ad,0,none⟩)] V λe V'=>Wm Z s y W V V' e) :
  Calls aB 129 #[dC (some ⟨s,0,none⟩),.agg #[E J 6,E J xn,E J xt,E J xi,E J xw,E J xN,E J th,F ai ni ci,F ao no co]] w λe w'=>Wm Z s y W w w' e:=
 Qe Z s 6 xn xt xi xw xN th ai ao ni ci no co y W w (by decide) (λV hV=>(V9 s V).mono λe V' h=>by
  obtain⟨p0,q0,p1,q1,p2,q2,p3,q3,p4,q4,p5,q5,p6,q6,p7,q7,p8,q8,p9,q9,bg,bu,bh,bv,bi,bx,rfl,z,h0,k0,h1,k1,h2,k2,h3,k3,h4,k4,h5,k5,h6,k6,h7,k7,h8,k8,h9,k9,h10,au,h11,av,h12,aw⟩:=h;exact⟨_,265,#[dC (some ⟨p8,0,none⟩),dC (some ⟨q8,0,none⟩)],_,rfl,z,λU=>by kernel_rfl,enters_of (fn:=Tryz.f265) (by kernel_rfl) (by kernel_rfl) rfl,by kernel_rfl,hH V' p6 q6 p7 q7 p8 q8 (Zf hV z) ⟨h6,k6⟩ ⟨h7,k7⟩ ⟨h8,k8⟩⟩)
theorem Lu(Z:Nat->Prop)(s:Nat)(xn xt xi xw xN th:Int)(ai ao ni ci no co)(y:Int)(W:WD)(w:World)(hH:∀ V p q,ZD w V->Gi V s p q 244 #[dC (some ⟨s,0,none⟩)] #[]->Calls aB 265 #[.agg #[E J 7,E J xn,E J xt,E J xi,E J xw,E J xN,E J th,F ai ni ci,F ao no co],dC (some ⟨p,0,none⟩),dC (some ⟨q,0,none⟩)] V λe V'=>Wm Z s y W V V' e) :
  Calls aB 129 #[dC (some ⟨s,0,none⟩),.agg #[E J 7,E J xn,E J xt,E J xi,E J xw,E J xN,E J th,F ai ni ci,F ao no co]] w λe w'=>Wm Z s y W w w' e:=
 Qe Z s 7 xn xt xi xw xN th ai ao ni ci no co y W w (by decide) (λV hV=>(V9 s V).mono λe V' h=>by
  obtain⟨p0,q0,p1,q1,p2,q2,p3,q3,p4,q4,p5,q5,p6,q6,p7,q7,p8,q8,Q,q9,aw,bk,ax,bo,ay,bq,rfl,z,h0,k0,h1,k1,h2,k2,h3,k3,h4,k4,h5,k5,h6,k6,h7,k7,h8,k8,h9,k9,h10,ag,h11,ah,h12,aj⟩:=h;exact⟨_,265,#[dC (some ⟨Q,0,none⟩),dC (some ⟨q9,0,none⟩)],_,rfl,z,λU=>by kernel_rfl,enters_of (fn:=Tryz.f265) (by kernel_rfl) (by kernel_rfl) rfl,by kernel_rfl,hH V' Q q9 (Zf hV z) ⟨h9,k9⟩⟩)
theorem Lt(Z:Nat->Prop)(s:Nat)(xn xt xi xw xN th:Int)(ai ao ni ci no co)(y:Int)(W:WD)(w:World)(hH:∀ V p q Q q' aa ad,ZD w V->Gi V s p q 245 #[dC (some ⟨s,0,none⟩)] #[]->Gi V s Q q' 274 #[] #[dC (some ⟨p,0,none⟩),dC (some ⟨q,0,none⟩)]->Gi V s aa ad 276 #[] #[dC (some ⟨Q,0,none⟩),dC (some ⟨q',0,none⟩)]->Calls aB 265 #[.agg #[E J 8,E J xn,E J xt,E J xi,E J xw,E J xN,E J th,F ai ni ci,F ao no co],dC (some ⟨aa,0,none⟩),dC (some ⟨ad,0,none⟩)] V λe V'=>Wm Z s y W V V' e) :
  Calls aB 129 #[dC (some ⟨s,0,none⟩),.agg #[E J 8,E J xn,E J xt,E J xi,E J xw,E J xN,E J th,F ai ni ci,F ao no co]] w λe w'=>Wm Z s y W w w' e:=
 Qe Z s 8 xn xt xi xw xN th ai ao ni ci no co y W w (by decide) (λV hV=>(V9 s V).mono λe V' h=>by
  obtain⟨p0,q0,p1,q1,p2,q2,p3,q3,p4,q4,p5,q5,p6,q6,p7,q7,p8,q8,p9,q9,al,an,am,ap,ab,ae,rfl,z,h0,k0,h1,k1,h2,k2,h3,k3,h4,k4,h5,k5,h6,k6,h7,k7,h8,k8,h9,k9,h10,ah,h11,aj,h12,ak⟩:=h;exact⟨_,265,#[dC (some ⟨ab,0,none⟩),dC (some ⟨ae,0,none⟩)],_,rfl,z,λU=>by kernel_rfl,enters_of (fn:=Tryz.f265) (by kernel_rfl) (by kernel_rfl) rfl,by kernel_rfl,hH V' al an am ap ab ae (Zf hV z) ⟨h10,ah⟩ ⟨h11,aj⟩ ⟨h12,ak⟩⟩)
def CutW(w:World)(W:WD)(wx:World):Prop:=∃ vk vn vm Kn Km,Tr.AllC Tr.nodR w Kn W.n/\Tr.AllC Tr.msgR w Km W.m/\wx.ownsRow (w.heap.size+2) 9 1 vk W.k.length (W.k.map Value.string)/\wx.ownsRow (w.heap.size+2) 67 4 vn W.n.length Kn.flatten/\wx.ownsRow (w.heap.size+2) 106 12 vm W.m.length Km.flatten /\
 wx.heap[w.heap.size]? = some (cZ [vk,vn,vm].toArray 90 (0,0))/\wx.heap[w.heap.size+1]? = some (cZ [F none 0 0,F none 0 0,F none 0 0].toArray 90 (0,0))/\ZD w wx
theorem Zpc{w U wx:World}{W:WD}{vk vn vm}{Kn Km:List (List Value)}(h1:Tr.AllC Tr.nodR w Kn W.n)(h2:Tr.AllC Tr.msgR w Km W.m)(o1:U.ownsRow (w.heap.size+2) 9 1 vk W.k.length (W.k.map Value.string))(o2:U.ownsRow (w.heap.size+2) 67 4 vn W.n.length Kn.flatten)(o3:U.ownsRow (w.heap.size+2) 106 12 vm W.m.length Km.flatten)(hb:ZD w U)
  (hz:U.heap[w.heap.size+1]? = some (cZ [F none 0 0,F none 0 0,F none 0 0].toArray 90 (0,0))) (Q:Gr U wx (λq=>q=w.heap.size)) (hx:wx.heap[w.heap.size]? = some (cZ [vk,vn,vm].toArray 90 (0,0))):CutW w W wx:=
 ⟨vk,vn,vm,Kn,Km,h1,h2,Q.own o1 (λk z=>by have:=(o1.lt k z).1;omega),Q.own o2 (λk z=>by have:=(o2.lt k z).1;omega),Q.own o3 (λk z=>by have:=(o3.lt k z).1;omega),hx,Q.heap hz (by omega),Q.below hb (by have:=aA hz;omega) (λk z=>by omega)⟩
theorem Zcl(ka kn kc K na nn nc L ma mn mc M)(w:World)(hK:Bk.TextsAt w ka kn K)(hN:NodsAt w na nn L)(hM:MsgsAt w ma mn M)(sK:SlOk ka kn kc)(sN:SlOk na nn nc)(sM:SlOk ma mn mc)(h1:kn<=4096)(h2:nn<=4)(h3:mn<=20)(hs:∀ y∈L,Zqc y)(ht:∀ y∈M,Vf y) :
  Calls aB 188 #[.agg #[F ka kn kc,F na nn nc,F ma mn mc]] w λe w'=>∃ ka' kc' vn vm Kn Km,e = dA (.agg #[F ka' kn kc',vn,vm])/\WOn (λq=>q<w.heap.size+2) w' ka' kn kc' vn vm ⟨K,L,M⟩ Kn Km/\(∀ q,vn.ownBlock=some q->w.heap.size+2<=q)/\(∀ q,vm.ownBlock=some q->w.heap.size+2<=q)/\ZD w w':=by
 obtain⟨lK,-⟩:=id hK;obtain⟨lN,-⟩:=id hN;obtain⟨lM,-⟩:=id hM;subst lK lN lM;obtain⟨W,hW⟩:∃ W:WD,W=⟨K,L,M⟩:=⟨_,rfl⟩;rw[<-hW];obtain⟨rfl,rfl,rfl⟩:W.k=K/\W.n=L/\W.m=M:=by rw[hW];exact⟨rfl,rfl,rfl⟩
 clear hW;obtain⟨X,hX⟩:=ZG (Yw w [cZ #[F ka W.k.length kc,F na W.n.length nc,F ma W.m.length mc] 90,cZ #[F none 0 0,F none 0 0,F none 0 0] 90]);have eo:X=(w.alloc (cZ #[F ka W.k.length kc,F na W.n.length nc,F ma W.m.length mc] 90)).alloc (cZ #[F none 0 0,F none 0 0,F none 0 0] 90):=hX;have dd:ZD w X:=by rw[hX];exact Zs _ _
 have ep:X.heap.size=w.heap.size+2:=by rw[hX];exact Z3 _ _
 have dc:=kl0 hX _ _ rfl;have aw:=kl hX 1 _ _ rfl;obtain⟨ef,bz,ej,cx,fq,fp,C1⟩:=kh7 dd dc aw ep hs ht (Tr.cloneStr_any ka W.k.length kc W.k X.drew h1 (hK.later (Zf dd (Zi X))) sK);have C2:=Zd (λV (hb:ZD w V)=>Tr.cloneNode_any na W.n.length nc W.n w V (by omega) hN hb sN);have C3:=Zd (λV (hb:ZD w V)=>Tr.cloneMsg_any ma W.m.length mc W.m w V (by omega) hM hb sM);obtain⟨x0,x1,x2,xl⟩:=kc3 dc;clear dd dc aw hK hN hM sK sN sM hs ht ep hX;go_enter func188,ntmps188
 go_upto_region 1 with fail
 rw[<-eo];clear eo
 go_cut [] from 7 to 20 (λwx=>Hid (CutW w W wx))
 case first=>
  go_region_with (first
   | (go_at_call 224;refine C1.mono ?_;rintro e w3 ⟨v1,rfl,bk,cb⟩;have h30:=ZE cb bz;have d0:=Zb h30 0 _ rfl;have d1:=Zb h30 1 _ rfl;have d2:=Zb h30 2 _ rfl;have dl:=aA h30;have eg:Hid (w3.ownsRow (w.heap.size+2) 9 1 v1 W.k.length (W.k.map Value.string)):=Yx bk (bL cx.symm);have ec:=Zd (Zf (Zf ef (Zi _)) cb);have ed:=Zd (Zf (Zi X) cb);clear bk cb h30)
   | (go_at_call 225;refine (C2 _ ec).mono ?_;rintro e w4 ⟨v2,K2,rfl,hA2,bo,cc⟩;have ct:=Zd (Zf ed cc);have h40:=ZE ct bz;have e0:=Zb h40 0 _ rfl;have e1:=Zb h40 1 _ rfl;have e2:=Zb h40 2 _ rfl;have el:=aA h40;have fi:=Zd hA2;have eh:Hid (w4.ownsRow (w.heap.size+2) 67 4 v2 W.n.length K2.flatten):=Yx bo (by have:=ed.size;have:=Za cx;omega);have fl:=Zd ((Gr.of (S:=λ_=>False) cc).own eg (λ_ _ q=>q));have ee:=Zd (Zf ec cc);clear hA2 bo cc h40)
   | (go_at_call 226;refine (C3 _ ee).mono ?_;rintro e w5 ⟨v3,K3,rfl,hA3,eq,ad⟩;have de:=Zf ct ad;have h50:=ZE de bz;have h51:=ZE de ej;have f0:=Zb h50 0 _ rfl;have f1:=Zb h50 1 _ rfl;have f2:=Zb h50 2 _ rfl;have z0:=Zg h50 0;have z1:=Zg h50 1;have z2:=Zg h50 2;have jq:=aA h50;have fj:=Zd hA3;have ei:Hid (w5.ownsRow (w.heap.size+2) 106 12 v3 W.m.length K3.flatten):=Yx eq (by have:=ct.size;have:=Za cx;omega);have fm:=Zd ((Gr.of (S:=λ_=>False) ad).own fl (λ_ _ q=>q));have fo:=Zd ((Gr.of (S:=λ_=>False) ad).own eh (λ_ _ q=>q));have fk:=Zd (Zf ee ad);have fg:=Zd h50;have fh:=Zd h51;obtain⟨a3,c3,rfl,_,_⟩:=Z7 ei;obtain⟨a2,c2,rfl,_,_⟩:=Z7 eh;obtain⟨a1,c1,rfl,_,_⟩:=Z7 eg;clear hA3 eq ad de h50 h51))
  all_goals
   go_wp2_with fail;go_meet
   case rel=>
    exact Zpc (U:=w5) fi fj fm fo ei fk fh ((((Gr.refl w5 (λq=>q=w.heap.size)).one w.heap.size 0 (.inl rfl) _).one w.heap.size 1 (.inl rfl) _).one w.heap.size 2 (.inl rfl) _) (Tr.set_cells (Tr.set_cells (Tr.set_cells fg 0 _) 1 _) 2 _)
 case rest=>
  obtain⟨vk,vn,vm,K1,K2,hA1,hA2,cd,bk,bo,h0,h1,hb⟩:=Za hcut;obtain⟨a0,c0,rfl,_,_⟩:=Z7 cd;obtain⟨a1,c1,rfl,_,_⟩:=Z7 bk;obtain⟨a2,c2,rfl,_,_⟩:=Z7 bo;obtain⟨G,hG⟩:=ZF (wc.heap.size);have fz:w.heap.size+2<=G:=by rw[<-hG];exact aA h1
  have ST:Hid (ClW w (w.heap.size+2) G W (F a0 W.k.length c0) (F a1 W.n.length c1) (F a2 W.m.length c2) K1 K2 0 0 wc):=
   ⟨cd,Tr.Cl.start bk hA1 rfl (bL hG),Tr.Cl.start bo hA2 rfl (bL hG),h0,h1,hb,aF _,bL hG.symm,λq hq=>by have:=(cd.lt q hq).2;omega⟩
  obtain⟨-,fv,fx⟩:=kc2 h0;clear hcut hA1 hA2 cd bk bo h0 h1 hb C1 C2 C3 bz ej ef x0 x1 x2 xl hG;go_wp2
  go_loopw [24] (λi wr=>∃ (k:Nat) (K:List (List Value)),k<=W.n.length/\i = E J k/\Hid (ClW w (w.heap.size+2) G W (F a0 W.k.length c0) (F a1 W.n.length c1) (F a2 W.m.length c2) K K2 k 0 wr)) (λi _=>W.n.length - (intOf i).toNat)
  case atStart=>exact⟨0,K1,aL _,rfl,ST⟩
  case round=>
   obtain⟨k,K,hk,rfl,z⟩:=hrel;clear ST fv fx;by_cases ar:k<W.n.length
   ·obtain⟨g,cap,ev,ga,gb,aa⟩:=z.n.form (by omega);cases ev;have ab:k<K.length:=(by rw[(Za z).n.len];exact ar);obtain⟨pa,pn,pc,pb,pm,pd,pp,pq,pr,eK,hI,hT,hP,sI,sT,sP⟩:=z.n.old k ar ab (aF _);have af:=fq _ (aQ ar);obtain⟨x,hx⟩:=ZF (W.n[k]);rw[hx] at eK hI hT hP af;obtain⟨x0,x1,x2,x3⟩:=x;simp only at eK hI hT hP;have bd:=z.n.cell k ab 0 (by decide);have be:=z.n.cell k ab 1 (by decide);have bf:=z.n.cell k ab 2 (by decide);have bg:=z.n.cell k ab 3 (by decide);rw[eK] at bd be bf bg;have r0:wr.cell? ⟨g,k*4,none⟩=some (F pa pn pc):=bd;have r1:wr.cell? ⟨g,k*4+1,none⟩=some (F pb pm pd):=be;have r2:wr.cell? ⟨g,k*4+2,none⟩=some (F pp pq pr):=bf;have r3:wr.cell? ⟨g,k*4+3,none⟩=some (E J x3):=bg;clear bd be bf bg;obtain⟨X1,aw,ae,bu⟩:=ka00 wr [F pa pn pc,F pb pm pd,F pp pq pr,E J x3] 67;obtain⟨b0,b1,b2,b3,bl⟩:=kc4 bu;have t1:=Ze ae (Zb z.b0 1 _ rfl);have tl:=aD (aA z.b0) ae.size;have cu:=Zd ae;have aq:=Zf (Zf z.bel ae) (Zi _);have fy:pm=pn:=(by rw[<-hI.1,<-hT.1];exact af.1.symm);subst fy;have CO:=Zd (Di pa pb pp pm pc pd pq pr x0 x1 x2 x3 X1.drew (hI.later aq) (hT.later aq) (hP.later aq) sI sT sP (by rw[<-hI.1];exact af.2.1) af.2.2.1 (by rw[<-hP.1];exact af.2.2.2.1) af.2.2.2.2)
    have NX:Hid (∀ w5 cs,ZD wr w5->Fresh X1.drew.heap.size w5 (λw2=>Tr.nodR.C w2 cs (x0,x1,x2,x3)) ->
      Hid (ClW w (w.heap.size+2) G W (F a0 W.k.length c0) (F (some ⟨g,0,none⟩) W.n.length c1) (F a2 W.m.length c2) (K.set k cs) K2 (k+1) 0 (Tr.setsW w5 g (k*4) cs))):=λw5 cs ad ag=>
     z.node ar ad (by rw[hx];exact ag) (aT z.g ae.size)
    have FR:=Zd (λj=>z.n.free j);have cq:=Zd z.b0;have gd:(k:Int)<(W.n.length:Int):=(by omega);clear hI hT hP sI sT sP af hx eK ae bu aq;go_wp2_with fail;rw[<-aw];clear aw
    go_region_with (go_at_call 171;refine CO.mono ?_;rintro e w5 ⟨ya,yc,yb,yd,yp,yr,rfl,ag,ez,fa,fb,ad⟩;have Q:=Zf (Zf cu (Zi _)) ad;have HN:=Zd (NX w5 [F ya pm yc,F yb pm yd,F yp pq yr,E J x3] Q (λw2 g2=>⟨ya,pm,yc,yb,pm,yd,yp,pq,yr,rfl,(ag w2 g2).1,(ag w2 g2).2.1,(ag w2 g2).2.2,ez,fa,fb⟩));have q1:=Ze ad (Ze (Zi _) t1);have s0:=Ze Q r0;have u0:w5.frozen? ⟨g,k*4,none⟩=false:=(aO (a:=⟨g,k*4,none⟩) (Q.block g aa)).trans (FR _);have s1:=Ze Q r1;have u1:w5.frozen? ⟨g,k*4+1,none⟩=false:=(aO (a:=⟨g,k*4+1,none⟩) (Q.block g aa)).trans (FR _);have s2:=Ze Q r2;have u2:w5.frozen? ⟨g,k*4+2,none⟩=false:=(aO (a:=⟨g,k*4+2,none⟩) (Q.block g aa)).trans (FR _);have s3:=Ze Q r3;have u3:w5.frozen? ⟨g,k*4+3,none⟩=false:=(aO (a:=⟨g,k*4+3,none⟩) (Q.block g aa)).trans (FR _);have q4:=aD aa Q.size;have q5:=aD (aA cq) Q.size;clear ag ad Q ez fa fb)
    all_goals
     go_wp2;go_roundw
     case rel=>exact⟨k+1,_,by omega,by go_num,Za HN⟩
     case measure=>simp[intOf];omega
   ·have e:k=W.n.length:=(by omega);subst e;have fw:=Zb z.b0 2 _ rfl;have cl2:=aA z.b0;go_wp2
    go_loopw [39] (λi wr=>∃ (j:Nat) (K2:List (List Value)),j<=W.m.length/\i = E J j/\Hid (ClW w (w.heap.size+2) G W (F a0 W.k.length c0) (F a1 W.n.length c1) (F a2 W.m.length c2) K K2 W.n.length j wr)) (λi _=>W.m.length - (intOf i).toNat)
    case atStart=>exact⟨0,K2,aL _,rfl,z⟩
    case round=>
     obtain⟨k,K2,hk,rfl,z⟩:=hrel;clear fw cl2;by_cases ar:k<W.m.length
     ·obtain⟨g,cap,ev,ga,gb,aa⟩:=z.m.form (by omega);cases ev;have ab:k<K2.length:=(by rw[(Za z).m.len];exact ar);obtain⟨pa,pn,pc,ia,im,ic,oa,om,oc,eK,hT,sT,hI,sI,hO,sO⟩:=z.m.old k ar ab (aF _);have af:=fp _ (aQ ar);obtain⟨x,hx⟩:=ZF (W.m[k]);rw[hx] at eK hI hT hO af;obtain⟨x0,x1,x2,x3,⟨y0,y1,y2,y3,y4⟩,z0,z1,z2⟩:=x;simp only at eK hI hT hO;have bd:=z.m.cell k ab 0 (by decide);have be:=z.m.cell k ab 1 (by decide);have bf:=z.m.cell k ab 2 (by decide);have bg:=z.m.cell k ab 3 (by decide);have du:=z.m.cell k ab 4 (by decide);have dv:=z.m.cell k ab 5 (by decide);have dw:=z.m.cell k ab 6 (by decide);have dx:=z.m.cell k ab 7 (by decide);have dy:=z.m.cell k ab 8 (by decide);have dz:=z.m.cell k ab 9 (by decide);have ds:=z.m.cell k ab 10 (by decide);have dt:=z.m.cell k ab 11 (by decide);rw[eK] at bd be bf bg du dv dw dx dy dz ds dt;have r0:wr.cell? ⟨g,k*12,none⟩=some (E J x0):=bd;have r1:wr.cell? ⟨g,k*12+1,none⟩=some (E J x1):=be;have r2:wr.cell? ⟨g,k*12+2,none⟩=some (E J x2):=bf;have r3:wr.cell? ⟨g,k*12+3,none⟩=some (E J x3):=bg;have r4:wr.cell? ⟨g,k*12+4,none⟩=some (E J y0):=du;have r5:wr.cell? ⟨g,k*12+5,none⟩=some (E J y1):=dv;have r6:wr.cell? ⟨g,k*12+6,none⟩=some (E J y2):=dw;have r7:wr.cell? ⟨g,k*12+7,none⟩=some (E J y3):=dx;have r8:wr.cell? ⟨g,k*12+8,none⟩=some (F pa pn pc):=dy;have r9:wr.cell? ⟨g,k*12+9,none⟩=some (E J z0):=dz;have gp:wr.cell? ⟨g,k*12+10,none⟩=some (F ia im ic):=ds
      have gq:wr.cell? ⟨g,k*12+11,none⟩=some (F oa om oc):=dt;clear bd be bf bg du dv dw dx dy dz ds dt;obtain⟨X1,aw,ae,bu⟩:=ka00 wr [E J x0,E J x1,E J x2,E J x3,E J y0,E J y1,E J y2,E J y3,F pa pn pc,E J z0,F ia im ic,F oa om oc] 106;obtain⟨b0,b1,b2,b3,b4,b5,b6,b7,b8,b9,ik,il,bl⟩:=kc12 bu;have t2:=Ze ae (Zb z.b0 2 _ rfl);have tl:=aD (aA z.b0) ae.size;have cu:=Zd ae;have aq:=Zf (Zf z.bel ae) (Zi _);have CO:=Zd (Em x0 x1 x2 x3 y0 y1 y2 y3 pa pn pc y4 z0 ia oa im ic om oc z1 z2 X1.drew (hT.later aq) sT (by rw[<-hT.1];exact af.1.1) af.1.2 (hI.later aq) (hO.later aq) sI sO af.2)
      have NX:Hid (∀ w5 cs,ZD wr w5->Fresh X1.drew.heap.size w5 (λw2=>Tr.msgR.C w2 cs (x0,x1,x2,x3,(y0,y1,y2,y3,y4),z0,z1,z2)) ->
        Hid (ClW w (w.heap.size+2) G W (F a0 W.k.length c0) (F a1 W.n.length c1) (F (some ⟨g,0,none⟩) W.m.length c2) K (K2.set k cs) W.n.length (k+1) (Tr.setsW w5 g (k*12) cs))):=λw5 cs ad ag=>
       z.msg ar ad (by rw[hx];exact ag) (aT z.g ae.size)
      have FR:=Zd (λj=>z.m.free j);have cq:=Zd z.b0;have gd:(k:Int)<(W.m.length:Int):=(by omega);clear hI hT hO sI sT sO af hx eK ae bu aq;go_wp2_with fail;rw[<-aw];clear aw
      go_region_with (go_at_call 227;refine CO.mono ?_;rintro e w5 ⟨ya,yc,yi,yj,yo,yp,rfl,ag,ad⟩;have Q:=Zf (Zf cu (Zi _)) ad;have HN:=Zd (NX w5 [E J x0,E J x1,E J x2,E J x3,E J y0,E J y1,E J y2,E J y3,F ya pn yc,E J z0,F yi im yj,F yo om yp] Q (λw2 g2=>Zeb (ag w2 g2).1 (ag w2 g2).2));have q1:=Ze ad (Ze (Zi _) t2);have s0:=Ze Q r0;have u0:w5.frozen? ⟨g,k*12,none⟩=false:=(aO (a:=⟨g,k*12,none⟩) (Q.block g aa)).trans (FR _);have s1:=Ze Q r1;have u1:w5.frozen? ⟨g,k*12+1,none⟩=false:=(aO (a:=⟨g,k*12+1,none⟩) (Q.block g aa)).trans (FR _);have s2:=Ze Q r2;have u2:w5.frozen? ⟨g,k*12+2,none⟩=false:=(aO (a:=⟨g,k*12+2,none⟩) (Q.block g aa)).trans (FR _);have s3:=Ze Q r3;have u3:w5.frozen? ⟨g,k*12+3,none⟩=false:=(aO (a:=⟨g,k*12+3,none⟩) (Q.block g aa)).trans (FR _);have s4:=Ze Q r4;have u4:w5.frozen? ⟨g,k*12+4,none⟩=false:=(aO (a:=⟨g,k*12+4,none⟩) (Q.block g aa)).trans (FR _);have s5:=Ze Q r5;have u5:w5.frozen? ⟨g,k*12+5,none⟩=false:=(aO (a:=⟨g,k*12+5,none⟩) (Q.block g aa)).trans (FR _);have s6:=Ze Q r6;have u6:w5.frozen? ⟨g,k*12+6,none⟩=false:=(aO (a:=⟨g,k*12+6,none⟩) (Q.block g aa)).trans (FR _);have s7:=Ze Q r7;have u7:w5.frozen? ⟨g,k*12+7,none⟩=false:=(aO (a:=⟨g,k*12+7,none⟩) (Q.block g aa)).trans (FR _);have s8:=Ze Q r8;have u8:w5.frozen? ⟨g,k*12+8,none⟩=false:=(aO (a:=⟨g,k*12+8,none⟩) (Q.block g aa)).trans (FR _);have s9:=Ze Q r9;have u9:w5.frozen? ⟨g,k*12+9,none⟩=false:=(aO (a:=⟨g,k*12+9,none⟩) (Q.block g aa)).trans (FR _);have jg:=Ze Q gp;have u10:w5.frozen? ⟨g,k*12+10,none⟩=false:=(aO (a:=⟨g,k*12+10,none⟩) (Q.block g aa)).trans (FR _);have jh:=Ze Q gq;have u11:w5.frozen? ⟨g,k*12+11,none⟩=false:=(aO (a:=⟨g,k*12+11,none⟩) (Q.block g aa)).trans (FR _);have q4:=aD aa Q.size;have q5:=aD (aA cq) Q.size;clear ag ad Q)
      all_goals
       go_wp2;go_roundw
       case rel=>exact⟨k+1,_,by omega,by go_num,Za HN⟩
       case measure=>simp[intOf];omega
     ·have e:k=W.m.length:=(by omega);subst e;have s0:=Zb z.b0 0 _ rfl;have s1:=Zb z.b0 1 _ rfl;have s2:=Zb z.b0 2 _ rfl;have sl:=aA z.b0;have y0:=Zb z.b1 0 _ rfl;have y1:=Zb z.b1 1 _ rfl;have y2:=Zb z.b1 2 _ rfl;have z0:=Zg z.b1 0;have z1:=Zg z.b1 1;have z2:=Zg z.b1 2;have yl:=aA z.b1;go_wp2;(try simp only[aR,Exit.then]);have hG:=(((Gr.refl wr (λq=>q=w.heap.size+1)).one (w.heap.size+1) 0 (.inl rfl) (F a0 W.k.length c0)).one (w.heap.size+1) 1 (.inl rfl) (F a1 W.n.length c1)).one (w.heap.size+1) 2 (.inl rfl) (F a2 W.m.length c2);obtain⟨ka',kc',e1,gf,gg,gh⟩:=z.on fz hG;cases e1;refine aW (v:=.agg #[F a0 W.k.length c0,F a1 W.n.length c1,F a2 W.m.length c2]) ?_ rfl ⟨_,_,_,_,_,_,rfl,gf,gg,gh,?_⟩
      ·rw[Ja rfl];go_simp
      ·exact hG.below z.bel z.bel.size (λq e=>by have e:q=w.heap.size+1:=e;omega)
theorem Ye{W:WD}(h:Xp W.k W.n W.m=0):1<=W.n.length/\W.n.length<=4/\Bk.bkChk W.k=0/\W.k.length<=120/\W.m.length<=20/\(∀ y∈W.n,opN W.k y=0)/\∀ m∈W.m,Ry m W.n.length=0:=by
 unfold Xp at h;by_cases h1:1<=W.n.length/\W.n.length<=4;rotate_left
 ·rw[if_pos h1] at h;exact absurd h (by decide)
 rw[if_neg (λq=>q h1)] at h;by_cases h2:Bk.bkChk W.k=0;rotate_left
 ·rw[if_pos h2] at h;exact absurd h h2
 rw[if_neg (λq=>q h2)] at h;by_cases h3:20<W.m.length
 ·rw[if_pos h3] at h;exact absurd h (by decide)
 rw[if_neg h3] at h;by_cases h4:Ve W.k W.n=0;rotate_left
 ·rw[if_pos h4] at h;exact absurd h h4
 rw[if_neg (λq=>q h4)] at h
 have n0:∀ L,Ve W.k L=0->∀ y∈L,opN W.k y=0:=by
  intro L
  induction L with
  | nil=>intro _ y z;cases z
  | cons x L ih=>
   intro h y z;rw[Ve] at h;by_cases e:opN W.k x=0
   ·rw[if_neg (λq=>q e)] at h
    rcases aU.1 z with rfl|z
    ·exact e
    ·exact ih h y z
   ·rw[if_pos e] at h;exact absurd h e
 have m0:∀ L,Qr W.n.length L=0->∀ y∈L,Ry y W.n.length=0:=by
  intro L
  induction L with
  | nil=>intro _ y z;cases z
  | cons x L ih=>
   intro h y z;rw[Qr] at h;by_cases e:Ry x W.n.length=0
   ·rw[if_neg (λq=>q e)] at h
    rcases aU.1 z with rfl|z
    ·exact e
    ·exact ih h y z
   ·rw[if_pos e] at h;exact absurd h e
 refine⟨h1.1,h1.2,h2,?_,by omega,n0 _ h4,m0 _ h⟩;unfold Bk.bkChk at h2;by_cases e:120<W.k.length
 ·rw[if_pos e] at h2;exact absurd h2 (by decide)
 ·omega
theorem Zkk{K}{y:U9}(h:opN K y=0)(hs:Js y):Zqc y:=by
 obtain⟨_,Q,_⟩:=Yg h;have z:=Vj (Yb Q).1;exact⟨z.1,aT z.2.1 (by decide),z.2.2.2.2.1,hs⟩
def WorldAt(w:World)(W:WD)(ka:Option Addr)(kn:Nat)(na:Option Addr)(nn:Nat)(ma:Option Addr)(mn:Nat):Prop:=Bk.TextsAt w ka kn W.k/\NodsAt w na nn W.n/\MsgsAt w ma mn W.m
def Zdb(w w':World)(x:Int)(W:WD)(e:Ending):Prop:=ZD w w'/\((x≠0/\e = dA (dB #[.agg #[F none 0 0,F none 0 0,F none 0 0],E J x])) \/
 (x=0/\∃ ka kn kc na nn nc ma mn mc,e = dA (dB #[.agg #[F ka kn kc,F na nn nc,F ma mn mc],E J 0])/\Fresh w.heap.size w' (λw2=>WorldAt w2 W ka kn na nn ma mn)/\SlOk ka kn kc/\SlOk na nn nc/\SlOk ma mn mc))
theorem Sc.fresh{B s:Nat}{W:WD}{w:World}(h:Sc (λq=>q<B) s W w):∃ ka kn kc na nn nc ma mn mc,w.heap[s]? = some (cZ [F ka kn kc,F na nn nc,F ma mn mc].toArray 287 (0,0))/\Fresh B w (λw2=>WorldAt w2 W ka kn na nn ma mn)/\SlOk ka kn kc/\SlOk na nn nc/\SlOk ma mn mc:=by
 obtain⟨ka,kn,kc,vn,vm,Kn,Km,z⟩:=h;obtain⟨na,nc,ma,mc,rfl,rfl,_,_,s1,s2⟩:=z.on.read;refine⟨ka,kn,kc,na,_,nc,ma,_,mc,z.box,λV g=>?_,z.on.sk,s1,s2⟩;have d:=z.on.dat V (g.mono (λq _ e=>.inl (.inl e)));obtain⟨a1,c1,Q,r1,_⟩:=Tr.rows_of_own Tr.nodR (g.own z.on.rn (λq hq e=>(z.zs q e).2.2.1 hq)) d.2.1 rfl;obtain⟨a2,c2,e2,r2,_⟩:=Tr.rows_of_own Tr.msgR (g.own z.on.rm (λq hq e=>(z.zs q e).2.2.2 hq)) d.2.2 rfl;cases Q;cases e2;exact⟨d.1,r1,r2⟩
theorem E9(ka kn kc na nn nc ma mn mc)(W:WD)(Q y x:Int)(W':WD)(f:Nat)(caps)(w:World)(hE:Env w)(hK:Bk.TextsAt w ka kn W.k)(hN:NodsAt w na nn W.n)(hM:MsgsAt w ma mn W.m)(sK:SlOk ka kn kc)(sN:SlOk na nn nc)(sM:SlOk ma mn mc)(az:∀ y∈W.n,Js y)(cc:∀ m∈W.m,Vf m)(h0:Xp W.k W.n W.m=Q)
  (hf:Q=0->(∀ args w,(callFunc f args).run aB w = .ok (.enter f args) w)/\∀ Z V s,(∀ q,q<w.heap.size->Z q)->ZD w V->Sc Z s W V->Calls aB f (#[dC (some ⟨s,0,none⟩)]++caps) V λe V'=>Wm Z s y W' V V' e) (hx:(if Q=0 then y else Q)=x) :
  Calls aB 119 #[.agg #[F ka kn kc,F na nn nc,F ma mn mc],.func (.func f) #[] caps] w λe w'=>Zdb w w' x W' e:=by
 obtain⟨X,hX⟩:=ZG (Yw w [cZ #[F ka kn kc,F na nn nc,F ma mn mc] 90,cZ #[F none 0 0,F none 0 0,F none 0 0] 90]);have bx:X=(w.alloc (cZ #[F ka kn kc,F na nn nc,F ma mn mc] 90)).alloc (cZ #[F none 0 0,F none 0 0,F none 0 0] 90):=hX;have ad:ZD w X:=by rw[hX];exact Zs _ _
 have bz:X.heap.size=w.heap.size+2:=by rw[hX];exact Z3 _ _
 have bo:=kl0 hX _ _ rfl;have ct:=kl hX 1 _ _ rfl;have C1:=Zd (Nc ka kn kc W.k na nn nc W.n ma mn mc W.m Q X (hE.later ad) (hK.later ad) (hN.later ad) (hM.later ad) az h0)
 have C2:Hid (Q=0->∀ V,ZD w V->_):=λe V hv=>by
  obtain⟨q1,q2,q3,q4,q5,q6,q7⟩:=Ye (W:=W) (h0.trans e);exact Zcl ka kn kc W.k na nn nc W.n ma mn mc W.m V (hK.later hv) (hN.later hv) (hM.later hv) sK sN sM (by rw[<-hK.1];omega) (by rw[<-hN.1];omega) (by rw[<-hM.1];omega) (λy hy=>Zkk (q6 y hy) (az y hy)) cc
 obtain⟨HF,bt,cw,aj,z,aw⟩:=kh6 hf ad bz bo ct hx;obtain⟨m0,m1,m2,ml⟩:=cl3 (Zd bo);clear hE hK hN hM sK sN sM az cc h0 hf hx ad bz bo ct hX;go_enter func119,ntmps119
 go_upto_region 1 with fail
 rw[<-bx];clear bx;go_wp2_with fail;refine C1.mono ?_;rintro e w1 ⟨rfl,ak⟩;have cu:=Zd ak;have ah:=onb bt ak;have aj:=mvd ak aj;have z:=mvd ak z;clear ak C1 bt m0 m1 m2 ml;by_cases hz:Q=0;rotate_left
 ·have e:Q=x:=by have:=Za aw;rw[if_neg hz] at this;exact this
  subst e;have gx:(Q != 0)=true:=by simp[hz]
  obtain⟨r0,r1,r2,rl⟩:=cl3 z;have f0:=Zg z 0;have f1:=Zg z 1;have f2:=Zg z 2;have ag:Hid (∀ V,Gr w1 V (λq=>q=w.heap.size+1)->Zdb w V Q W' (dA (dB #[.agg #[F none 0 0,F none 0 0,F none 0 0],E J Q]))):=λV g=>⟨g.below ah ah.size (λq e=>by have e:q=w.heap.size+1:=e;omega),.inl ⟨hz,rfl⟩⟩;clear C2 HF aj z;go_wp2;(try simp only[aR,Exit.then]);refine aW (v:=dB #[.agg #[F none 0 0,F none 0 0,F none 0 0],E J Q]) ?_ rfl ?_
  ·rw[Zn rfl];go_simp
  ·refine ag _ ?_
   repeat' first|refine Gr.one ?_ _ _ ?_ _|exact Gr.refl _ _
   all_goals exact Or.inl rfl
 subst hz;have ey:y=x:=by have:=Za aw;rw[if_pos rfl] at this;exact this
 subst ey;obtain⟨eg,ca⟩:=HF rfl;obtain⟨bu,C3⟩:=kh2 ca (C2 rfl w1 ah);obtain⟨m0,m1,m2,ml⟩:=cl3 aj;clear ca C2 HF aw;go_wp2_with fail;refine C3.mono ?_;rintro e w2 ⟨ka',kc',vn,vm,Kn,Km,rfl,ae,o1,o2,al⟩;obtain⟨na',nc',cd,ce,rfl,rfl,_⟩:=ae.read;have bs:=onb ah al;have z:=mvd al z;obtain⟨w3,aq⟩:∃ v,v=w2.alloc (cZ #[F ka' kn kc',F na' W.n.length nc',F cd W.m.length ce] 287):=⟨_,rfl⟩;have aa:ZD w2 w3:=by rw[aq];exact Zh _ _
 have h3:w3.heap[w2.heap.size]? = some (cZ [F ka' kn kc',F na' W.n.length nc',F cd W.m.length ce].toArray 287 (0,0)):=by rw[aq];exact heap_alloc_new _ _
 have dp:=ah.size;have dq:=bs.size;have ds:=Za cw;have dd:=cu.size;have dr:=aT dd al.size
 have bv:Sc (λq=>q<w.heap.size+2) w2.heap.size W w3:=by
  refine⟨ka',kn,kc',_,_,Kn,Km,h3,λq e=>?_,(ae.later aa).rn,(ae.later aa).rm,λV gV=>ae.dat V ((Gr.of aa).far gV (λq e=>?_)),ae.sk⟩
  ·have e:q<w.heap.size+2:=e;have:=al.size;have:=aa.size;exact⟨by omega,by omega,λh=>by have:=o1 q h;omega,λh=>by have:=o2 q h;omega⟩
  ·rcases e with (e|e)|e
   ·exact .inr (.inl (by have e:q<w.heap.size+2:=e;omega))
   ·exact .inl (bL (Eq.symm e))
   ·exact .inr (.inr e)
 have am:=onb bs aa;have z:=mvd aa z;have C4:=Zd (bu (λq=>q<w.heap.size+2) w3 w2.heap.size (λq e=>by show q<w.heap.size+2;omega) am bv);clear ae o1 o2 al aa h3 bv C3 bu m0 m1 m2 ml aj
 go_upto_region 5 with fail
 rw[<-aq];clear aq;go_wp2_with fail;refine C4.mono ?_;rintro e w4 ⟨rfl,ax,ay⟩;have an:Hid (ZD w w4):=ay.below am am.size (λq e=>by have e:¬q<w.heap.size+2:=e;omega);have ab:Hid (w4.heap[w.heap.size+1]? = some (cZ [F none 0 0,F none 0 0,F none 0 0].toArray 90 (0,0))):=ay.heap z (λe=>e (by omega));obtain⟨r0,r1,r2,rl⟩:=cl3 ab;have f0:=Zg ab 0;have f1:=Zg ab 1;have f2:=Zg ab 2;clear ay C4 z am;by_cases hy:y=0;rotate_left
 ·have gx:(y != 0)=true:=by simp[hy]
  have ag:Hid (∀ V,Gr w4 V (λq=>q=w.heap.size+1)->Zdb w V y W' (dA (dB #[.agg #[F none 0 0,F none 0 0,F none 0 0],E J y]))):=λV g=>⟨g.below an an.size (λq e=>by have e:q=w.heap.size+1:=e;omega),.inl ⟨hy,rfl⟩⟩;clear ax ab;go_wp2;(try simp only[aR,Exit.then]);refine aW (v:=dB #[.agg #[F none 0 0,F none 0 0,F none 0 0],E J y]) ?_ rfl ?_
  ·rw[Zn rfl];go_simp
  ·refine ag _ ?_
   repeat' first|refine Gr.one ?_ _ _ ?_ _|exact Gr.refl _ _
   all_goals exact Or.inl rfl
 ·subst hy;obtain⟨k1,bf,be,n1,bk,bj,m1,bh,bg,h4,hF,s1,s2,s3⟩:=Sc.fresh (ax rfl);have ag:Hid (∀ V,Gr w4 V (λq=>q=w.heap.size+1)->Zdb w V 0 W' (dA (dB #[.agg #[F k1 bf be,F n1 bk bj,F m1 bh bg],E J 0]))):=λV g=>⟨g.below an an.size (λq e=>by have e:q=w.heap.size+1:=e;omega),.inr ⟨rfl,k1,bf,be,n1,bk,bj,m1,bh,bg,rfl,(hF.on (g.mono (λq _ e=>by have e:q=w.heap.size+1:=e;omega))).less (by omega),s1,s2,s3⟩⟩;obtain⟨d0,d1,d2,dl⟩:=cl3 (Zd h4);have nd:w2.heap.size≠w.heap.size+1:=by omega
  clear ax ab h4 hF s1 s2 s3;go_wp2;(try simp only[aR,Exit.then]);refine aW (v:=dB #[.agg #[F k1 bf be,F n1 bk bj,F m1 bh bg],E J 0]) ?_ rfl ?_
  ·rw[Zn rfl];go_simp
  ·refine ag _ ?_
   repeat' first|refine Gr.one ?_ _ _ ?_ _|exact Gr.refl _ _
   all_goals exact Or.inl rfl
def HapP(P:World->Prop)(z:Value)(W:WD)(y:Int)(W':WD):Prop:=∀ Z V s,(∀ U,Gr V U (λq=>¬Z q)->P U)->Sc Z s W V->Calls aB 129 #[dC (some ⟨s,0,none⟩),z] V λe V'=>Wm Z s y W' V V' e
abbrev Zdd:=HapP Env
theorem Znc(P:World->Prop)(Z:Nat->Prop)(s b:Nat)(xk xn xt xi xw xN th:Int)(ai ao ni ci no co)(W:WD)(y:Int)(W':WD)(w:World)(hE:∀ U,Gr w U (λq=>¬Z q)->P U)(Q:Sc Z s W w)(hb:w.heap[b]? = some (cZ [E J xk,E J xn,E J xt,E J xi,E J xw,E J xN,E J th,F ai ni ci,F ao no co].toArray 103 (0,0)))(z:HapP P (.agg #[E J xk,E J xn,E J xt,E J xi,E J xw,E J xN,E J th,F ai ni ci,F ao no co]) W y W') :
  Calls aB 128 #[dC (some ⟨s,0,none⟩),dC (some ⟨b,0,none⟩)] w λe w'=>Wm Z s y W' w w' e:=by
 have C1:=Zd (z Z w s hE Q);obtain⟨m0,m1,m2,m3,m4,m5,m6,m7,m8,ml⟩:=kc9 hb;clear hE Q hb z;go_enter func128,ntmps128;go_wp2_with fail;refine C1.mono ?_;rintro e w1 ⟨rfl,h1,h2⟩;obtain⟨H1,H2⟩:=kh2 h1 h2;clear h1 h2 C1;go_wp2;go_ret;exact⟨rfl,Za H1,Za H2⟩
theorem Znb(P:World->Prop)(ka kn kc na nn nc ma mn mc)(xk xn xt xi xw xN th:Int)(ai ao ni ci no co)(W:WD)(x0 y x:Int)(W':WD)(w:World)(hE:Env w)(hK:Bk.TextsAt w ka kn W.k)(hN:NodsAt w na nn W.n)(hM:MsgsAt w ma mn W.m)(sK:SlOk ka kn kc)(sN:SlOk na nn nc)(sM:SlOk ma mn mc)(ax:∀ y∈W.n,Js y)(aw:∀ m∈W.m,Vf m)(h0:Xp W.k W.n W.m=x0)
  (hP:∀ U,ZD w U->P U) (hH:x0=0->HapP P (.agg #[E J xk,E J xn,E J xt,E J xi,E J xw,E J xN,E J th,F ai ni ci,F ao no co]) W y W') (hx:(if x0=0 then y else x0)=x) :
  Calls aB 53 #[.agg #[F ka kn kc,F na nn nc,F ma mn mc],.agg #[E J xk,E J xn,E J xt,E J xi,E J xw,E J xN,E J th,F ai ni ci,F ao no co]] w λe w'=>Zdb w w' x W' e:=by
 obtain⟨X,Q⟩:=ZG (Yw w [cZ #[F ka kn kc,F na nn nc,F ma mn mc] 90,cZ #[E J xk,E J xn,E J xt,E J xi,E J xw,E J xN,E J th,F ai ni ci,F ao no co] 103,cZ #[F none 0 0,F none 0 0,F none 0 0] 90]);have av:X=((w.alloc (cZ #[F ka kn kc,F na nn nc,F ma mn mc] 90)).alloc (cZ #[E J xk,E J xn,E J xt,E J xi,E J xw,E J xN,E J th,F ai ni ci,F ao no co] 103)).alloc (cZ #[F none 0 0,F none 0 0,F none 0 0] 90):=Q;have aa:ZD w X:=by rw[Q];exact Zs _ _
 have bu:X.heap.size=w.heap.size+3:=by rw[Q];exact Z3 _ _
 have bg:=kl0 Q _ _ rfl;have bh:=kl Q 1 _ _ rfl;have bi:X.heap[w.heap.size+1+1]? = some (cZ [F none 0 0,F none 0 0,F none 0 0].toArray 90 (0,0)):=by rw[Q];exact Zk _ w 2 _ rfl
 have C1:=Zd (E9 ka kn kc na nn nc ma mn mc W x0 y x W' 128 #[dC (some ⟨w.heap.size+1,0,none⟩)] X (hE.later aa) (hK.later aa) (hN.later aa) (hM.later aa) sK sN sM ax aw h0 (λe=>⟨enters_of (fn:=Tryz.f128) (by kernel_rfl) (by kernel_rfl) rfl,λZ V s hZ hV hS=>Znc P Z s (w.heap.size+1) xk xn xt xi xw xN th ai ao ni ci no co W y W' V (λU g=>hP U (Zf aa (g.below hV hV.size (λq h=>by
  rcases Nat.lt_or_ge q X.heap.size with k|k
  ·exact absurd (hZ q k) h
  ·exact k)))) hS ((hV.block _ (by omega)).trans bh) (hH e)⟩) hx)
 obtain⟨aq,z⟩:=kh2 aa bi;obtain⟨m0,m1,m2,ml⟩:=cl3 (Zd bg);clear hE hK hN hM sK sN sM ax aw h0 hH hx hP aa bg bh bi Q;go_enter func53,ntmps53
 go_upto_region 1 with fail
 rw[<-av];clear av;go_wp2_with fail;refine C1.mono ?_;rintro e w1 ⟨ag,hr⟩;have ad:=onb aq ag;have z:=mvd ag z;obtain⟨r0,r1,r2,rl⟩:=cl3 z;have f0:=Zg z 0;have f1:=Zg z 1;have f2:=Zg z 2;clear ag C1 aq m0 m1 m2 ml z
 rcases hr with ⟨hx,rfl⟩|⟨rfl,k1,ak,aj,n1,ap,an,m1,am,al,rfl,hF,s1,s2,s3⟩
 ·have ae:Hid (∀ V,Gr w1 V (λq=>q=w.heap.size+2)->Zdb w V x W' (dA (dB #[.agg #[F none 0 0,F none 0 0,F none 0 0],E J x]))):=λV g=>⟨g.below ad ad.size (λq e=>by have e:q=w.heap.size+2:=e;omega),.inl ⟨hx,rfl⟩⟩;go_wp2;(try simp only[aR,Exit.then]);refine aW (v:=dB #[.agg #[F none 0 0,F none 0 0,F none 0 0],E J x]) ?_ rfl ?_
  ·rw[Zn rfl];go_simp
  ·refine ae _ ?_
   repeat' first|refine Gr.one ?_ _ _ ?_ _|exact Gr.refl _ _
   all_goals exact Or.inl rfl
 ·have ae:Hid (∀ V,Gr w1 V (λq=>q=w.heap.size+2)->Zdb w V 0 W' (dA (dB #[.agg #[F k1 ak aj,F n1 ap an,F m1 am al],E J 0]))):=λV g=>⟨g.below ad ad.size (λq e=>by have e:q=w.heap.size+2:=e;omega),.inr ⟨rfl,k1,ak,aj,n1,ap,an,m1,am,al,rfl,(hF.on (g.mono (λq _ e=>by have e:q=w.heap.size+2:=e;omega))).less (by omega),s1,s2,s3⟩⟩;clear hF s1 s2 s3;go_wp2;(try simp only[aR,Exit.then]);refine aW (v:=dB #[.agg #[F k1 ak aj,F n1 ap an,F m1 am al],E J 0]) ?_ rfl ?_
  ·rw[Zn rfl];go_simp
  ·refine ae _ ?_
   repeat' first|refine Gr.one ?_ _ _ ?_ _|exact Gr.refl _ _
   all_goals exact Or.inl rfl
