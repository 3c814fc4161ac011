import Derived.Test.YtpikejjiignchaaGreatDoorH
import Derived.Test.YtpikejjiignchaaGreatDoorG26
open Go.Proofs.Tryz
open Go renaming bodyPost_ret->aR,heap_alloc_new->aK,lt_of_block->aA
open Go.Ending renaming returned->dX
open Go.Exit renaming inBlock->aO
open Go.IntKind renaming i64->J
open Go.Obj renaming cells->dW
open Go.Proofs.Tryz renaming prog->aB
open Go.RowKit.Below renaming heap_alloc->bH
open Go.Value renaming int->E,slice->F,tuple->dY
open Nat renaming le_succ->bZ
set_option maxHeartbeats 3200000
set_option maxRecDepth 10000
namespace Go.Proofs.YtpikejjiignchaaGreatDoor
open Go.RowKit
theorem Y5(e:Int)(w:World):Calls aB 109 #[E J e] w λr w'=>r = dX (dY #[F none 0 0,.agg #[F none 0 0],E J e])/\ZD w w':=by
 go_enter func109,ntmps109;go_wp2;(try simp only[aO,Exit.then]);refine aR (v:=dY #[F none 0 0,.agg #[F none 0 0],E J e]) ?_ rfl ?_
 ·rw[Zn rfl];go_simp
 ·exact⟨rfl,Zg _ _⟩
theorem Hz{L t}(z:Zy L)(O:Zr t=0):Wm L t=0:=by
 unfold Wm;rw[(Z6 L).2 z,if_neg (by decide)];exact O
theorem Sh{L t}{name z x:Int}{M S}(O:Zy L)(aa:Zr t=0)(hb:(okN name && okH z)=false)(hx:apD L t name z=(x,M,S)):(x,M,S)=((3:Int),([]:List Zf),([]:List Zf)):=by
 have e:Wb L t name z=3:=by
  unfold Wb;rw[Hz O aa,if_neg (by decide),if_pos hb]
 rw[<-hx];unfold apD;rw[e,if_pos (by decide)]
theorem Znk{L}{t:TxD}{name z x:Int}{M S}(O:Zy L)(aa:Zr t=0)(hb:(okN name && okH z)=true)(hr:isR t=true/\t.1≠z)(hx:apD L t name z=(x,M,S)):(x,M,S)=((4:Int),([]:List Zf),([]:List Zf)):=by
 have e:Wb L t name z=4:=by
  unfold Wb;rw[Hz O aa,if_neg (by decide),if_neg (by rw[hb];decide),if_pos hr]
 rw[<-hx];unfold apD;rw[e,if_pos (by decide)]
theorem Dm{L}{t:TxD}{name z:Int}(O:Zy L)(aa:Zr t=0)(hb:(okN name && okH z)=true)(hr:¬(isR t=true/\t.1≠z)):Wb L t name z=0:=by
 unfold Wb;rw[Hz O aa,if_neg (by decide),if_neg (by rw[hb];decide),if_neg hr]
theorem Zex(a n c L)(h:Int)(z O ni ci no co I bc)(name ht:Int)(x:Int)(M S w)(ai:Zy L)(aj:Zr (h,I,bc)=0)(hx:apD L (h,I,bc) name ht=(x,M,S))(n1:name<1) :
  Calls aB 60 #[F a n c,.agg #[E J h,F z ni ci,F O no co],E J name,E J ht] w λe w'=>ApR w w' x M S e:=by
 obtain⟨X0,ac⟩:=ZG ((w.alloc (dW #[E J h,F z ni ci,F O no co] 52)).alloc (dW #[F none 0 0] 130));have al:ZD w X0:=by rw[ac];exact Ze (Zg _ _) (Zg _ _)
 have ad:X0.heap[w.heap.size]? = some (dW [E J h,F z ni ci,F O no co].toArray 52 (0,0)):=by
  rw[ac,bH _ _ _ (by simp)];exact Zs _ _ _ _ _
 have ak:X0.heap[w.heap.size+1]? = some (dW [F none 0 0].toArray 130 (0,0)):=by
  rw[ac];have:=aK (w.alloc (dW #[E J h,F z ni ci,F O no co] 52)) (dW #[F none 0 0] 130);rw[show (w.alloc (dW #[E J h,F z ni ci,F O no co] 52)).heap.size=w.heap.size+1 by simp] at this;exact this
 have HE:Hid ((x,M,S)=((3:Int),([]:List Zf),([]:List Zf))/\w.heap.size<=w.heap.size+1):=⟨Sh ai aj (by unfold okN okH;simp only[Bool.and_eq_false_iff,decide_eq_false_iff_not];omega) hx,bZ _⟩;have BU:=Zb ak;have HB:=Zb al;have ay:=Zd ad 0 _ rfl;have az:=Zd ad 1 _ rfl;have ba:=Zd ad 2 _ rfl;have bb:=aA ad;clear ai aj hx ad ak al;go_enter func60,ntmps60;go_wp2_with fail;rw[<-ac];clear ac;have CF:=Zb (Y5 3 X0);go_wp2_with fail;refine CF.mono ?_;rintro e wf ⟨rfl,ag⟩;have af:=Zb (ZE ag BU);have ar:=Zb (Ze HB ag);have av:=Zd af 0 _ rfl;have aw:=Zi af 0;have ax:=aA af;clear ag;go_wp2;(try simp only[aO,Exit.then]);refine aR (v:=dY #[F none 0 0,.agg #[F none 0 0],E J 3]) ?_ rfl ?_
 ·rw[Zn rfl];go_simp
 ·exact (Wn HE ar).plain
theorem Zew(a n c L)(h:Int)(z O ni ci no co I bd)(name ht:Int)(x:Int)(M S w)(ai:Zy L)(aj:Zr (h,I,bd)=0)(hx:apD L (h,I,bd) name ht=(x,M,S))(n1:¬name<1)(n2:120<name) :
  Calls aB 60 #[F a n c,.agg #[E J h,F z ni ci,F O no co],E J name,E J ht] w λe w'=>ApR w w' x M S e:=by
 obtain⟨X0,ac⟩:=ZG ((w.alloc (dW #[E J h,F z ni ci,F O no co] 52)).alloc (dW #[F none 0 0] 130));have al:ZD w X0:=by rw[ac];exact Ze (Zg _ _) (Zg _ _)
 have ad:X0.heap[w.heap.size]? = some (dW [E J h,F z ni ci,F O no co].toArray 52 (0,0)):=by
  rw[ac,bH _ _ _ (by simp)];exact Zs _ _ _ _ _
 have ak:X0.heap[w.heap.size+1]? = some (dW [F none 0 0].toArray 130 (0,0)):=by
  rw[ac];have:=aK (w.alloc (dW #[E J h,F z ni ci,F O no co] 52)) (dW #[F none 0 0] 130);rw[show (w.alloc (dW #[E J h,F z ni ci,F O no co] 52)).heap.size=w.heap.size+1 by simp] at this;exact this
 have HE:Hid ((x,M,S)=((3:Int),([]:List Zf),([]:List Zf))/\w.heap.size<=w.heap.size+1):=⟨Sh ai aj (by unfold okN okH;simp only[Bool.and_eq_false_iff,decide_eq_false_iff_not];omega) hx,bZ _⟩;have BU:=Zb ak;have HB:=Zb al;have az:=Zd ad 0 _ rfl;have ba:=Zd ad 1 _ rfl;have bb:=Zd ad 2 _ rfl;have bc:=aA ad;clear ai aj hx ad ak al;go_enter func60,ntmps60;go_wp2_with fail;rw[<-ac];clear ac;have CF:=Zb (Y5 3 X0);go_wp2_with fail;refine CF.mono ?_;rintro e wf ⟨rfl,ag⟩;have af:=Zb (ZE ag BU);have ar:=Zb (Ze HB ag);have aw:=Zd af 0 _ rfl;have ax:=Zi af 0;have ay:=aA af;clear ag;go_wp2;(try simp only[aO,Exit.then]);refine aR (v:=dY #[F none 0 0,.agg #[F none 0 0],E J 3]) ?_ rfl ?_
 ·rw[Zn rfl];go_simp
 ·exact (Wn HE ar).plain
theorem Zev(a n c L)(h:Int)(z O ni ci no co I be)(name ht:Int)(x:Int)(M S w)(aj:Zy L)(ak:Zr (h,I,be)=0)(hx:apD L (h,I,be) name ht=(x,M,S))(n1:¬name<1)(n2:¬120<name)(n3:ht<1) :
  Calls aB 60 #[F a n c,.agg #[E J h,F z ni ci,F O no co],E J name,E J ht] w λe w'=>ApR w w' x M S e:=by
 obtain⟨X0,ac⟩:=ZG ((w.alloc (dW #[E J h,F z ni ci,F O no co] 52)).alloc (dW #[F none 0 0] 130));have am:ZD w X0:=by rw[ac];exact Ze (Zg _ _) (Zg _ _)
 have ad:X0.heap[w.heap.size]? = some (dW [E J h,F z ni ci,F O no co].toArray 52 (0,0)):=by
  rw[ac,bH _ _ _ (by simp)];exact Zs _ _ _ _ _
 have al:X0.heap[w.heap.size+1]? = some (dW [F none 0 0].toArray 130 (0,0)):=by
  rw[ac];have:=aK (w.alloc (dW #[E J h,F z ni ci,F O no co] 52)) (dW #[F none 0 0] 130);rw[show (w.alloc (dW #[E J h,F z ni ci,F O no co] 52)).heap.size=w.heap.size+1 by simp] at this;exact this
 have HE:Hid ((x,M,S)=((3:Int),([]:List Zf),([]:List Zf))/\w.heap.size<=w.heap.size+1):=⟨Sh aj ak (by unfold okN okH;simp only[Bool.and_eq_false_iff,decide_eq_false_iff_not];omega) hx,bZ _⟩;have BU:=Zb al;have HB:=Zb am;have ba:=Zd ad 0 _ rfl;have bb:=Zd ad 1 _ rfl;have bc:=Zd ad 2 _ rfl;have bd:=aA ad;clear aj ak hx ad al am;go_enter func60,ntmps60;go_wp2_with fail;rw[<-ac];clear ac;have CF:=Zb (Y5 3 X0);go_wp2_with fail;refine CF.mono ?_;rintro e wf ⟨rfl,ag⟩;have af:=Zb (ZE ag BU);have ar:=Zb (Ze HB ag);have ax:=Zd af 0 _ rfl;have ay:=Zi af 0;have az:=aA af;clear ag;go_wp2;(try simp only[aO,Exit.then]);refine aR (v:=dY #[F none 0 0,.agg #[F none 0 0],E J 3]) ?_ rfl ?_
 ·rw[Zn rfl];go_simp
 ·exact (Wn HE ar).plain
theorem Zeu(a n c L)(h:Int)(z O ni ci no co I be)(name ht:Int)(x:Int)(M S w)(aj:Zy L)(ak:Zr (h,I,be)=0)(hx:apD L (h,I,be) name ht=(x,M,S))(n1:¬name<1)(n2:¬120<name)(n3:¬ht<1)(n4:1000<ht) :
  Calls aB 60 #[F a n c,.agg #[E J h,F z ni ci,F O no co],E J name,E J ht] w λe w'=>ApR w w' x M S e:=by
 obtain⟨X0,ac⟩:=ZG ((w.alloc (dW #[E J h,F z ni ci,F O no co] 52)).alloc (dW #[F none 0 0] 130));have am:ZD w X0:=by rw[ac];exact Ze (Zg _ _) (Zg _ _)
 have ad:X0.heap[w.heap.size]? = some (dW [E J h,F z ni ci,F O no co].toArray 52 (0,0)):=by
  rw[ac,bH _ _ _ (by simp)];exact Zs _ _ _ _ _
 have al:X0.heap[w.heap.size+1]? = some (dW [F none 0 0].toArray 130 (0,0)):=by
  rw[ac];have:=aK (w.alloc (dW #[E J h,F z ni ci,F O no co] 52)) (dW #[F none 0 0] 130);rw[show (w.alloc (dW #[E J h,F z ni ci,F O no co] 52)).heap.size=w.heap.size+1 by simp] at this;exact this
 have HE:Hid ((x,M,S)=((3:Int),([]:List Zf),([]:List Zf))/\w.heap.size<=w.heap.size+1):=⟨Sh aj ak (by unfold okN okH;simp only[Bool.and_eq_false_iff,decide_eq_false_iff_not];omega) hx,bZ _⟩;have BU:=Zb al;have HB:=Zb am;have ba:=Zd ad 0 _ rfl;have bb:=Zd ad 1 _ rfl;have bc:=Zd ad 2 _ rfl;have bd:=aA ad;clear aj ak hx ad al am;go_enter func60,ntmps60;go_wp2_with fail;rw[<-ac];clear ac;have CF:=Zb (Y5 3 X0);go_wp2_with fail;refine CF.mono ?_;rintro e wf ⟨rfl,ah⟩;have ag:=Zb (ZE ah BU);have ar:=Zb (Ze HB ah);have ax:=Zd ag 0 _ rfl;have ay:=Zi ag 0;have az:=aA ag;clear ah;go_wp2;(try simp only[aO,Exit.then]);refine aR (v:=dY #[F none 0 0,.agg #[F none 0 0],E J 3]) ?_ rfl ?_
 ·rw[Zn rfl];go_simp
 ·exact (Wn HE ar).plain
theorem Zet(a n c L)(h:Int)(O bh z ci no co I bi)(name ht:Int)(x:Int)(M S w)(hI:InsAt w O z I)(am:Zy L)(an:Zr (h,I,bi)=0)(hx:apD L (h,I,bi) name ht=(x,M,S))(n1:¬name<1)(n2:¬120<name)(n3:¬ht<1)(n4:¬1000<ht)(hr:z=0)(hh:h≠ht) :
  Calls aB 60 #[F a n c,.agg #[E J h,F O z ci,F bh no co],E J name,E J ht] w λe w'=>ApR w w' x M S e:=by
 obtain⟨X0,ae⟩:=ZG ((w.alloc (dW #[E J h,F O z ci,F bh no co] 52)).alloc (dW #[F none 0 0] 130));have ap:ZD w X0:=by rw[ae];exact Ze (Zg _ _) (Zg _ _)
 have af:X0.heap[w.heap.size]? = some (dW [E J h,F O z ci,F bh no co].toArray 52 (0,0)):=by
  rw[ae,bH _ _ _ (by simp)];exact Zs _ _ _ _ _
 have ao:X0.heap[w.heap.size+1]? = some (dW [F none 0 0].toArray 130 (0,0)):=by
  rw[ae];have:=aK (w.alloc (dW #[E J h,F O z ci,F bh no co] 52)) (dW #[F none 0 0] 130);rw[show (w.alloc (dW #[E J h,F O z ci,F bh no co] 52)).heap.size=w.heap.size+1 by simp] at this;exact this
 have HE:Hid ((x,M,S)=((4:Int),([]:List Zf),([]:List Zf))/\w.heap.size<=w.heap.size+1):=⟨Znk am an (by unfold okN okH;simp only[Bool.and_eq_true,decide_eq_true_eq];omega) ⟨by unfold isR;rw[hI.1];exact decide_eq_true hr,hh⟩ hx,bZ _⟩;have g0:((z:Int) == 0)=true:=by simp[hr]
 have g1:(h != ht)=true:=by simp[hh]
 have g2:(z:Int)=0:=by omega
 clear hr hh;have BU:=Zb ao;have HB:=Zb ap;have bd:=Zd af 0 _ rfl;have be:=Zd af 1 _ rfl;have bf:=Zd af 2 _ rfl;have bg:=aA af;clear hI am an hx af ao ap;go_enter func60,ntmps60;go_wp2_with fail;rw[<-ae];clear ae;have CF:=Zb (Y5 4 X0);go_wp2_with fail;refine CF.mono ?_;rintro e wf ⟨rfl,ah⟩;have ag:=Zb (ZE ah BU);have aw:=Zb (Ze HB ah);have ba:=Zd ag 0 _ rfl;have bb:=Zi ag 0;have bc:=aA ag;clear ah;go_wp2;(try simp only[aO,Exit.then]);refine aR (v:=dY #[F none 0 0,.agg #[F none 0 0],E J 4]) ?_ rfl ?_
 ·rw[Zn rfl];go_simp
 ·exact (Wn HE aw).plain
