import Derived.Test.YtpikejjiignchaaGreatDoorH
import Derived.Test.YtpikejjiignchaaGreatDoorG19
open Go.Proofs.Tryz
open Go.IntKind renaming i64->J
open Go.Obj renaming cells->dW
open Go.Value renaming int->E,slice->F
open Go.World renaming block_lt_of_cell?->aC
open List renaming take_succ_eq_append_getElem->aM,map_append->bW
set_option maxHeartbeats 6400000
namespace Go.Proofs.YtpikejjiignchaaGreatDoor
open Go.RowKit
set_option maxRecDepth 10000 in
theorem Zkx(h:Int)(fm ao ni fo no co I O)(fl:Int)(w:World)(hI:InsAt w fm ni I)(hO:OutsAt w ao no O)(ew:ni<=6)(ey:no<=6)(fd:0<no)(hn:0<ni)(hh:h=0)(hz:(if Yd [] I≠0 then Yd [] I else Zw O)=fl) :
  ZH 57 #[.agg #[E J h,F fm ni fo,F ao no co]] w (E J fl):=by
 obtain⟨i1,ed,ej,ek,el⟩:=info_parts Tryz.infoInt;have hb:=Zg w (dW #[E J h,F fm ni fo,F ao no co] 52);obtain⟨n0,n1,n2⟩:=Vp w (E J h) (F fm ni fo) (F ao no co) 52;obtain⟨W,hW⟩:=ZG (w.alloc (dW #[E J h,F fm ni fo,F ao no co] 52));rw[<-hW] at hb n0 n1 n2;have HB:=Zb hb;have HI:=Zb (hI.later hb);have HO:=Zb (hO.later hb);have N2:=Zb n2;have q1:¬(6:Int)<(ni:Int):=by omega
 have q2:¬(6:Int)<(no:Int):=by omega
 have q3:((no:Int) == 0)=false:=by simp;omega
 have HZ:=Zb hz;subst hh;have g1:(0:Int)<(ni:Int):=by omega
 have g2:((ni:Int) == 0)=false:=by simp;omega
 clear hI hO hz hb;go_enter func57,ntmps57;go_wp2;rw[<-hW];clear hW;obtain⟨i2,ee,eg,eh,ei⟩:=info_parts Tryz.infoPoint;have dx:Hid (W.ownsRow W.heap.size 99 2 (F none 0 0) 0 (flat (M7 (I.take 0)))):=⟨rfl,Or.inl ⟨rfl,rfl⟩⟩
 go_loopw [3,55] (λv i wr=>∃ k:Nat,k<=ni/\i = E J k/\ZD W wr/\Hid (wr.ownsRow W.heap.size 99 2 v k (flat (M7 (I.take k))))/\Hid (Yd [] I=Yd (I.take k) (I.drop k))) (λ_ i _=>ni - (intOf i).toNat)
 case atStart=>exact⟨0,Nat.zero_le _,rfl,Below.refl _ _,dx,rfl⟩
 case round=>
  obtain⟨k,hk,rfl,hb,ct,A⟩:=hrel;have am:=Zb hb;by_cases dd:k<ni
  ·obtain⟨ff,bf⟩:=Za HI;obtain⟨b,off,rfl,eb,hc⟩:=bf (by omega);have an:k<I.length:=(by omega);have bh:=InAt.kept _ _ _ _ _ hb (hc k an);have ST:=Zb (Lh I k an);have SS:=Zb (Li I k an);have TK:=Zb (aM an);obtain⟨x,hx⟩:=ZF (I[k]);rw[hx] at bh ST SS TK;obtain⟨z,x2,ae⟩:=x;obtain⟨g1,g2,ka,kn,kc,g3,g4,_⟩:=bh;simp only at g1 g2 g3 g4;have ai:=Zg wr (dW #[E J z,E J x2,F ka kn kc] 124);obtain⟨m1,m2,m3⟩:=Vp wr (E J z) (E J x2) (F ka kn kc) 124;have KO:=Zb (g4.later ai);have M1:=Zb m1;have M2:=Zb m2;have au:=Zb ai;have bz:=Zb (Xv ct ai);have CK:=Zb (Rh ka kn kc ae _ KO);clear hb hx g4 hc bf m1 m2 m3 ai;cases hp:Hi (z,x2,ae) with
   | false=>
    have R:Hid (fl=3):=by
     have e:=A7 (pre:=I.take k) hp;show _=_;rw[<-Za HZ,Za A,(Za ST) (by rw[e];decide),e];rfl
    have af:=Zb (Ze am au);clear A
    have ar:¬(((1<=z/\z<=120)/\0<=x2/\x2<=5)):=λh=>by
     have:=(Tg (z,x2,ae)).2 (by simpa using h);rw[hp] at this;cases this
    by_cases w1:z<1
    ·clear hp ar;go_wp2;go_ret;exact⟨by rw[Za R];rfl,Ze HB af⟩
    ·by_cases w2:120<z
     ·clear hp ar;go_wp2;go_ret;exact⟨by rw[Za R];rfl,Ze HB af⟩
     ·by_cases w3:x2<0
      ·clear hp ar;go_wp2;go_ret;exact⟨by rw[Za R];rfl,Ze HB af⟩
      ·have w4:5<x2:=(by omega);clear hp ar;go_wp2;go_ret;exact⟨by rw[Za R];rfl,Ze HB af⟩
   | true=>
    have ar:=(Tg (z,x2,ae)).1 hp;simp only at ar;have w1:¬z<1:=(by omega);have w2:¬120<z:=(by omega);have w3:¬x2<0:=(by omega);have w4:¬5<x2:=(by omega);by_cases aa:chk ae=0
    ·obtain⟨o,ho⟩:=ZF ((I.take k).any (Vk (z,x2,ae)));rw[aa] at CK;have pm:=Znz (z,x2,ae) (I.take k);rw[ho] at pm;simp only at pm;have PM:=Zb pm;have E6:=Zb (λh=>G4 (pre:=I.take k) hp aa (ho.trans h));have E0:=Zb (λh=>A8 (pre:=I.take k) hp aa (ho.trans h));clear hp ar pm ho aa;obtain⟨av,cv,rfl,-⟩:=Nj ct;go_wp2_with fail;refine CK.mono ?_;rintro e dl ⟨rfl,ad⟩;have c1:=Zc ad M1;have c2:=Zc ad M2;have dh:=aC _ _ c1;have cu:=Zb (Xv bz ad);have af:=Zb (Ze (Ze am au) ad);obtain⟨eu,ev,fp,de⟩:=Nj cu;cases fp;have CP:=Zb (Fj av k cv (M7 (I.take k)) z x2 o dl (by omega) de PM);have C1:=Zb c1;have C2:=Zb c2;clear ad de;cases o with
     | true=>
      have e6:=E6 rfl
      have R:Hid (fl=6):=by
       show _=_;rw[<-Za HZ,Za A,(Za ST) (by rw[e6];decide),e6];rfl
      clear A e6;go_wp2_with fail;refine CP.mono ?_;rintro e bs ⟨rfl,ah⟩;have az:=Zb (Ze af ah);clear ah;go_wp2;go_ret;exact⟨by rw[Za R];rfl,Ze HB az⟩
     | false=>
      have R:Hid (Yd [] I=Yd (I.take (k+1)) (I.drop (k+1))):=by
       show _=_;rw[Za A,(Za SS) ((Za E0) rfl)]
      clear A;go_wp2_with fail;refine CP.mono ?_;rintro e bs ⟨rfl,ah⟩;have d1:=Zc ah C1;have d2:=Zc ah C2;have fe:=aC _ _ d1;have cf:=Zg bs (dW #[E J z,E J x2] 99);have cx:=Zb (Xv (Xv cu ah) cf);have bw:=Zb (World.news_of_block (heap_alloc_new bs (dW #[E J z,E J x2] 99)));have bt:=Zb (Ze (Ze af ah) cf);clear ah cf c1 c2 dh
      go_wp2_with (at_builtin;refine wpList_append_own _ rfl _ _ 178 rfl W.heap.size 99 i2 (.agg #[E J 0,E J 0]) 2 16 underlying178 ee eg eh ei rfl (by decide) _ _ _ rfl cx ⟨bs.heap.size,0,none⟩ 1 1 [E J z,E J x2] rfl rfl bw (λu hu=>by simp at hu;rcases hu with rfl|rfl <;> rfl) (by unfold maxLen;omega) (by omega) bt.size ?_;intro v7 w7 bi bg _)
      have bx:Hid (w7.ownsRow W.heap.size 99 2 v7 (k+1) (flat (M7 (I.take (k+1))))):=by
       show World.ownsRow _ _ _ _ _ _ _;rw[Za TK];unfold M7;rw[bW,Kz];exact bi
      have bu:=Zb (bt.grown bg bt.size (Qr cx));clear bi bg;go_roundw
      case rel=>exact⟨k+1,by omega,by go_num,Za bu,bx,R⟩
      case measure=>simp[intOf];omega
    ·obtain⟨y,hy⟩:=ZF (chk ae)
     have R:Hid (fl=y):=by
      have e:=Dr (pre:=I.take k) hp aa;simp only at e;show _=_;rw[<-Za HZ,Za A,(Za ST) (by rw[e];exact aa),e,if_pos aa];exact hy
     rw[hy] at CK;rw[hy] at aa;have gz:(y != 0)=true:=(by simp[aa]);clear A hy aa hp ar;go_wp2_with fail;refine CK.mono ?_;rintro e dl ⟨rfl,ad⟩;have af:=Zb (Ze (Ze am au) ad);clear ad;go_wp2;go_ret;exact⟨by rw[Za R];rfl,Ze HB af⟩
  ·have e0:Yd [] I=0:=by rw[Za A];exact Dp I k (by rw[(Za HI).1];omega)
   have dj:Zw O=fl:=by
    have:=Za HZ;rw[if_neg (by rw[e0];simp)] at this;exact this
   have HZ:=Zb dj;have eq:=Zc hb N2;have fb:=aC _ _ eq;have dr:=am;obtain⟨WX,ez⟩:=ZG (wr);clear A e0 dj hb;go_wp2;have dw:Hid (wr.ownsRow W.heap.size 3 1 (F none 0 0) 0 ((([]:List Int).map (Value.int .i64)))):=⟨rfl,Or.inl ⟨rfl,rfl⟩⟩
   go_loopw [7,100] (λv i wr=>∃ k:Nat,k<=no/\i = E J k/\ZD W wr/\Hid (wr.ownsRow W.heap.size 3 1 v k (((O.take k).map (·.1)).map (Value.int .i64)))/\Hid (Yc O=Yc (O.drop k))) (λ_ i _=>no - (intOf i).toNat)
   case atStart=>exact⟨0,Nat.zero_le _,rfl,Za dr,dw,rfl⟩
   case round=>
    obtain⟨k,ef,rfl,hb,cq,A⟩:=hrel;have am:=Zb hb;by_cases dd:k<no
    ·obtain⟨en,bf⟩:=Za HO;obtain⟨b,off,rfl,eb,hc⟩:=bf (by omega);have an:k<O.length:=(by omega);have bh:=OutAt.kept _ _ _ _ _ hb (hc k an);have ST:=Zb (Ry O k an);have SS:=Zb (Rz O k an);have TK:=Zb (aM an);obtain⟨x,hx⟩:=ZF (O[k]);rw[hx] at bh ST SS TK;obtain⟨z,ae⟩:=x;obtain⟨g1,ka,kn,kc,g3,g4,_⟩:=bh;simp only at g1 g3 g4;have ai:=Zg wr (dW #[E J z,F ka kn kc] 101);obtain⟨n1,n2⟩:=Qf wr (E J z) (F ka kn kc) 101;have KO:=Zb (g4.later ai);have du:=Zb n1;have au:=Zb ai;have bz:=Zb (Xv cq ai);clear hb hx g4 n1 hc bf;by_cases cg:z<1
     ·have R:Hid (fl=3):=by
       have e:Xe (z,ae)=3:=Ps cg;have e2:Yc O=3:=(by rw[Za A,(Za ST) (by rw[e];decide),e]);show _=_;rw[<-Za HZ];unfold Zw;rw[e2];rfl
      have af:=Zb (Ze am au);clear A ai;go_wp2;go_ret;exact⟨by rw[Za R];rfl,Ze HB af⟩
     ·have CK:=Zb (Rh ka kn kc ae _ KO);by_cases aa:chk ae=0
      ·have R:Hid (Yc O=Yc (O.drop (k+1))):=by
        have e:Xe (z,ae)=0:=(by rw[Um cg];exact aa);show _=_;rw[Za A,(Za SS) e]
       rw[aa] at CK;clear A aa ai;go_wp2_with fail;refine CK.mono ?_;rintro e w3 ⟨rfl,ad⟩;have m1:=Zc ad du;have dh:=aC _ _ m1;have ah:=Zg w3 (dW #[E J z] 3);have cw:=Zb (Xv (Xv bz ad) ah);have bw:=Zb (World.news_of_block (heap_alloc_new w3 (dW #[E J z] 3)));have az:=Zb (Ze (Ze (Ze am au) ad) ah);clear ad ah
       go_wp2_with (at_builtin;refine wpList_append_own _ rfl _ _ 25 rfl W.heap.size 3 i1 (E J 0) 1 8 underlying25 ed ej ek el rfl (by decide) _ _ _ rfl cw ⟨w3.heap.size,0,none⟩ 1 1 [E J z] rfl rfl bw (λu hu=>by simp at hu;subst hu;rfl) (by unfold maxLen;omega) (by omega) az.size ?_;intro v7 w7 bi bg _)
       have bx:Hid (w7.ownsRow W.heap.size 3 1 v7 (k+1) (((O.take (k+1)).map (·.1)).map (Value.int .i64))):=by
        show World.ownsRow _ _ _ _ _ _ _;rw[Za TK,bW,bW];exact bi
       have bu:=Zb (az.grown bg az.size (Qr cw));clear bi bg;go_roundw
       case rel=>exact⟨k+1,by omega,by go_num,Za bu,bx,R⟩
       case measure=>simp[intOf];omega
      ·obtain⟨y,hy⟩:=ZF (chk ae)
       have R:Hid (fl=y):=by
        have e:Xe (z,ae)=chk ae:=Um cg;have e2:Yc O=y:=(by rw[Za A,(Za ST) (by rw[e];exact aa),e];exact hy);show _=_;rw[<-Za HZ];unfold Zw;rw[e2,if_neg (by rw[<-hy];exact aa)]
       rw[hy] at CK;rw[hy] at aa;have gz:(y != 0)=true:=(by simp[aa]);clear A hy aa ai;go_wp2_with fail;refine CK.mono ?_;rintro e w3 ⟨rfl,ad⟩;have af:=Zb (Ze (Ze am au) ad);clear ad;go_wp2;go_ret;exact⟨by rw[Za R];rfl,Ze HB af⟩
    ·have e:k=no:=(by omega);subst e;have en:=HO.1
     have R:Hid (fl=(sm 0 (O.map (·.1))).2):=by
      show _=_;rw[<-Za HZ];unfold Zw;rw[Za A,Tt O k (by omega)];rfl
     have ci:=Za cq;rw[List.take_of_length_le (by omega)] at ci;obtain⟨av,cv,rfl,df⟩:=Ki ci (by unfold maxLen;omega);have SM:=Zb (F2 av k cv (O.map (·.1)) _ df);obtain⟨s,hs⟩:=ZF (sm 0 (O.map (·.1)));rw[hs] at SM R;obtain⟨s1,s2⟩:=s;clear A hb ci df hs dd ef;go_wp2_with fail;refine SM.mono ?_;rintro e w' ⟨rfl,rfl⟩;go_wp2;go_ret;exact⟨by rw[Za R];rfl,Ze HB am⟩
theorem Bq(h:Int)(ai ao ni ci no co I av)(w:World)(hI:InsAt w ai ni I)(hO:OutsAt w ao no av) :
  ZH 57 #[.agg #[E J h,F ai ni ci,F ao no co]] w (E J (Zr (h,I,av))):=by
 have zi:=hI.1;have zo:=hO.1;have HB:=Zb (Zg w (dW #[E J h,F ai ni ci,F ao no co] 52));by_cases h1:6<ni
 ·have e:Zr (h,I,av)=2:=by unfold Zr;rw[if_pos (Or.inl (by show 6<I.length;omega))]
  rw[e];have g:(6:Int)<(ni:Int):=by omega
  clear e h1 zi zo hI hO;go_enter func57,ntmps57;go_wp2;go_ret;exact⟨rfl,Za HB⟩
 ·by_cases h2:6<no
  ·have e:Zr (h,I,av)=2:=(by unfold Zr;rw[if_pos (Or.inr (by show 6<av.length;omega))]);rw[e];have g:¬(6:Int)<(ni:Int):=(by omega);have g':(6:Int)<(no:Int):=(by omega);clear e h1 h2 zi zo hI hO;go_enter func57,ntmps57;go_wp2;go_ret;exact⟨rfl,Za HB⟩
  ·have g:¬(6:Int)<(ni:Int):=(by omega);have g':¬(6:Int)<(no:Int):=(by omega);have e1:¬(6<I.length\/6<av.length):=(by omega);by_cases h3:no=0
   ·have e:Zr (h,I,av)=4:=(by unfold Zr;rw[if_neg e1,if_pos (by show av.length=0;omega)]);rw[e];subst h3;clear e e1 h1 h2 zi zo hI hO;go_enter func57,ntmps57;go_wp2;go_ret;exact⟨rfl,Za HB⟩
   ·have g3:((no:Int) == 0)=false:=(by simp;omega);have e3:¬av.length=0:=(by omega);cases hf:Da (h,I,av) with
    | false=>
     have e:Zr (h,I,av)=3:=(by unfold Zr;rw[if_neg e1,if_neg e3,if_pos hf]);rw[e];have O:=hf;rw[Mb h I av ni zi] at O;by_cases h0:ni=0
     ·subst h0;rw[if_pos rfl] at O
      have hh:h<1\/1000<h:=by
       by_cases q:h<1
       ·exact Or.inl q
       ·refine Or.inr ?_;simp at O;have:=O (by omega);omega
      by_cases q1:h<1
      ·clear e e1 e3 h1 h2 h3 zi zo hf O hh hI hO;go_enter func57,ntmps57;go_wp2;go_ret;exact⟨rfl,Za HB⟩
      ·have q2:1000<h:=(by omega);clear e e1 e3 h1 h2 h3 zi zo hf O hh hI hO;go_enter func57,ntmps57;go_wp2;go_ret;exact⟨rfl,Za HB⟩
     ·rw[if_neg h0] at O;have hh:(h != 0)=true:=(by simpa using O);have q1:(0:Int)<(ni:Int):=(by omega);clear e e1 e3 h1 h2 h3 zi zo hf O hI hO h0;go_enter func57,ntmps57;go_wp2;go_ret;exact⟨rfl,Za HB⟩
    | true=>
     have e4:¬Da (h,I,av)=false:=by rw[hf];decide
     have e:Zr (h,I,av)=if Yd [] I≠0 then Yd [] I else Zw av:=by
      unfold Zr;rw[if_neg e1,if_neg e3,if_neg e4]
     rw[e];have O:=hf;rw[Mb h I av ni zi] at O;by_cases h0:ni=0
     ·rw[if_pos h0] at O;simp at O;have e5:I=[]:=List.length_eq_zero_iff.1 (by omega);subst e5;exact Zkw h ai ao ni ci no co [] av _ w hI hO (by omega) (by omega) (by omega) h0 O.1 O.2 (by rw[if_neg (by simp[Yd])])
     ·rw[if_neg h0] at O;exact Zkx h ai ao ni ci no co I av _ w hI hO (by omega) (by omega) (by omega) (by omega) (by simpa using O) rfl
