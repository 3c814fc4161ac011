import Derived.Test.YtpikejjiignchaaGreatDoorH
import Derived.Test.YtpikejjiignchaaGreatDoorG34
open Go.IntKind renaming i64->J
open Go.Obj renaming cells->dW
open Go.Value renaming int->E,slice->F
open List renaming getD_eq_getElem?_getD->aZ,length_set->dB,mem_cons_self->dJ,length_cons->dQ
namespace Go.Proofs.YtpikejjiignchaaGreatDoor
open Go.RowKit
theorem Lo(a n c L)(h:Int)(ai ao ni ci no co I O)(name z:Int)(x:Int)(M S w)(hL:CoinsAt w a n L)(sL:SlOk a n c)(hI:InsAt w ai ni I)(hO:OutsAt w ao no O)(af:Zy L)(ag:Zr (h,I,O)=0)(hx:apD L (h,I,O) name z=(x,M,S)) :
  Calls Tryz.prog 60 #[F a n c,.agg #[E J h,F ai ni ci,F ao no co],E J name,E J z] w λe w'=>ApR w w' x M S e:=by
 by_cases n1:name<1
 ·exact Zex a n c L h ai ao ni ci no co I O name z x M S w af ag hx n1
 by_cases n2:120<name
 ·exact Zew a n c L h ai ao ni ci no co I O name z x M S w af ag hx n1 n2
 by_cases n3:z<1
 ·exact Zev a n c L h ai ao ni ci no co I O name z x M S w af ag hx n1 n2 n3
 by_cases n4:1000<z
 ·exact Zeu a n c L h ai ao ni ci no co I O name z x M S w af ag hx n1 n2 n3 n4
 by_cases hr:ni=0
 ·by_cases hh:h=z
  ·exact Zjd a n c L h ai ao ni ci no co I O name z x M S w hL sL hI hO af ag hx n1 n2 n3 n4 hr hh
  ·exact Zet a n c L h ai ao ni ci no co I O name z x M S w hI af ag hx n1 n2 n3 n4 hr hh
 ·exact Zje a n c L h ai ao ni ci no co I O name z x M S w hL sL hI hO af ag hx n1 n2 n3 n4 hr
theorem Zik(r:Int)(T S)(k:Nat):Xk r T S k=r+Xk 0 T S k:=by unfold Xk;omega
theorem Zij{r:Int}{T}{S:List (List Zf)}{k j:Nat}(s)(h:k<=j):Xk r T (S.set j s) k=Xk r T S k:=by
 unfold Xk;rw[List.take_set_of_le h]
def Q6(T:List TxD)(S:List (List Zf))(m k:Nat)(z:Int):Prop:=
 k<m->S.getD 0 []=[]/\z=Xk 0 T S (k+1)+Ys (T.getD 0 Ut).2.2/\-(6000000000*(k:Int))<=z/\z<=6000000000*(k:Int)
theorem Zeb{T:List TxD}{m:Nat}(z:T.length=m):Q6 T (List.replicate m []) m 0 0:=by
 intro h;refine⟨by simp[List.getD,h],?_,by omega,by omega⟩;rw[Pk 0 T _ 0 (by omega) (by simp;omega),Nx];simp[Yg,List.getD,z,h];omega
theorem Zip{T:List TxD}{S:List (List Zf)}{m k:Nat}{z:Int}{s}(hF:Q6 T S m k z)(hk:k+1<m)(hT:T.length=m)(hS:S.length=m){t:TxD}(ht:T.getD (k+1) Ut=t)(b1 : -6000000000<=Yg s - Ys t.2.2)(b2:Yg s - Ys t.2.2<=6000000000):Q6 T (S.set (k+1) s) m (k+1) (z+(Yg s - Ys t.2.2)):=by
 intro _;obtain⟨h0,h1,h2,h3⟩:=hF (by omega);refine⟨?_,?_,by omega,by omega⟩
 ·rw[aZ,List.getElem?_set_ne (by omega),<-aZ];exact h0
 ·rw[Pk 0 T _ (k+1) (by omega) (by rw[dB];omega),Zij s (Nat.le_refl _)];have O:(S.set (k+1) s)[k+1]'(by rw[dB];omega)=s:=by simp
  have e2:T[k+1]'(by omega)=t:=by rw[<-ht,aZ,List.getElem?_eq_getElem (by omega)];rfl
  rw[O,e2];omega
theorem Zml{T:List TxD}{S}{m k:Nat}{z r:Int}(hF:Q6 T S m k z)(O:k+1=m):Xk r T S m<0↔r+z<Ys (T.getD 0 Ut).2.2:=by
 obtain⟨_,h1,_,_⟩:=hF (by omega);rw[Zik,<-O];omega
theorem Ziq{T S}{m:Nat}{z:Int}:Q6 T S m m z:=λh=>absurd h (Nat.lt_irrefl _)
theorem Zgg{T S}{m k:Nat}{z:Int}(hF:Q6 T S m k z)(O:k<m)(hm:m<=4) : -24000000000<=z/\z<=24000000000:=by
 obtain⟨_,_,h2,h3⟩:=hF O;omega
theorem Es{ab:List Ya}(h:ab.length<=6)(O:∀ x∈ab,0<=x.1/\x.1<=1000000000):0<=Ys ab/\Ys ab<=6000000000:=by
 have:∀ (ab:List Ya),(∀ x∈ab,0<=x.1/\x.1<=1000000000)->0<=Ys ab/\Ys ab<=1000000000*(ab.length:Int):=by
  intro ab
  induction ab with
  | nil=>intro _;simp[Ys]
  | cons a t ih=>
   intro O;have h1:=O a (dJ ..);have h2:=ih (λx hx=>O x (List.mem_cons_of_mem _ hx));have e:Ys (a :: t)=a.1+Ys t:=(by simp[Ys]);rw[e,dQ];omega
 have:=this ab O;omega
theorem Zjv{S:List Zf}(h:S.length<=6)(O:∀ x∈S,0<=cv x/\cv x<=1000000000):0<=Yg S/\Yg S<=6000000000:=by
 have:∀ (ab:List Zf),(∀ x∈ab,0<=cv x/\cv x<=1000000000)->0<=Yg ab/\Yg ab<=1000000000*(ab.length:Int):=by
  intro ab
  induction ab with
  | nil=>intro _;simp[Yg]
  | cons a t ih=>
   intro O;have h1:=O a (dJ ..);have h2:=ih (λx hx=>O x (List.mem_cons_of_mem _ hx));have e:Yg (a :: t)=cv a+Yg t:=(by simp[Yg]);rw[e,dQ];omega
 have:=this S O;omega
def CoS(g0:Nat)(W Y:World)(bx:Nat)(am:Option Addr)(nm cm:Nat)(M:List Zf)(O:Option Addr)(z cs:Nat)(s:List Zf):Prop:=
 ZD W Y/\CoinsAt Y am nm M/\SlOk am nm cm/\CoinsAt Y O z s/\SlOk O z cs/\bx≠g0/\Y.heap[bx]? = some (dW [F O z cs].toArray 130 (0,0))
theorem Zbz{g0:Nat}{W O:World}{z:Nat}{an nm cm M sa ns cs s}(hb:ZD W O)(ai:W.heap.size<=z)(am:g0<W.heap.size)(ae:O.heap[z]? = some (dW [F none 0 0].toArray 130 (0,0)))(hM:CoinsAt O an nm M)(sM:SlOk an nm cm)(hS:CoinsAt O sa ns s)(sS:SlOk sa ns cs):CoS g0 W (O.setCell ⟨z,0,none⟩ (F sa ns cs)) z an nm cm M sa ns cs s:=by
 have ok:UsOk 130 z 1 O:=⟨[F none 0 0],ae,rfl,λv hv=>by rw[List.mem_singleton.1 hv];exact⟨_,_,_,rfl⟩⟩;have g:=(Gr.refl O (λq=>q=z)).one z 0 (.inl rfl) (F sa ns cs);exact⟨hb.setCell ai _,W7 hM ok g,sM,W7 hS ok g,sS,by omega,Mh ae 0 _⟩
