/- The contract of the reference's Applied: of right coins and a right transaction it answers as Apply does. -/
import Derived.Test.YtepmnpapdknocaaGreatDoorRefApplied
import Derived.Test.YtepmnpapdknocaaGreatDoorCoinApplyBToCoinTwiceM
namespace Go.Proofs.YtepmnpapdknocaaGreatDoor
open Go.RowKit
theorem Pg(a:Option Addr)(n c:Nat)(L:List Zb)(h:Int)(ai ao:Option Addr)(ni ci no co:Nat)(I:List InD)(O:List Z7)(name ht:Int)(x:Int)(M S:List Zb)(w:World)(hL:CoinsAt w a n L)(sL:SlOk a n c)(hI:InsAt w ai ni I)(hO:OutsAt w ao no O)(hRC:Zs L)(hTx:Zj (h,I,O)=0)(hx:apD L (h,I,O) name ht=(x,M,S)) :
  Calls Tryz.prog 42 #[.slice a n c,.agg #[.int .i64 h,.slice ai ni ci,.slice ao no co],.int .i64 name,.int .i64 ht] w fun e w'=>ApR w w' x M S e:=by
 by_cases n1:name<1
 ·exact B9 a n c L h ai ao ni ci no co I O name ht x M S w hRC hTx hx n1
 by_cases n2:120<name
 ·exact B8 a n c L h ai ao ni ci no co I O name ht x M S w hRC hTx hx n1 n2
 by_cases n3:ht<1
 ·exact Bz a n c L h ai ao ni ci no co I O name ht x M S w hRC hTx hx n1 n2 n3
 by_cases n4:1000<ht
 ·exact Bx a n c L h ai ao ni ci no co I O name ht x M S w hRC hTx hx n1 n2 n3 n4
 by_cases hr:ni=0
 ·by_cases hh:h=ht
  ·exact Zbg a n c L h ai ao ni ci no co I O name ht x M S w hL sL hI hO hRC hTx hx n1 n2 n3 n4 hr hh
  ·exact Bw a n c L h ai ao ni ci no co I O name ht x M S w hI hRC hTx hx n1 n2 n3 n4 hr hh
 ·exact Zbh a n c L h ai ao ni ci no co I O name ht x M S w hL sL hI hO hRC hTx hx n1 n2 n3 n4 hr
theorem Zaq(r:Int)(T:List TxD)(S:List (List Zb))(k:Nat):Yt r T S k=r+Yt 0 T S k:=by unfold Yt;omega
theorem Zap{r:Int}{T:List TxD}{S:List (List Zb)}{k j:Nat}(s:List Zb)(h:k≤j):Yt r T (S.set j s) k=Yt r T S k:=by
 unfold Yt
 rw[List.take_set_of_le h]
def Wf(T:List TxD)(S:List (List Zb))(m k:Nat)(F:Int):Prop:=
 k<m→S.getD 0 []=[]∧F=Yt 0 T S (k+1)+Yc (T.getD 0 Wg).2.2∧-(6000000000*(k:Int))≤F∧F≤6000000000*(k:Int)
theorem Bf{T:List TxD}{m:Nat}(hT:T.length=m):Wf T (List.replicate m []) m 0 0:=by
 intro h
 refine⟨by simp[List.getD,h],?_,by omega,by omega⟩
 rw[Rb 0 T _ 0 (by omega) (by simp;omega),G2]
 simp[Zy,List.getD,hT,h]
 omega
theorem Lq{T:List TxD}{S:List (List Zb)}{m k:Nat}{F:Int}{s:List Zb}(hF:Wf T S m k F)(hk:k+1<m)(hT:T.length=m)(hS:S.length=m){t:TxD}(ht:T.getD (k+1) Wg=t)(b1 : -6000000000≤Zy s - Yc t.2.2)(b2:Zy s - Yc t.2.2≤6000000000):Wf T (S.set (k+1) s) m (k+1) (F+(Zy s - Yc t.2.2)):=by
 intro _
 obtain⟨h0,h1,h2,h3⟩:=hF (by omega)
 refine⟨?_,?_,by omega,by omega⟩
 ·rw[List.getD_eq_getElem?_getD,List.getElem?_set_ne (by omega),←List.getD_eq_getElem?_getD];exact h0
 ·rw[Rb 0 T _ (k+1) (by omega) (by rw[List.length_set];omega),Zap s (Nat.le_refl _)]
  have e1:(S.set (k+1) s)[k+1]'(by rw[List.length_set];omega)=s:=by simp
  have e2:T[k+1]'(by omega)=t:=by rw[←ht,List.getD_eq_getElem?_getD,List.getElem?_eq_getElem (by omega)];rfl
  rw[e1,e2]
  omega
theorem Zdz{T:List TxD}{S:List (List Zb)}{m k:Nat}{F r:Int}(hF:Wf T S m k F)(hk:k+1=m):Yt r T S m<0↔r+F<Yc (T.getD 0 Wg).2.2:=by
 obtain⟨_,h1,_,_⟩:=hF (by omega)
 rw[Zaq,←hk]
 omega
theorem Lr{T:List TxD}{S:List (List Zb)}{m:Nat}{F:Int}:Wf T S m m F:=fun h=>absurd h (Nat.lt_irrefl _)
theorem M9{T:List TxD}{S:List (List Zb)}{m k:Nat}{F:Int}(hF:Wf T S m k F)(hk:k<m)(hm:m≤4) : -24000000000≤F∧F≤24000000000:=by
 obtain⟨_,_,h2,h3⟩:=hF hk
 omega
theorem P4{O:List Z7}(h:O.length≤6)(hb:∀ x∈O,0≤x.1∧x.1≤1000000000):0≤Yc O∧Yc O≤6000000000:=by
 have:∀ (O:List Z7),(∀ x∈O,0≤x.1∧x.1≤1000000000)→0≤Yc O∧Yc O≤1000000000*(O.length:Int):=by
  intro O
  induction O with
  | nil=>intro _;simp[Yc]
  | cons a t ih=>
   intro hb
   have h1:=hb a (List.mem_cons_self ..)
   have h2:=ih (fun x hx=>hb x (List.mem_cons_of_mem _ hx))
   have e:Yc (a :: t)=a.1+Yc t:=by simp[Yc]
   rw[e,List.length_cons]
   omega
 have:=this O hb
 omega
theorem Ny{S:List Zb}(h:S.length≤6)(hb:∀ x∈S,0≤cv x∧cv x≤1000000000):0≤Zy S∧Zy S≤6000000000:=by
 have:∀ (O:List Zb),(∀ x∈O,0≤cv x∧cv x≤1000000000)→0≤Zy O∧Zy O≤1000000000*(O.length:Int):=by
  intro O
  induction O with
  | nil=>intro _;simp[Zy]
  | cons a t ih=>
   intro hb
   have h1:=hb a (List.mem_cons_self ..)
   have h2:=ih (fun x hx=>hb x (List.mem_cons_of_mem _ hx))
   have e:Zy (a :: t)=cv a+Zy t:=by simp[Zy]
   rw[e,List.length_cons]
   omega
 have:=this S hb
 omega
def CoS(g0:Nat)(W Y:World)(bx:Nat)(am:Option Addr)(nm cm:Nat)(M:List Zb)(sa:Option Addr)(ns cs:Nat)(s:List Zb):Prop:=
 Below W.heap.size W Y∧CoinsAt Y am nm M∧SlOk am nm cm∧CoinsAt Y sa ns s∧SlOk sa ns cs∧bx≠g0∧Y.heap[bx]? = some (.cells [.slice sa ns cs].toArray 68 (0,0))
theorem Ta{g0:Nat}{W w6:World}{bx:Nat}{am:Option Addr}{nm cm:Nat}{M:List Zb}{sa:Option Addr}{ns cs:Nat}{s:List Zb}(hb:Below W.heap.size W w6)(hbx:W.heap.size≤bx)(hg0:g0<W.heap.size)(hbox:w6.heap[bx]? = some (.cells [.slice none 0 0].toArray 68 (0,0)))(hM:CoinsAt w6 am nm M)(sM:SlOk am nm cm)(hS:CoinsAt w6 sa ns s)(sS:SlOk sa ns cs):CoS g0 W (w6.setCell ⟨bx,0,none⟩ (.slice sa ns cs)) bx am nm cm M sa ns cs s:=by
 have ok:UsOk 68 bx 1 w6:=⟨[.slice none 0 0],hbox,rfl,fun v hv=>by rw[List.mem_singleton.1 hv];exact⟨_,_,_,rfl⟩⟩
 have g:=(Gr.refl w6 (fun q=>q=bx)).one bx 0 (.inl rfl) (.slice sa ns cs)
 exact⟨hb.setCell hbx _,Xj hM ok g,sM,Xj hS ok g,sS,by omega,Ae hbox 0 _⟩
end Go.Proofs.YtepmnpapdknocaaGreatDoor
