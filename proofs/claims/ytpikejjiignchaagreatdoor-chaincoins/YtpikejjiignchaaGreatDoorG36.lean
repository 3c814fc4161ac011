import Derived.Test.YtpikejjiignchaaGreatDoorG35
namespace Go.Proofs.YtpikejjiignchaaGreatDoor
open Go.RowKit
theorem G5(a:Option Addr)(n c:Nat)(L:List Zf)(h:Int)(ai ao:Option Addr)(ni ci no co:Nat)(I:List InD)(O:List Yc)(name ht:Int)(x:Int)(M S:List Zf)(w:World)(hL:CoinsAt w a n L)(sL:SlOk a n c)(hI:InsAt w ai ni I)(hO:OutsAt w ao no O)(hRC:Ye L)(hTx:Zo (h,I,O)=0)(hx:apD L (h,I,O) name ht=(x,M,S)) :
  Calls Tryz.prog 60 #[.slice a n c,.agg #[.int .i64 h,.slice ai ni ci,.slice ao no co],.int .i64 name,.int .i64 ht] w fun e w'=>ApR w w' x M S e:=by
 by_cases n1:name<1
 ·exact Zbd a n c L h ai ao ni ci no co I O name ht x M S w hRC hTx hx n1
 by_cases n2:120<name
 ·exact Zbc a n c L h ai ao ni ci no co I O name ht x M S w hRC hTx hx n1 n2
 by_cases n3:ht<1
 ·exact Zbb a n c L h ai ao ni ci no co I O name ht x M S w hRC hTx hx n1 n2 n3
 by_cases n4:1000<ht
 ·exact Zba a n c L h ai ao ni ci no co I O name ht x M S w hRC hTx hx n1 n2 n3 n4
 by_cases hr:ni=0
 ·by_cases hh:h=ht
  ·exact Zeo a n c L h ai ao ni ci no co I O name ht x M S w hL sL hI hO hRC hTx hx n1 n2 n3 n4 hr hh
  ·exact Zaz a n c L h ai ao ni ci no co I O name ht x M S w hI hRC hTx hx n1 n2 n3 n4 hr hh
 ·exact Zep a n c L h ai ao ni ci no co I O name ht x M S w hL sL hI hO hRC hTx hx n1 n2 n3 n4 hr
theorem Zdz(r:Int)(T:List TxD)(S:List (List Zf))(k:Nat):Y5 r T S k=r+Y5 0 T S k:=by unfold Y5;omega
theorem Zdy{r:Int}{T:List TxD}{S:List (List Zf)}{k j:Nat}(s:List Zf)(h:k≤j):Y5 r T (S.set j s) k=Y5 r T S k:=by
 unfold Y5
 rw[List.take_set_of_le h]
def Uz(T:List TxD)(S:List (List Zf))(m k:Nat)(F:Int):Prop:=
 k<m→S.getD 0 []=[]∧F=Y5 0 T S (k+1)+Yi (T.getD 0 Uc).2.2∧-(6000000000*(k:Int))≤F∧F≤6000000000*(k:Int)
theorem Zai{T:List TxD}{m:Nat}(hT:T.length=m):Uz T (List.replicate m []) m 0 0:=by
 intro h
 refine⟨by simp[List.getD,h],?_,by omega,by omega⟩
 rw[Ti 0 T _ 0 (by omega) (by simp;omega),Lc]
 simp[Z6,List.getD,hT,h]
 omega
theorem Zee{T:List TxD}{S:List (List Zf)}{m k:Nat}{F:Int}{s:List Zf}(hF:Uz T S m k F)(hk:k+1<m)(hT:T.length=m)(hS:S.length=m){t:TxD}(ht:T.getD (k+1) Uc=t)(b1 : -6000000000≤Z6 s - Yi t.2.2)(b2:Z6 s - Yi t.2.2≤6000000000):Uz T (S.set (k+1) s) m (k+1) (F+(Z6 s - Yi t.2.2)):=by
 intro _
 obtain⟨h0,h1,h2,h3⟩:=hF (by omega)
 refine⟨?_,?_,by omega,by omega⟩
 ·rw[List.getD_eq_getElem?_getD,List.getElem?_set_ne (by omega),←List.getD_eq_getElem?_getD];exact h0
 ·rw[Ti 0 T _ (k+1) (by omega) (by rw[List.length_set];omega),Zdy s (Nat.le_refl _)]
  have e1:(S.set (k+1) s)[k+1]'(by rw[List.length_set];omega)=s:=by simp
  have e2:T[k+1]'(by omega)=t:=by rw[←ht,List.getD_eq_getElem?_getD,List.getElem?_eq_getElem (by omega)];rfl
  rw[e1,e2]
  omega
theorem Zhr{T:List TxD}{S:List (List Zf)}{m k:Nat}{F r:Int}(hF:Uz T S m k F)(hk:k+1=m):Y5 r T S m<0↔r+F<Yi (T.getD 0 Uc).2.2:=by
 obtain⟨_,h1,_,_⟩:=hF (by omega)
 rw[Zdz,←hk]
 omega
theorem Zef{T:List TxD}{S:List (List Zf)}{m:Nat}{F:Int}:Uz T S m m F:=fun h=>absurd h (Nat.lt_irrefl _)
theorem Zcg{T:List TxD}{S:List (List Zf)}{m k:Nat}{F:Int}(hF:Uz T S m k F)(hk:k<m)(hm:m≤4) : -24000000000≤F∧F≤24000000000:=by
 obtain⟨_,_,h2,h3⟩:=hF hk
 omega
theorem Af{O:List Yc}(h:O.length≤6)(hb:∀ x∈O,0≤x.1∧x.1≤1000000000):0≤Yi O∧Yi O≤6000000000:=by
 have:∀ (O:List Yc),(∀ x∈O,0≤x.1∧x.1≤1000000000)→0≤Yi O∧Yi O≤1000000000*(O.length:Int):=by
  intro O
  induction O with
  | nil=>intro _;simp[Yi]
  | cons a t ih=>
   intro hb
   have h1:=hb a (List.mem_cons_self ..)
   have h2:=ih (fun x hx=>hb x (List.mem_cons_of_mem _ hx))
   have e:Yi (a :: t)=a.1+Yi t:=by simp[Yi]
   rw[e,List.length_cons]
   omega
 have:=this O hb
 omega
theorem Zfj{S:List Zf}(h:S.length≤6)(hb:∀ x∈S,0≤cv x∧cv x≤1000000000):0≤Z6 S∧Z6 S≤6000000000:=by
 have:∀ (O:List Zf),(∀ x∈O,0≤cv x∧cv x≤1000000000)→0≤Z6 O∧Z6 O≤1000000000*(O.length:Int):=by
  intro O
  induction O with
  | nil=>intro _;simp[Z6]
  | cons a t ih=>
   intro hb
   have h1:=hb a (List.mem_cons_self ..)
   have h2:=ih (fun x hx=>hb x (List.mem_cons_of_mem _ hx))
   have e:Z6 (a :: t)=cv a+Z6 t:=by simp[Z6]
   rw[e,List.length_cons]
   omega
 have:=this S hb
 omega
def CoS(g0:Nat)(W Y:World)(bx:Nat)(am:Option Addr)(nm cm:Nat)(M:List Zf)(sa:Option Addr)(ns cs:Nat)(s:List Zf):Prop:=
 Below W.heap.size W Y∧CoinsAt Y am nm M∧SlOk am nm cm∧CoinsAt Y sa ns s∧SlOk sa ns cs∧bx≠g0∧Y.heap[bx]? = some (.cells [.slice sa ns cs].toArray 130 (0,0))
theorem Cj{g0:Nat}{W w6:World}{bx:Nat}{am:Option Addr}{nm cm:Nat}{M:List Zf}{sa:Option Addr}{ns cs:Nat}{s:List Zf}(hb:Below W.heap.size W w6)(hbx:W.heap.size≤bx)(hg0:g0<W.heap.size)(hbox:w6.heap[bx]? = some (.cells [.slice none 0 0].toArray 130 (0,0)))(hM:CoinsAt w6 am nm M)(sM:SlOk am nm cm)(hS:CoinsAt w6 sa ns s)(sS:SlOk sa ns cs):CoS g0 W (w6.setCell ⟨bx,0,none⟩ (.slice sa ns cs)) bx am nm cm M sa ns cs s:=by
 have ok:UsOk 130 bx 1 w6:=⟨[.slice none 0 0],hbox,rfl,fun v hv=>by rw[List.mem_singleton.1 hv];exact⟨_,_,_,rfl⟩⟩
 have g:=(Gr.refl w6 (fun q=>q=bx)).one bx 0 (.inl rfl) (.slice sa ns cs)
 exact⟨hb.setCell hbx _,Wh hM ok g,sM,Wh hS ok g,sS,by omega,Dn hbox 0 _⟩
end Go.Proofs.YtpikejjiignchaaGreatDoor
