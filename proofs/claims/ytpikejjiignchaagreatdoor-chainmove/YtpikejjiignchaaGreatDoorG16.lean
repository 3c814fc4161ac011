import Derived.Test.YtpikejjiignchaaGreatDoorG2
open Go.IntKind renaming i64->J
open Go.Value renaming int->E,slice->F
namespace Go.Proofs.YtpikejjiignchaaGreatDoor
open Go.RowKit
theorem Zof(w)(a):OpsAt w a 0 []:=⟨rfl,λh=>absurd h (by omega)⟩
def flat:List (Int×Int)->List Value
 | []=>[]
 | o :: r=>E J o.1 :: E J o.2 :: flat r
theorem Vf:∀ l:List (Int×Int),(flat l).length=l.length*2
 | []=>rfl
 | _ :: r=>by simp only[flat,List.length_cons,Vf r];omega
theorem Kz:∀ l m:List (Int×Int),flat (l++m)=flat l++flat m
 | [],_=>rfl
 | _ :: r,m=>by simp only[List.cons_append,flat,Kz r m]
theorem Ru:∀ (l:List (Int×Int)) (i:Nat),i<l.length->(flat l)[i*2]? = some (E J (l.getD i (0,0)).1)/\(flat l)[i*2+1]? = some (E J (l.getD i (0,0)).2)
 | [],i,h=>absurd h (by simp)
 | o :: r,0,_=>⟨rfl,rfl⟩
 | o :: r,i+1,h=>by
  have:=Ru r i (by simpa using h);have e:(i+1)*2=i*2+2:=by omega
  rw[e];exact this
theorem J4:∀ (l:List (Int×Int)) (u:Value),u∈flat l->u.oneCell'=true
 | [],_,h=>by cases h
 | o :: r,u,h=>by
  simp only[flat,List.mem_cons] at h
  rcases h with rfl|rfl|h
  ·rfl
  ·rfl
  ·exact J4 r u h
theorem OpsAt.flat{w:World}{x:Addr}{len:Nat}{l}(h:OpsAt w (some x) len l)(j:Nat)(u)(z:(flat l)[j]? = some u):w.cell? (x.add j)=some u:=by
 have ab:j<(YtpikejjiignchaaGreatDoor.flat l).length:=by
  rcases Nat.lt_or_ge j (YtpikejjiignchaaGreatDoor.flat l).length with h|h
  ·exact h
  ·rw[List.getElem?_eq_none h] at z;cases z
 rw[Vf] at ab;have hz:=h.1;obtain⟨b,off,hx,O⟩:=h.2 (by omega);cases hx;have aa:(⟨b,off,none⟩:Addr).add j=⟨b,off+j,none⟩:=by unfold Addr.add;split <;> simp_all
 rw[aa];obtain⟨i,hi|hi⟩:∃ i,j=i*2\/j=i*2+1:=⟨j / 2,by omega⟩
 ·subst hi;have f:=(Ru l i (by omega)).1;rw[f] at z;rw[(O i (by omega)).1];exact z
 ·subst hi;have f:=(Ru l i (by omega)).2;rw[f] at z;rw[<-Nat.add_assoc,(O i (by omega)).2];exact z
theorem Nj{w:World}{base:Nat}{e:TypeId}{v}{n:Nat}{l}(h:w.ownsRow base e 2 v n (flat l)):∃ a cap,v = F a n cap/\OpsAt w a n l:=by
 have z:l.length=n:=by have:=h.1;rw[Vf] at this;omega
 rcases h.2 with ⟨rfl,rfl⟩|⟨g,cap,O,rfl,_,_,_,_,_,_⟩
 ·have e:l=[]:=List.length_eq_zero_iff.1 z;subst e;exact⟨none,0,rfl,Zof _ _⟩
 ·refine⟨_,cap,rfl,z,λ_=>⟨g,0,rfl,λi hi=>?_⟩⟩;have f:=Ru l i (by omega);rw[Nat.zero_add,World.ownsRow.cellAt h (i*2) (by omega),World.ownsRow.cellAt h (i*2+1) (by omega)];exact f
theorem Qr{w:World}{base:Nat}{e:TypeId}{size:Nat}{v:Value}{n:Nat}{xs}(h:w.ownsRow base e size v n xs)(k:Nat)(z:v.ownBlock=some k):base<=k:=by
 rcases h.2 with ⟨rfl,_⟩|⟨g,cap,aa,rfl,O,_⟩
 ·cases z
 ·cases z;exact O
