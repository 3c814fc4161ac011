import Derived.Test.YtpikejjiignchaaGreatDoorG2
namespace Go.Proofs.YtpikejjiignchaaGreatDoor
open Go.RowKit
theorem Zjk(w:World)(a:Option Addr):OpsAt w a 0 []:=⟨rfl,fun h=>absurd h (by omega)⟩
def flat:List (Int×Int)→List Value
 | []=>[]
 | o :: r=>.int .i64 o.1 :: .int .i64 o.2 :: flat r
theorem Ws:∀ l:List (Int×Int),(flat l).length=l.length*2
 | []=>rfl
 | _ :: r=>by simp only[flat,List.length_cons,Ws r];omega
theorem Gt:∀ l m:List (Int×Int),flat (l++m)=flat l++flat m
 | [],_=>rfl
 | _ :: r,m=>by simp only[List.cons_append,flat,Gt r m]
theorem Jj:∀ (l:List (Int×Int)) (i:Nat),i<l.length→(flat l)[i*2]? = some (.int .i64 (l.getD i (0,0)).1)∧(flat l)[i*2+1]? = some (.int .i64 (l.getD i (0,0)).2)
 | [],i,h=>absurd h (by simp)
 | o :: r,0,_=>⟨rfl,rfl⟩
 | o :: r,i+1,h=>by
  have:=Jj r i (by simpa using h)
  have e:(i+1)*2=i*2+2:=by omega
  rw[e]
  exact this
theorem Qv:∀ (l:List (Int×Int)) (u:Value),u∈flat l→u.oneCell'=true
 | [],_,h=>by cases h
 | o :: r,u,h=>by
  simp only[flat,List.mem_cons] at h
  rcases h with rfl|rfl|h
  ·rfl
  ·rfl
  ·exact Qv r u h
theorem OpsAt.flat{w:World}{x:Addr}{len:Nat}{l:List (Int×Int)}(h:OpsAt w (some x) len l)(j:Nat)(u:Value)(hj:(flat l)[j]? = some u):w.cell? (x.add j)=some u:=by
 have hjl:j<(YtpikejjiignchaaGreatDoor.flat l).length:=by
  rcases Nat.lt_or_ge j (YtpikejjiignchaaGreatDoor.flat l).length with h|h
  ·exact h
  ·rw[List.getElem?_eq_none h] at hj;cases hj
 rw[Ws] at hjl
 have hz:=h.1
 obtain⟨b,off,hx,hc⟩:=h.2 (by omega)
 cases hx
 have hadd:(⟨b,off,none⟩:Addr).add j=⟨b,off+j,none⟩:=by unfold Addr.add;split <;> simp_all
 rw[hadd]
 obtain⟨i,hi|hi⟩:∃ i,j=i*2∨j=i*2+1:=⟨j / 2,by omega⟩
 ·subst hi
  have f:=(Jj l i (by omega)).1
  rw[f] at hj
  rw[(hc i (by omega)).1];exact hj
 ·subst hi
  have f:=(Jj l i (by omega)).2
  rw[f] at hj
  rw[←Nat.add_assoc,(hc i (by omega)).2];exact hj
theorem Ku{w:World}{base:Nat}{e:TypeId}{v:Value}{n:Nat}{l:List (Int×Int)}(h:w.ownsRow base e 2 v n (flat l)):∃ a cap,v = .slice a n cap∧OpsAt w a n l:=by
 have hl:l.length=n:=by have:=h.1;rw[Ws] at this;omega
 rcases h.2 with ⟨rfl,rfl⟩|⟨g,cap,cur,rfl,_,_,_,_,_,_⟩
 ·have e:l=[]:=List.length_eq_zero_iff.1 hl
  subst e
  exact⟨none,0,rfl,Zjk _ _⟩
 ·refine⟨_,cap,rfl,hl,fun _=>⟨g,0,rfl,fun i hi=>?_⟩⟩
  have f:=Jj l i (by omega)
  rw[Nat.zero_add,World.ownsRow.cellAt h (i*2) (by omega),World.ownsRow.cellAt h (i*2+1) (by omega)]
  exact f
theorem Ut{w:World}{base:Nat}{e:TypeId}{size:Nat}{v:Value}{n:Nat}{xs:List Value}(h:w.ownsRow base e size v n xs)(k:Nat)(hk:v.ownBlock=some k):base≤k:=by
 rcases h.2 with ⟨rfl,_⟩|⟨g,cap,cur,rfl,hg,_⟩
 ·cases hk
 ·cases hk;exact hg
end Go.Proofs.YtpikejjiignchaaGreatDoor
