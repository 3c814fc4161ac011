/- What doing and undoing a transaction makes of coins, in plain functions. Nothing of the program. -/
import Derived.Test.YtepmnpapdknocaaGreatDoorCoinMath
namespace Go.Proofs.YtepmnpapdknocaaGreatDoor

/-- In by in: what is wrong, what was spent, what is left. -/
def spendGo (h : Int) : List InD → List CoinD → List CoinD → Int × List CoinD × List CoinD
  | [], S, L => (0, S, L)
  | x :: r, S, L => match takeD (x.1, x.2.1) L with
    | none => (7, [], [])
    | some (c, M) => if cr c = true ∧ h < ch c + 2 then (10, [], []) else if opensB (ck c) x.2.2 h = false then (8, [], []) else spendGo h r (S ++ [c]) M
def newC (name : Int) (i : Nat) (o : OutD) (h : Int) (r : Bool) : CoinD := (name, (i : Int), o.1, o.2, h, r)
def giveGo (name h : Int) (r : Bool) : Nat → List OutD → List CoinD → Int × List CoinD
  | _, [], L => (0, L)
  | i, o :: q, L => if hasP (name, (i : Int)) L = true then (6, []) else giveGo name h r (i + 1) q (putC (newC name i o h r) L)
def backGo (name : Int) : Nat → List OutD → List CoinD → Int × List CoinD
  | _, [], L => (0, L)
  | i, o :: q, L => match takeD (name, (i : Int)) L with
    | none => (7, [])
    | some (c, M) => if (cv c, ck c) = o then backGo name (i + 1) q M else (7, [])
def putbGo : List InD → List CoinD → List CoinD → Int × List CoinD
  | x :: r, c :: q, L => if pt c ≠ (x.1, x.2.1) ∨ hasP (pt c) L = true then (6, []) else putbGo r q (putC c L)
  | _, _, L => (0, L)

def okN (n : Int) : Bool := decide (1 ≤ n) && decide (n ≤ 120)
def isR (t : TxD) : Bool := decide (t.2.1.length = 0)
def ckBoth (L : List CoinD) (t : TxD) : Int := if ckCoins L ≠ 0 then ckCoins L else chkTx t
def ckApply (L : List CoinD) (t : TxD) (name h : Int) : Int :=
  if ckBoth L t ≠ 0 then ckBoth L t else if (okN name && okH h) = false then 3 else if isR t = true ∧ t.1 ≠ h then 4 else 0
def covD (S : List CoinD) (t : TxD) : Int := if sumC S - sumO t.2.2 < 0 ∧ isR t = false then 9 else 0
/-- What is wrong, what comes, what was spent. -/
def apD (L : List CoinD) (t : TxD) (name h : Int) : Int × List CoinD × List CoinD :=
  if ckApply L t name h ≠ 0 then (ckApply L t name h, [], [])
  else
    if (spendGo h t.2.1 [] L).1 ≠ 0 then ((spendGo h t.2.1 [] L).1, [], [])
    else if covD (spendGo h t.2.1 [] L).2.1 t ≠ 0 then (covD (spendGo h t.2.1 [] L).2.1 t, [], [])
    else if (giveGo name h (isR t) 0 t.2.2 (spendGo h t.2.1 [] L).2.2).1 ≠ 0 then ((giveGo name h (isR t) 0 t.2.2 (spendGo h t.2.1 [] L).2.2).1, [], [])
    else if ckCoins (giveGo name h (isR t) 0 t.2.2 (spendGo h t.2.1 [] L).2.2).2 ≠ 0 then (ckCoins (giveGo name h (isR t) 0 t.2.2 (spendGo h t.2.1 [] L).2.2).2, [], [])
    else (0, (giveGo name h (isR t) 0 t.2.2 (spendGo h t.2.1 [] L).2.2).2, (spendGo h t.2.1 [] L).2.1)
def rvD (L : List CoinD) (t : TxD) (name : Int) (S : List CoinD) : Int × List CoinD :=
  if ckBoth L t ≠ 0 then (ckBoth L t, [])
  else if S.length ≠ t.2.1.length then (4, [])
  else if (backGo name 0 t.2.2 L).1 ≠ 0 then ((backGo name 0 t.2.2 L).1, [])
  else if (putbGo t.2.1 S (backGo name 0 t.2.2 L).2).1 ≠ 0 then ((putbGo t.2.1 S (backGo name 0 t.2.2 L).2).1, [])
  else if ckCoins (putbGo t.2.1 S (backGo name 0 t.2.2 L).2).2 ≠ 0 then (ckCoins (putbGo t.2.1 S (backGo name 0 t.2.2 L).2).2, [])
  else (0, (putbGo t.2.1 S (backGo name 0 t.2.2 L).2).2)

end Go.Proofs.YtepmnpapdknocaaGreatDoor
