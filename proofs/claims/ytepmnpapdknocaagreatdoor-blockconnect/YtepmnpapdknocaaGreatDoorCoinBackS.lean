/- But for rewards nothing is made: in plain functions. Nothing of the program. -/
import Derived.Test.YtepmnpapdknocaaGreatDoorCoinBackM
namespace Go.Proofs.YtepmnpapdknocaaGreatDoor

theorem sum_put {c : CoinD} {L : List CoinD} (hs : Srt L) (hn : hasP (pt c) L = false) : sumC (putC c L) = cv c + sumC L := by
  rw [putC_at hs hn, sumC_append, sumC_cons]
  have : sumC L = sumC (L.take (pos (pt c) L)) + sumC (L.drop (pos (pt c) L)) := by rw [← sumC_append, List.take_append_drop]
  omega
theorem giveGo_sum (name h : Int) (r : Bool) : ∀ (O : List OutD) (i : Nat) (L M : List CoinD), Srt L → giveGo name h r i O L = (0, M) → sumC M = sumC L + sumO O
  | [], i, L, M, hs, e => by
    unfold giveGo at e
    injection e with _ e
    subst e
    simp [sumO]
  | o :: q, i, L, M, hs, e => by
    unfold giveGo at e
    split at e
    · injection e with e _; cases e
    · rename_i hf
      have hf' : hasP (pt (newC name i o h r)) L = false := by simpa [newC, pt] using hf
      have h1 := giveGo_sum name h r q (i + 1) _ M (putC_srt hs) e
      rw [sum_put hs hf'] at h1
      have h2 : cv (newC name i o h r) = o.1 := rfl
      have h3 : sumO (o :: q) = o.1 + sumO q := by simp [sumO]
      rw [h1, h2, h3]
      omega
end Go.Proofs.YtepmnpapdknocaaGreatDoor
