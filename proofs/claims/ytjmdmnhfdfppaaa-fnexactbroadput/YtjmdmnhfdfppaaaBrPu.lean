/- A box put: both sides, whatever is asked. -/
import Derived.Test.YtjmdmnhfdfppaaaBrPS
import Derived.Test.YtjmdmnhfdfppaaaBrPN
import Derived.Test.YtjmdmnhfdfppaaaBrPI
namespace Go.Proofs.Ytjmdmnhfdfppaaa
open Go.RowKit
set_option linter.unusedVariables false
set_option linter.unusedSimpArgs false
theorem sPut_any (a : Option Addr) (n c : Nat) (U X : Nat → Int) (k : Nat) (w : World) (h : Flat w a (n * 5) U) (hc : n ≤ c) (hn : n ≤ 1048576) (hk : IsAt n U (X 0) k) (ha : ∃ b o, a = some ⟨b, o, none⟩) (N : Nat) (R : Nat → Int) (B : Bool) (hp : PutIs n U X k N R B) :
    Calls Try.prog 6 #[.agg #[.slice a n c], itemW X] w fun e w' => ∃ a' c', e = .returned (.tuple #[.agg #[.slice a' N c'], .bool B]) ∧ Out w w' a' N c' R := by
  rcases hp with ⟨hb, rfl, rfl⟩ | ⟨hb, hi, rfl, rfl, rfl⟩ | ⟨hb, hi, ht, rfl, rfl, rfl⟩ | ⟨hb, hi, ht, h24, rfl, rfl, rfl⟩ | ⟨hb, hi, ht, h24, rfl, rfl, rfl⟩
  · refine (sPut_r a n c U X k w h hc hn hk hb).mono ?_
    rintro e w' ⟨a', c', h1, h2⟩
    exact ⟨a', c', h1, h2 R⟩
  · exact sPut_i a N c _ X k w h hc hn hk hb hi
  · exact sPut_t a N c U X k w h hc hn hk hb hi ht
  · exact sPut_f a N c _ X k w h hc hn hk hb hi ht h24
  · exact sPut_n a n c U X k w h hc hn hk ha hb hi ht h24
theorem put_any (a : Option Addr) (n c : Nat) (U X : Nat → Int) (k : Nat) (w : World) (h : Flat w a (n * 5) U) (hc : n ≤ c) (hn : n ≤ 1048576) (hk : IsAt n U (X 0) k) (ha : ∃ b o, a = some ⟨b, o, none⟩) (N : Nat) (R : Nat → Int) (B : Bool) (hp : PutIs n U X k N R B) :
    Calls Try.prog 9 #[.agg #[.slice a n c], itemW X] w fun e w' => ∃ a' c', e = .returned (.tuple #[.agg #[.slice a' N c'], .bool B]) ∧ Out w w' a' N c' R := by
  rcases hp with ⟨hb, rfl, rfl⟩ | ⟨hb, hi, rfl, rfl, rfl⟩ | ⟨hb, hi, ht, rfl, rfl, rfl⟩ | ⟨hb, hi, ht, h24, rfl, rfl, rfl⟩ | ⟨hb, hi, ht, h24, rfl, rfl, rfl⟩
  · refine (put_r a n c U X k w h hc hn hk hb).mono ?_
    rintro e w' ⟨a', c', h1, h2⟩
    exact ⟨a', c', h1, h2 R⟩
  · exact put_i a N c _ X k w h hc hn hk hb hi
  · exact put_t a N c U X k w h hc hn hk ha hb hi ht
  · exact put_f a N c _ X k w h hc hn hk hb hi ht h24
  · exact put_n a n c U X k w h hc hn hk ha hb hi ht h24
end Go.Proofs.Ytjmdmnhfdfppaaa
