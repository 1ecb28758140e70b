/- What Check answers, purely. -/
import Derived.Test.YtnnhnihgeheahaaDoorBaseI
set_option linter.unusedSimpArgs false
set_option linter.unusedVariables false
namespace Go.Proofs.YtnnhnihgeheahaaDoor
open Go.RowKit

/-- What Check answers: the error and the place. -/
def checkN (z f : ByteArray) : Nat × Nat :=
  if 100 < z.size ∨ 100 < f.size then (1, 0) else match pZone z with
  | .error q => (2, q)
  | .ok _ => match pFields f with
    | .error q => (3, q)
    | .ok _ => (0, 0)
def CheckSaid (z f : ByteArray) (w : World) (e : Ending) (w' : World) : Prop :=
  Below w.heap.size w w' ∧ e = .returned (.tuple #[.int .i64 (checkN z f).1, .int .i64 (checkN z f).2])

theorem ret_two {a b c d : Int} (h1 : a = b) (h2 : c = d) : Ending.returned (.tuple #[.int .i64 a, .int .i64 c]) = .returned (.tuple #[.int .i64 b, .int .i64 d]) := by rw [h1, h2]

end Go.Proofs.YtnnhnihgeheahaaDoor
