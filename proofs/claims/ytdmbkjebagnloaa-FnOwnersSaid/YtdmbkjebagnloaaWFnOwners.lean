/-
  The walk of FnOwners.
-/
import Derived.Test.YtdmbkjebagnloaaVFnOwners
import Derived.Test.YtdmbkjebagnloaaImplRc1
namespace Go.Proofs.Ytdmbkjebagnloaa.fnOwners
open Go.RowKit Go.Proofs.Ytdmbkjebagnloaa.hexes
theorem walk (a0 : Option Addr) (len0 cap0 : Nat) (z0 : List Int) (w : World) (w0 : IsRow .u8 w a0 len0 cap0 z0) :
    Calls Try.prog 3 #[.slice a0 len0 cap0] w fun e w' => e = .returned (.bool true) ∧ Below w.heap.size w w' :=
  walk_of (fun a b _ hb W => (implOwner_any a b hb W).mono fun _ _ ⟨he, hw⟩ => ⟨he, hw ▸ Below.refl _ _⟩) a0 len0 cap0 z0 w w0
end Go.Proofs.Ytdmbkjebagnloaa.fnOwners
