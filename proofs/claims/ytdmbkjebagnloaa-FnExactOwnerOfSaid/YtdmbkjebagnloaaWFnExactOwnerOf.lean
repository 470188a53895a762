/-
  The walk of FnExactOwnerOf.
-/
import Derived.Test.YtdmbkjebagnloaaVFnExactOwnerOf
import Derived.Test.YtdmbkjebagnloaaImplRc1
namespace Go.Proofs.Ytdmbkjebagnloaa.fnExactOwnerOf
open Go.RowKit Go.Proofs.Ytdmbkjebagnloaa.hexes

theorem walk (a : Int) (wa : (Lit.int .i64 a).wf = true) (b : Int) (wb : (Lit.int .i64 b).wf = true) (w : World) :
    Calls Try.prog 10 #[.int .i64 a, .int .i64 b] w fun e w' => e = .returned (.bool true) ∧ Below w.heap.size w w' :=
  walk_of a wa b wb w (fun W => (implOwner_any a b wb W).mono fun _ _ ⟨he, hw⟩ => ⟨he, hw ▸ Below.refl _ _⟩)
end Go.Proofs.Ytdmbkjebagnloaa.fnExactOwnerOf
