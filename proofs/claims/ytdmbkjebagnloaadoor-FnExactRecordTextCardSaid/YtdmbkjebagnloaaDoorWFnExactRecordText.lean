/-
  The walk of FnExactRecordText.
-/
import Derived.Test.YtdmbkjebagnloaaDoorVFnExactRecordText
import Derived.Test.YtdmbkjebagnloaaDoorRcCame
import Derived.OpenShut
namespace Go.Proofs.YtdmbkjebagnloaaDoor.fnExactRecordText
open Go.RowKit Go.Proofs.YtdmbkjebagnloaaDoor.hexes
theorem walk (a0f0 a0f1 a0f2 a0f3 a0f4 : Int) (w0f0 : (Lit.int .i64 a0f0).wf = true) (w0f1 : (Lit.int .i64 a0f1).wf = true) (w0f2 : (Lit.int .i64 a0f2).wf = true) (w0f3 : (Lit.int .i64 a0f3).wf = true) (w0f4 : (Lit.int .i64 a0f4).wf = true) (w : World) (hL : laidMet Tryd.prog Rows.fnExactRecordTextRow.laid w) :
    Calls Tryd.prog 3 #[.agg #[.int .i64 a0f0, .int .i64 a0f1, .int .i64 a0f2, .int .i64 a0f3, .int .i64 a0f4]] w fun e w' => e = .returned (.bool true) ∧ Below w.heap.size w w' :=
  walk_of a0f0 a0f1 a0f2 a0f3 a0f4 w0f0 w0f1 w0f2 w0f3 w0f4 w (pow10_head hL.tail.tail) (fun W hT => implRcText_any a0f0 a0f1 a0f2 a0f3 a0f4 (bounds_i64 w0f0) (bounds_i64 w0f1) (bounds_i64 w0f2) (bounds_i64 w0f3) (bounds_i64 w0f4) W hT)
end Go.Proofs.YtdmbkjebagnloaaDoor.fnExactRecordText
