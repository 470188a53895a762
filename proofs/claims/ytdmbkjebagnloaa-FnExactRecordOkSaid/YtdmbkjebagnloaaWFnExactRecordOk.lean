/-
  The walk of FnExactRecordOk.
-/
import Derived.Test.YtdmbkjebagnloaaVFnExactRecordOk
import Derived.Test.YtdmbkjebagnloaaImplRc1
import Derived.Test.YtdmbkjebagnloaaRcCame
namespace Go.Proofs.Ytdmbkjebagnloaa.fnExactRecordOk
open Go.RowKit Go.Proofs.Ytdmbkjebagnloaa.hexes

theorem walk (p0 p1 p2 p3 p4 : Int) (wp0 : (Lit.int .i64 p0).wf = true) (wp1 : (Lit.int .i64 p1).wf = true) (wp2 : (Lit.int .i64 p2).wf = true) (wp3 : (Lit.int .i64 p3).wf = true) (wp4 : (Lit.int .i64 p4).wf = true) (w : World) :
    Calls Try.prog 4 #[.agg #[.int .i64 p0, .int .i64 p1, .int .i64 p2, .int .i64 p3, .int .i64 p4]] w fun e w' => e = .returned (.bool true) ∧ Below w.heap.size w w' :=
  walk_of p0 p1 p2 p3 p4 wp0 wp1 wp2 wp3 wp4 w (fun W => implRcOk_any p0 p1 p2 p3 p4 W)
end Go.Proofs.Ytdmbkjebagnloaa.fnExactRecordOk
