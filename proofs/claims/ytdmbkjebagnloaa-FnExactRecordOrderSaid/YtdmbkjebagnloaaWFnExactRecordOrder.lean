/-
  The walk of FnExactRecordOrder.
-/
import Derived.Test.YtdmbkjebagnloaaVFnExactRecordOrder
import Derived.Test.YtdmbkjebagnloaaImplRcSort
import Derived.Test.YtdmbkjebagnloaaRcCame
namespace Go.Proofs.Ytdmbkjebagnloaa.fnExactRecordOrder
open Go.RowKit Go.Proofs.Ytdmbkjebagnloaa.hexes

theorem walk (p0 p1 p2 p3 p4 : Int) (_wp0 : (Lit.int .i64 p0).wf = true) (_wp1 : (Lit.int .i64 p1).wf = true) (_wp2 : (Lit.int .i64 p2).wf = true) (_wp3 : (Lit.int .i64 p3).wf = true) (_wp4 : (Lit.int .i64 p4).wf = true) (q0 q1 q2 q3 q4 : Int) (_wq0 : (Lit.int .i64 q0).wf = true) (_wq1 : (Lit.int .i64 q1).wf = true) (_wq2 : (Lit.int .i64 q2).wf = true) (_wq3 : (Lit.int .i64 q3).wf = true) (_wq4 : (Lit.int .i64 q4).wf = true) (w : World) :
    Calls Try.prog 5 #[.agg #[.int .i64 p0, .int .i64 p1, .int .i64 p2, .int .i64 p3, .int .i64 p4], .agg #[.int .i64 q0, .int .i64 q1, .int .i64 q2, .int .i64 q3, .int .i64 q4]] w fun e w' => e = .returned (.bool true) ∧ Below w.heap.size w w' :=
  walk_of p0 p1 p2 p3 p4 _wp0 _wp1 _wp2 _wp3 _wp4 q0 q1 q2 q3 q4 _wq0 _wq1 _wq2 _wq3 _wq4 w (fun W => (implRcOrd_at W p0 p1 p2 p3 p4 q0 q1 q2 q3 q4).mono fun _ _ h => ⟨h.1, h.2.below⟩)
end Go.Proofs.Ytdmbkjebagnloaa.fnExactRecordOrder
