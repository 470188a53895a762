/-
  The walk of FnCounts.
-/
import Derived.Test.YtiehpniogehkmaaVFnCounts
import Derived.Test.YtiehpniogehkmaaImplAdj
import Derived.Test.YtiehpniogehkmaaImplCt1
import Derived.Test.YtiehpniogehkmaaImplFrontOf
namespace Go.Proofs.Ytiehpniogehkmaa.hexes
open Go.RowKit

/-- The program's functions of chapter 4. -/
theorem implCt : ImplCt where
  adj W A n c zs x y nn hw h := implAdj_any n zs h.len A c h.nil x y nn hw W h.cts (by have := h.few; omega)
  add W A n c zs A' n' c' ys h h' := implAdd_any n n' zs ys h.len h'.len A A' c c' h.nil W h.cts h'.cts (by have := h.few; have := h'.few; omega)
  ok W A n c zs h := implCtOk_any n zs h.len A c W h.cts (by have := h.few; omega)
  cnt W A n c zs x y h := implCountAt_any n zs h.len A c x y W h.cts (by have := h.few; omega)
  total W A n c zs h := implTotal_any n zs h.len A c W h.cts (by have := h.few; omega)
  epoch W A n c zs x h := implEpoch_any n zs h.len A c x W h.cts (by have := h.few; omega)
  front W A n c zs h := implFrontOf_any n zs h.len A c W h.cts (by have := h.few; omega)
end Go.Proofs.Ytiehpniogehkmaa.hexes
namespace Go.Proofs.Ytiehpniogehkmaa.fnCounts
open Go.RowKit Go.Proofs.Ytiehpniogehkmaa.hexes

theorem walk (a0 : Option Addr) (len0 cap0 : Nat) (z0 : List Int) (w : World) (w0 : IsRow .u8 w a0 len0 cap0 z0) :
    Calls Try.prog 3 #[.slice a0 len0 cap0] w fun e w' => e = .returned (.bool true) ∧ Below w.heap.size w w' :=
  walk_of implCt a0 len0 cap0 z0 w w0
end Go.Proofs.Ytiehpniogehkmaa.fnCounts
