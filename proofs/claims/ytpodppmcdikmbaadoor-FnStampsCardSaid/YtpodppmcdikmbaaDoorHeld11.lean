/-
  What FnStamps's last statement reads, and that it stands behind a call.
-/
import Derived.Test.YtpodppmcdikmbaaDoorStamps
namespace Go.Proofs.YtpodppmcdikmbaaDoor.fnStamps
open Go.RowKit Go.Proofs.YtpodppmcdikmbaaDoor.hexes

structure Held11 (w : World) (gA gB gM gJ gN : Nat) (x y u v m0 m1 j0 j1 ny : Int) (w' : World) : Prop where
  c0 : w'.cell? ⟨gA, 0, none⟩ = some (.int .i64 x)
  c1 : w'.cell? ⟨gA, 1, none⟩ = some (.int .i64 y)
  c2 : w'.cell? ⟨gB, 0, none⟩ = some (.int .i64 u)
  c3 : w'.cell? ⟨gB, 1, none⟩ = some (.int .i64 v)
  c4 : w'.cell? ⟨gM, 0, none⟩ = some (.int .i64 m0)
  c5 : w'.cell? ⟨gM, 1, none⟩ = some (.int .i64 m1)
  c6 : w'.cell? ⟨gJ, 0, none⟩ = some (.int .i64 j0)
  c7 : w'.cell? ⟨gJ, 1, none⟩ = some (.int .i64 j1)
  c8 : w'.cell? ⟨gN, 0, none⟩ = some (.int .i64 x)
  c9 : w'.cell? ⟨gN, 1, none⟩ = some (.int .i64 ny)
  b : Below w.heap.size w w'

theorem Held11.drew {w : World} {gA gB gM gJ gN : Nat} {x y u v m0 m1 j0 j1 ny : Int} {w' : World} (h : Held11 w gA gB gM gJ gN x y u v m0 m1 j0 j1 ny w') : Held11 w gA gB gM gJ gN x y u v m0 m1 j0 j1 ny w'.drew :=
  ⟨h.c0, h.c1, h.c2, h.c3, h.c4, h.c5, h.c6, h.c7, h.c8, h.c9, h.b.drew⟩
theorem Held11.below {w : World} {gA gB gM gJ gN : Nat} {x y u v m0 m1 j0 j1 ny : Int} {w' w2 : World} (h : Held11 w gA gB gM gJ gN x y u v m0 m1 j0 j1 ny w') (hb : Below w'.heap.size w' w2) : Held11 w gA gB gM gJ gN x y u v m0 m1 j0 j1 ny w2 :=
  ⟨below_keep hb h.c0, below_keep hb h.c1, below_keep hb h.c2, below_keep hb h.c3, below_keep hb h.c4, below_keep hb h.c5, below_keep hb h.c6, below_keep hb h.c7, below_keep hb h.c8, below_keep hb h.c9, below_chain h.b hb⟩
end Go.Proofs.YtpodppmcdikmbaaDoor.fnStamps
