/-
  The walk of FnExactStampJoin.
-/
import Derived.Test.YtpodppmcdikmbaaStamps
import Derived.Deep.RegionHeld3
import Derived.Deep.DeepCutAuto
namespace Go.Proofs.Ytpodppmcdikmbaa.fnExactStampJoin
open Go.RowKit Go.Proofs.Ytpodppmcdikmbaa.hexes

theorem walk (x y : Int) (_ : (Lit.int .i64 x).wf = true) (_ : (Lit.int .i64 y).wf = true) (u v : Int) (_ : (Lit.int .i64 u).wf = true) (_ : (Lit.int .i64 v).wf = true) (w : World) :
    Calls Try.prog 7 #[.agg #[.int .i64 x, .int .i64 y], .agg #[.int .i64 u, .int .i64 v]] w fun e w' => e = .returned (.bool true) ∧ Below w.heap.size w w' := by
  go_enter Try.func7, Try.ntmps7
  go_upto_region 2 with fail
  generalize hW : (w.alloc _).alloc _ = W
  have c0 : W.cell? ⟨w.heap.size, 0, none⟩ = some (.int .i64 x) := by rw [← hW]; exact alloc_keep (by simp)
  have c1 : W.cell? ⟨w.heap.size, 1, none⟩ = some (.int .i64 y) := by rw [← hW]; exact alloc_keep (by simp)
  have c2 : W.cell? ⟨w.heap.size + 1, 0, none⟩ = some (.int .i64 u) := by rw [← hW]; simp
  have c3 : W.cell? ⟨w.heap.size + 1, 1, none⟩ = some (.int .i64 v) := by rw [← hW]; simp
  go_cut [5] (fun t wx => ∃ g, t = .pointer (some ⟨g, 0, none⟩) ∧ wx.cell? ⟨g, 0, none⟩ = some (.int .i64 (max x u)) ∧ wx.cell? ⟨g, 1, none⟩ = some (.int .i64 (max y v)) ∧ g < wx.heap.size ∧ Below W.heap.size W wx)
  case first =>
    clear hW
    go_region_held3 (fun w' => w'.cell? ⟨w.heap.size, 0, none⟩ = some (.int .i64 x) ∧ w'.cell? ⟨w.heap.size, 1, none⟩ = some (.int .i64 y) ∧ w'.cell? ⟨w.heap.size + 1, 0, none⟩ = some (.int .i64 u) ∧ w'.cell? ⟨w.heap.size + 1, 1, none⟩ = some (.int .i64 v))
      ((refine ⟨?_, ?_, ?_, ?_⟩ <;> (repeat (first | with_reducible assumption | with_reducible refine drew_keep ?_ | with_reducible refine alloc_keep ?_))))
      (first | (go_at_call 16; refine (toStamp_at _ _ _).mono ?_; rintro e w1 ⟨rfl, rfl⟩) | (go_at_call 22; refine (specJoin_at _ _ _ _ _).mono ?_; rintro e w1 ⟨rfl, rfl⟩))
    all_goals (
      go_wp2_with fail
      go_meet
      refine ⟨_, rfl, ?_, ?_, by simp; try omega, ?_⟩
      · repeat (first | with_reducible assumption | with_reducible refine drew_keep ?_ | with_reducible exact alloc_cells (by first | (simp; done) | (simp; omega)) rfl | with_reducible refine alloc_keep ?_)
      · repeat (first | with_reducible assumption | with_reducible refine drew_keep ?_ | with_reducible exact alloc_cells (by first | (simp; done) | (simp; omega)) rfl | with_reducible refine alloc_keep ?_)
      · repeat (first | with_reducible exact Below.refl _ _ | with_reducible refine Below.drew ?_ | (with_reducible refine Below.alloc ?_ (by simp; try omega) _)))
  case rest =>
  obtain ⟨g, rfl, d0, d1, hg, hb⟩ := hcut
  replace c0 := below_keep hb c0
  replace c1 := below_keep hb c1
  replace c2 := below_keep hb c2
  replace c3 := below_keep hb c3
  have B1 := Lib.hid hb
  have D0 := Lib.hid d0
  have D1 := Lib.hid d1
  clear hb d0 d1
  go_upto_region 3 with fail
  go_cut [6] (fun t wx => ∃ g, t = .pointer (some ⟨g, 0, none⟩) ∧ wx.cell? ⟨g, 0, none⟩ = some (.int .i64 (max x u)) ∧ wx.cell? ⟨g, 1, none⟩ = some (.int .i64 (max y v)) ∧ g < wx.heap.size ∧ Below wc.heap.size wc wx)
  case first =>
    go_region_held3 (fun w' => w'.cell? ⟨w.heap.size, 0, none⟩ = some (.int .i64 x) ∧ w'.cell? ⟨w.heap.size, 1, none⟩ = some (.int .i64 y) ∧ w'.cell? ⟨w.heap.size + 1, 0, none⟩ = some (.int .i64 u) ∧ w'.cell? ⟨w.heap.size + 1, 1, none⟩ = some (.int .i64 v))
      ((refine ⟨?_, ?_, ?_, ?_⟩ <;> (repeat (first | with_reducible assumption | with_reducible refine drew_keep ?_ | with_reducible refine alloc_keep ?_))))
      (first | (go_at_call 16; refine (toStamp_at _ _ _).mono ?_; rintro e w1 ⟨rfl, rfl⟩) | (go_at_call 14; refine (implJoin_at _ _ _ _ _).mono ?_; rintro e w1 ⟨rfl, rfl⟩))
    all_goals (
      go_wp2_with fail
      go_meet
      refine ⟨_, rfl, ?_, ?_, by simp; try omega, ?_⟩
      · repeat (first | with_reducible assumption | with_reducible refine drew_keep ?_ | with_reducible exact alloc_cells (by first | (simp; done) | (simp; omega)) rfl | with_reducible refine alloc_keep ?_)
      · repeat (first | with_reducible assumption | with_reducible refine drew_keep ?_ | with_reducible exact alloc_cells (by first | (simp; done) | (simp; omega)) rfl | with_reducible refine alloc_keep ?_)
      · repeat (first | with_reducible exact Below.refl _ _ | with_reducible refine Below.drew ?_ | (with_reducible refine Below.alloc ?_ (by simp; try omega) _)))
  case rest =>
  obtain ⟨g2, rfl, e0, e1, hg2, hb⟩ := hcut
  have d0 := below_keep hb D0.out
  have d1 := below_keep hb D1.out
  have hB : Below w.heap.size w W := by rw [← hW]; exact ((Below.refl _ _).alloc (by simp) _).alloc (by simp) _
  have B2 := Lib.hid (hB.trans ((B1.out.trans (hb.mono B1.out.size)).mono hB.size))
  clear hb hB B1 D0 D1 c0 c1 c2 c3 hW
  go_wp2_with (go_at_call 21; refine (eqStamp_any _ _ _ _ _).mono ?_; rintro e w1 ⟨rfl, hb⟩)
  go_ret
  exact ⟨rfl, B2.out.trans (hb.mono B2.out.size)⟩
end Go.Proofs.Ytpodppmcdikmbaa.fnExactStampJoin
