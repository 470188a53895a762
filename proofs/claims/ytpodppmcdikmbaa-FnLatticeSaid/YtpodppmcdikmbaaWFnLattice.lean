/-
  The walk of FnLattice.
-/
import Derived.Test.YtpodppmcdikmbaaCame
import Derived.Test.YtpodppmcdikmbaaDrawTwo
import Derived.Deep.RegionHeld3
import Derived.Laws.AppendOwnNone
import Derived.Deep.DeepCutAuto
namespace Go.Proofs.Ytpodppmcdikmbaa.fnLattice
open Go.RowKit Go.Proofs.Ytpodppmcdikmbaa.hexes

theorem u8info : (Try.prog.info? 5).map (fun i => (i.zero, i.size, i.bytes)) = some (some (.int .u8 0), 1, 1) := by kernel_rfl

/-- The meets and joins of three stamps, as this law asks for them. -/
structure Lat (x y u v p q m0 m1 j0 j1 t0 t1 n0 n1 k0 k1 s0 s1 : Int) : Prop where
  M1 : ∀ W : World, Calls Try.prog 13 #[.agg #[.int .i64 x, .int .i64 y], .agg #[.int .i64 u, .int .i64 v]] W fun e w' => e = .returned (.agg #[.int .i64 m0, .int .i64 m1]) ∧ Below W.heap.size W w'
  M2 : ∀ W : World, Calls Try.prog 13 #[.agg #[.int .i64 u, .int .i64 v], .agg #[.int .i64 x, .int .i64 y]] W fun e w' => e = .returned (.agg #[.int .i64 m0, .int .i64 m1]) ∧ Below W.heap.size W w'
  M3 : ∀ W : World, Calls Try.prog 13 #[.agg #[.int .i64 m0, .int .i64 m1], .agg #[.int .i64 p, .int .i64 q]] W fun e w' => e = .returned (.agg #[.int .i64 t0, .int .i64 t1]) ∧ Below W.heap.size W w'
  M4 : ∀ W : World, Calls Try.prog 13 #[.agg #[.int .i64 u, .int .i64 v], .agg #[.int .i64 p, .int .i64 q]] W fun e w' => e = .returned (.agg #[.int .i64 n0, .int .i64 n1]) ∧ Below W.heap.size W w'
  M5 : ∀ W : World, Calls Try.prog 13 #[.agg #[.int .i64 x, .int .i64 y], .agg #[.int .i64 n0, .int .i64 n1]] W fun e w' => e = .returned (.agg #[.int .i64 t0, .int .i64 t1]) ∧ Below W.heap.size W w'
  M6 : ∀ W : World, Calls Try.prog 13 #[.agg #[.int .i64 x, .int .i64 y], .agg #[.int .i64 j0, .int .i64 j1]] W fun e w' => e = .returned (.agg #[.int .i64 x, .int .i64 y]) ∧ Below W.heap.size W w'
  J1 : ∀ W : World, Calls Try.prog 14 #[.agg #[.int .i64 x, .int .i64 y], .agg #[.int .i64 u, .int .i64 v]] W fun e w' => e = .returned (.agg #[.int .i64 j0, .int .i64 j1]) ∧ Below W.heap.size W w'
  J2 : ∀ W : World, Calls Try.prog 14 #[.agg #[.int .i64 u, .int .i64 v], .agg #[.int .i64 x, .int .i64 y]] W fun e w' => e = .returned (.agg #[.int .i64 j0, .int .i64 j1]) ∧ Below W.heap.size W w'
  J3 : ∀ W : World, Calls Try.prog 14 #[.agg #[.int .i64 j0, .int .i64 j1], .agg #[.int .i64 p, .int .i64 q]] W fun e w' => e = .returned (.agg #[.int .i64 s0, .int .i64 s1]) ∧ Below W.heap.size W w'
  J4 : ∀ W : World, Calls Try.prog 14 #[.agg #[.int .i64 u, .int .i64 v], .agg #[.int .i64 p, .int .i64 q]] W fun e w' => e = .returned (.agg #[.int .i64 k0, .int .i64 k1]) ∧ Below W.heap.size W w'
  J5 : ∀ W : World, Calls Try.prog 14 #[.agg #[.int .i64 x, .int .i64 y], .agg #[.int .i64 k0, .int .i64 k1]] W fun e w' => e = .returned (.agg #[.int .i64 s0, .int .i64 s1]) ∧ Below W.heap.size W w'
  J6 : ∀ W : World, Calls Try.prog 14 #[.agg #[.int .i64 x, .int .i64 y], .agg #[.int .i64 x, .int .i64 y]] W fun e w' => e = .returned (.agg #[.int .i64 x, .int .i64 y]) ∧ Below W.heap.size W w'

theorem meet_is {x y u v a b : Int} (h0 : min x u = a) (h1 : min y v = b) (W : World) : Calls Try.prog 13 #[.agg #[.int .i64 x, .int .i64 y], .agg #[.int .i64 u, .int .i64 v]] W fun e w' => e = .returned (.agg #[.int .i64 a, .int .i64 b]) ∧ Below W.heap.size W w' := by
  subst h0 h1; exact implMeet_any _ _ _ _ W
theorem join_is {x y u v a b : Int} (h0 : max x u = a) (h1 : max y v = b) (W : World) : Calls Try.prog 14 #[.agg #[.int .i64 x, .int .i64 y], .agg #[.int .i64 u, .int .i64 v]] W fun e w' => e = .returned (.agg #[.int .i64 a, .int .i64 b]) ∧ Below W.heap.size W w' := by
  subst h0 h1; exact implJoin_any _ _ _ _ W

theorem lat (x y u v p q : Int) : ∃ m0 m1 j0 j1 t0 t1 n0 n1 k0 k1 s0 s1, Lat x y u v p q m0 m1 j0 j1 t0 t1 n0 n1 k0 k1 s0 s1 := by
  refine ⟨min x u, min y v, max x u, max y v, min x (min u p), min y (min v q), min u p, min v q, max u p, max v q, max x (max u p), max y (max v q), ?_⟩
  constructor
  all_goals (first | exact meet_is (by omega) (by omega) | exact join_is (by omega) (by omega))

set_option maxRecDepth 100000 in
set_option maxHeartbeats 4000000 in
/-- The law behind its draws: two stamps in blocks ga and gb, the third in gc. -/
theorem walk (a0 : Option Addr) (len0 cap0 : Nat) (z0 : List Int) (w : World) (w0 : IsRow .u8 w a0 len0 cap0 z0) :
    Calls Try.prog 3 #[.slice a0 len0 cap0] w fun e w' => e = .returned (.bool true) ∧ Below w.heap.size w w' := by
  obtain ⟨i0, hi, hz0, hz1, hz2⟩ := info_parts u8info
  have hcame := came_of_row w0
  have HG := Lib.hid (fun W => big_any a0 len0 cap0 W)
  by_cases h1 : 1048576 < len0
  · have hd : decide (1048576 < (len0 : Int)) = true := by simp; omega
    clear hcame w0
    go_enter Try.func3, Try.ntmps3
    go_wp2_with (go_at_call 10; refine (HG.out _).mono ?_; rintro e w1 ⟨rfl, rfl⟩)
    go_ret
    exact ⟨rfl, Below.refl _ _⟩
  · have hd : decide (1048576 < (len0 : Int)) = false := by simp; omega
    have HR := Lib.hid w0
    have HC := Lib.hid hcame
    clear hcame w0
    go_enter Try.func3, Try.ntmps3
    go_wp2_with (go_at_call 10; refine (HG.out _).mono ?_; rintro e w1 ⟨rfl, rfl⟩)
    refine (drawMeet_any w a0 len0 cap0 (by omega) HC.out).mono ?_
    rintro e w1 ⟨x, y, u, v, hx, hy, hu, hv, rfl, hb1⟩
    have B1 := Lib.hid hb1
    clear hb1 hx hy hu hv
    go_upto_region 4 with fail
    generalize hW : (w1.alloc _).alloc _ = W
    have c0 : W.cell? ⟨w1.heap.size, 0, none⟩ = some (.int .i64 x) := by rw [← hW]; exact alloc_keep (by simp)
    have c1 : W.cell? ⟨w1.heap.size, 1, none⟩ = some (.int .i64 y) := by rw [← hW]; exact alloc_keep (by simp)
    have c2 : W.cell? ⟨w1.heap.size + 1, 0, none⟩ = some (.int .i64 u) := by rw [← hW]; simp
    have c3 : W.cell? ⟨w1.heap.size + 1, 1, none⟩ = some (.int .i64 v) := by rw [← hW]; simp
    have bW : Below w.heap.size w W := by rw [← hW]; exact (B1.out.alloc B1.out.size _).alloc (Nat.le_trans B1.out.size (by simp)) _
    have BW := Lib.hid bW
    clear hW bW B1 HC
    go_cut [5] (fun t wx => ∃ (g : Nat) (p q : Int), t = .pointer (some ⟨g, 0, none⟩) ∧ wx.cell? ⟨g, 0, none⟩ = some (.int .i64 p) ∧ wx.cell? ⟨g, 1, none⟩ = some (.int .i64 q) ∧ Below W.heap.size W wx)
    case first =>
      have lit : (W.alloc (.cells #[.int .u8 3] 5)).ownsRow W.heap.size 5 1 (.slice (some ⟨W.heap.size, 0, none⟩) 1 1) 1 [.int .u8 3] := World.ownsRow_lit W #[.int .u8 3] 1 (Nat.le_refl _) (by decide) rfl
      have L := Lib.hid lit
      clear lit c0 c1 c2 c3
      have key : ∀ (w3 : World) (vv : Value) (xs : List Value), w3.ownsRow W.heap.size 5 1 vv (1 + len0) xs → (∀ u ∈ xs, ∃ z : Nat, z ≤ 255 ∧ u = .int .u8 (z : Int)) → Below W.heap.size W w3 →
          Calls Try.prog 12 #[vv] w3 fun e w' => ∃ p q p2 q2 : Int, e = .returned (.tuple #[.agg #[.int .i64 p, .int .i64 q], .agg #[.int .i64 p2, .int .i64 q2]]) ∧ Below W.heap.size W w' := by
        intro w3 vv xs hown hx hb
        obtain ⟨A', cap', rfl, hcm⟩ := came_of_own hown hx
        refine (drawJoin_any w3 A' (1 + len0) cap' (by omega) hcm).mono ?_
        rintro e w' ⟨p, q, p2, q2, _, _, _, _, rfl, hb2⟩
        exact ⟨p, q, p2, q2, rfl, below_chain hb hb2⟩
      have K := Lib.hid key
      clear key
      rcases HR.out with ⟨rfl, rfl, rfl, _⟩ | ⟨ad, rfl, hlc, hcm, hzl, hcell, hwf⟩
      · go_wp2_with (at_builtin; refine wpList_append_own_none _ rfl _ _ 22 rfl W.heap.size 5 i0 1 Try.underlying22 hi _ _ _ rfl L.out rfl ?_)
        refine (K.out _ _ _ L.out (fun u hu => ⟨3, by omega, by simpa using hu⟩) ((Below.refl _ _).alloc (Nat.le_refl _) _)).mono ?_
        rintro e w4 ⟨p, q, p2, q2, rfl, hb4⟩
        go_wp2_with fail
        go_meet
        exact ⟨w4.heap.size, p, q, rfl, alloc_keep (by simp), alloc_keep (by simp), (hb4.alloc hb4.size _).alloc (Nat.le_trans hb4.size (by simp)) _⟩
      · obtain ⟨news, hnl, hnu, hnc⟩ := row_news HR.out ((BW.out.alloc BW.out.size (.cells #[.int .u8 3] 5)))
        clear hlc hcm hzl hcell hwf
        go_wp2_with (at_builtin; refine wpList_append_own _ rfl _ _ 22 rfl W.heap.size 5 i0 (.int .u8 0) 1 1 Try.underlying22 hi hz0 hz1 hz2 rfl (by decide) _ _ _ rfl L.out ad len0 cap0 news rfl (by rw [hnl]; omega) hnc (fun u hu => by obtain ⟨z, _, rfl⟩ := hnu u hu; rfl) (by unfold maxLen; omega) (by omega) (by simp) ?_; intro v1 w3 hown3 hgrow3 _)
        refine (K.out _ _ _ hown3 ?_ ?_).mono ?_
        · intro u hu
          rcases List.mem_append.1 hu with h | h
          · exact ⟨3, by omega, by simpa using h⟩
          · exact hnu u h
        · exact ((Below.refl _ _).alloc (Nat.le_refl _) _).grown hgrow3 (by simp) (fun k hk => Nat.le_of_eq (Option.some.inj (show some W.heap.size = some k from hk)))
        rintro e w4 ⟨p, q, p2, q2, rfl, hb4⟩
        clear hown3 hgrow3 hnc hnu hnl
        go_wp2_with fail
        go_meet
        exact ⟨w4.heap.size, p, q, rfl, alloc_keep (by simp), alloc_keep (by simp), (hb4.alloc hb4.size _).alloc (Nat.le_trans hb4.size (by simp)) _⟩
    case rest =>
    obtain ⟨g, p, q, rfl, d4, d5, hb⟩ := hcut
    obtain ⟨m0, m1, j0, j1, t0, t1, n0, n1, k0, k1, s0, s1, hlat⟩ := lat x y u v p q
    replace c0 := below_keep hb c0
    replace c1 := below_keep hb c1
    replace c2 := below_keep hb c2
    replace c3 := below_keep hb c3
    have M1 := Lib.hid hlat.M1
    have M2 := Lib.hid hlat.M2
    have M3 := Lib.hid hlat.M3
    have M4 := Lib.hid hlat.M4
    have M5 := Lib.hid hlat.M5
    have M6 := Lib.hid hlat.M6
    have J1 := Lib.hid hlat.J1
    have J2 := Lib.hid hlat.J2
    have J3 := Lib.hid hlat.J3
    have J4 := Lib.hid hlat.J4
    have J5 := Lib.hid hlat.J5
    have J6 := Lib.hid hlat.J6
    have B2 := Lib.hid (below_chain BW.out hb)
    clear hlat hb BW HR
    go_wp2_with fail
    go_region_held3 (fun w' => w'.cell? ⟨w1.heap.size, 0, none⟩ = some (.int .i64 x) ∧ w'.cell? ⟨w1.heap.size, 1, none⟩ = some (.int .i64 y) ∧ w'.cell? ⟨w1.heap.size + 1, 0, none⟩ = some (.int .i64 u) ∧ w'.cell? ⟨w1.heap.size + 1, 1, none⟩ = some (.int .i64 v) ∧ w'.cell? ⟨g, 0, none⟩ = some (.int .i64 p) ∧ w'.cell? ⟨g, 1, none⟩ = some (.int .i64 q) ∧ Below w.heap.size w w')
      (((try go_split_ands); refine ⟨?_, ?_, ?_, ?_, ?_, ?_, ?_⟩ <;> (repeat (first | with_reducible assumption | with_reducible exact B2.out | with_reducible refine drew_keep ?_ | with_reducible refine below_keep hbd ?_ | with_reducible refine Below.drew ?_ | with_reducible refine below_chain ?_ hbd))))
      (first | (go_at_call 13; with_reducible refine (M1.out _).mono ?_; rintro e w5 ⟨rfl, hbd⟩) | (go_at_call 13; with_reducible refine (M2.out _).mono ?_; rintro e w5 ⟨rfl, hbd⟩) | (go_at_call 13; with_reducible refine (M3.out _).mono ?_; rintro e w5 ⟨rfl, hbd⟩) | (go_at_call 13; with_reducible refine (M4.out _).mono ?_; rintro e w5 ⟨rfl, hbd⟩) | (go_at_call 13; with_reducible refine (M5.out _).mono ?_; rintro e w5 ⟨rfl, hbd⟩) | (go_at_call 13; with_reducible refine (M6.out _).mono ?_; rintro e w5 ⟨rfl, hbd⟩) | (go_at_call 14; with_reducible refine (J1.out _).mono ?_; rintro e w5 ⟨rfl, hbd⟩) | (go_at_call 14; with_reducible refine (J2.out _).mono ?_; rintro e w5 ⟨rfl, hbd⟩) | (go_at_call 14; with_reducible refine (J3.out _).mono ?_; rintro e w5 ⟨rfl, hbd⟩) | (go_at_call 14; with_reducible refine (J4.out _).mono ?_; rintro e w5 ⟨rfl, hbd⟩) | (go_at_call 14; with_reducible refine (J5.out _).mono ?_; rintro e w5 ⟨rfl, hbd⟩) | (go_at_call 14; with_reducible refine (J6.out _).mono ?_; rintro e w5 ⟨rfl, hbd⟩))
    go_split_ands
    go_wp2
    go_ret
    exact ⟨rfl, by assumption⟩
end Go.Proofs.Ytpodppmcdikmbaa.fnLattice
