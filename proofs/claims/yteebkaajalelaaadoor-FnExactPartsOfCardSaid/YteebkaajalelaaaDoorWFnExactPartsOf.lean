/-
  The walk of FnExactPartsOf.
-/
import Derived.Test.YteebkaajalelaaaDoorSpecParts
import Derived.Test.YteebkaajalelaaaDoorImplParts
namespace Go.Proofs.YteebkaajalelaaaDoor.fnExactPartsOf
open Go.RowKit Go.Proofs.YteebkaajalelaaaDoor.hexes

theorem parts_few (s : ByteArray) : (partsOf s).1.length ≤ 12 := by
  unfold partsOf
  split
  · rename_i h; exact h.2.2
  · simp

theorem below_grown_own {w w1 w2 : World} {row : Option Nat} (hb : Below w.heap.size w w1) (hg : w1.grownBy w2 row) (hr : ∀ k, row = some k → w.heap.size ≤ k) : Below w.heap.size w w2 :=
  hb.grown hg hb.size hr

set_option maxRecDepth 100000 in
set_option maxHeartbeats 1000000 in
theorem walk (s : ByteArray) (_hs : s.size ≤ maxLen) (w : World) (hL : laidMet Tryd.prog Rows.fnExactPartsOfRow.laid w) :
    Calls Tryd.prog 6 #[.string s] w fun e w' => e = .returned (.bool true) ∧ Below w.heap.size w w' := by
  have htab := space_head hL.tail
  clear hL
  by_cases h1 : 1048576 < s.size
  · have hd : decide (1048576 < (s.size : Int)) = true := by simp; omega
    clear htab
    go_enter Tryd.func6, Tryd.ntmps6
    go_wp2
    go_ret
    exact ⟨rfl, Below.refl _ _⟩
  · have hd : decide (1048576 < (s.size : Int)) = false := by simp; omega
    have hs1 : s.size ≤ 1048576 := by omega
    have HT := Lib.hid htab
    have few := parts_few s
    obtain ⟨n, hn⟩ : ∃ n, n = (partsOf s).1.length := ⟨_, rfl⟩
    obtain ⟨fl, hfl⟩ : ∃ fl, fl = (partsOf s).1.map mk := ⟨_, rfl⟩
    obtain ⟨b, hb⟩ : ∃ b, b = (partsOf s).2 := ⟨_, rfl⟩
    have CS := Lib.hid (fun W => specParts_any s hs1 W)
    have CI := Lib.hid (fun W ht => implParts_any s hs1 W ht)
    unfold PartsEnd at CS CI
    rw [← hn, ← hfl, ← hb] at CS CI
    rw [← hn] at few
    clear htab hn hfl hb
    go_enter Tryd.func6, Tryd.ntmps6
    go_wp2_with fail
    refine (CS.out _).mono ?_
    rintro e w1 ⟨vs, rfl, os, b1⟩
    have OS := Lib.hid os
    have B1 := Lib.hid b1
    clear os b1
    go_wp2_with fail
    refine (CI.out _ (space_below HT.out B1.out)).mono ?_
    rintro e w2 ⟨vg, rfl, og, b2⟩
    have OG := Lib.hid og
    have OS2 := Lib.hid (own_below OS.out b2)
    have AP := Lib.hid (own_apart OS.out og)
    have B2 := Lib.hid (B1.out.trans (b2.mono B1.out.size))
    have GE := Lib.hid (own_ge (own_base og B1.out.size))
    clear og b2
    go_wp2_with fail
    refine (eqS_any fl n _ _ vg vs w2 OG.out OS2.out (by omega)).mono ?_
    rintro e w2' ⟨rfl, d, rfl⟩
    go_wp2_with fail
    refine (markS_any fl n 1 _ vg _ (own_drewN OG.out d) (by omega) (by omega) (by omega)).mono ?_
    rintro e w3 ⟨rfl, om, g3⟩
    have OM := Lib.hid om
    have OS3 := Lib.hid (World.ownsRow.kept (own_drewN OS2.out d) g3 AP.out)
    have B3 := Lib.hid (below_grown_own (belowN B2.out d) g3 GE.out)
    clear om g3
    go_wp2_with fail
    refine (heldS_any n 1 _ vg w3 OM.out (by omega) (by omega) (by omega)).mono ?_
    rintro e w4 ⟨rfl, b4⟩
    have OM4 := Lib.hid (own_below OM.out b4)
    have OS4 := Lib.hid (own_below OS3.out b4)
    have B4 := Lib.hid (B3.out.trans (b4.mono B3.out.size))
    clear b4
    go_wp2_with fail
    refine (CI.out _ (space_below HT.out B4.out)).mono ?_
    rintro e w5 ⟨vh, rfl, oh, b5⟩
    have OH := Lib.hid oh
    have OM5 := Lib.hid (own_below OM4.out b5)
    have OS5 := Lib.hid (own_below OS4.out b5)
    have B5 := Lib.hid (B4.out.trans (b5.mono B4.out.size))
    clear oh b5
    go_wp2_with fail
    refine (eqS_any fl n _ _ vh vs w5 OH.out OS5.out (by omega)).mono ?_
    rintro e w5' ⟨rfl, d2, rfl⟩
    go_wp2_with fail
    refine (heldS_any n 1 _ vg _ (own_drewN OM5.out d2) (by omega) (by omega) (by omega)).mono ?_
    rintro e w6 ⟨rfl, b6⟩
    have B6 := Lib.hid ((belowN B5.out d2).trans (b6.mono (belowN B5.out d2).size))
    clear b6
    go_wp2
    go_ret
    exact ⟨rfl, B6.out⟩
end Go.Proofs.YteebkaajalelaaaDoor.fnExactPartsOf
