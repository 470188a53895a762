/-
  (*vertex).reachOn.
-/
import Derived.Test.YtjplkoglibagkaaJ20

namespace Go.Proofs.Ytjplkoglibagkaa.hexes
open Go.RowKit

/-- How reachOn ends. -/
def GoneEnd (B n : Nat) (g : Nat → Nat) (nx : Nat → Option Addr × Nat) (zs : Nat → List Nat) (P : Nat → Nat → Prop) (r : Nat → Bool) (j : Nat) (w : World) (e : Ending) (w' : World) : Prop :=
  e = .returned (.tuple #[]) ∧ ∃ r', Vx w' B n g nx zs r' ∧ Dfs zs P r j (zs j).length r' ∧ Below B w w' ∧ B ≤ w'.heap.size

set_option maxRecDepth 100000 in
set_option maxHeartbeats 2000000 in
theorem reachOn_any {B n : Nat} {g : Nat → Nat} {nx : Nat → Option Addr × Nat} {zs : Nat → List Nat} {P : Nat → Nat → Prop} (hE : ∀ a x, x ∈ zs a → P a x) (hT : ∀ a m t, P a m → P m t → P a t) (hlen : ∀ j, (zs j).length ≤ 1048576) (K : Nat) :
    ∀ (r : Nat → Bool) (w : World) (j : Nat), unr r n = K → j < n → B ≤ w.heap.size → Vx w B n g nx zs r → Calls Try.prog 54 #[.pointer (some ⟨g j, 0, none⟩)] w (GoneEnd B n g nx zs P r j w) := by
  induction K using Nat.strongRecOn with
  | _ K ih =>
  intro r w j hK hj hB hv
  have IH := Lib.hid (fun (r1 : Nat → Bool) (w1 : World) (s : Nat) (h : unr r1 n < K) => ih _ h r1 w1 s rfl)
  have HV := Lib.hid hv
  have HBS := Lib.hid hB
  have HE := Lib.hid hE
  have HT := Lib.hid hT
  have x0 : w.cell? ⟨g j, 0, none⟩ = some (.slice (nx j).1 (zs j).length (nx j).2) := by rw [(hv.blk j hj).cell]; rfl
  have hl := hlen j
  obtain ⟨A, hA⟩ : ∃ A, (nx j).1 = A := ⟨_, rfl⟩
  obtain ⟨c, hc⟩ : ∃ c, (nx j).2 = c := ⟨_, rfl⟩
  obtain ⟨m, hm⟩ : ∃ m, (zs j).length = m := ⟨_, rfl⟩
  rw [hA, hc, hm] at x0
  rw [hm] at hl
  have ROW := Lib.hid (fun (W : World) (r' : Nat → Bool) (h : Vx W B n g nx zs r') => show W.ownsRow B 71 1 (.slice A m c) m (ptrs g (zs j)) by
    have q := h.row j hj
    rw [hA, hc, hm] at q
    exact q)
  have HM := Lib.hid hm
  have HJ := Lib.hid hj
  have HKK := Lib.hid hK
  clear ih hE hT hlen hv hB hA hc hm hK
  go_enter Try.func54, Try.ntmps54
  go_wp2
  go_loopw [9] (fun i wr => ∃ (q : Nat) (r' : Nat → Bool), q ≤ m ∧ i = .int .i64 (q : Int) ∧ Vx wr B n g nx zs r' ∧ Dfs zs P r j q r' ∧ Below B w wr ∧ B ≤ wr.heap.size) (fun i _ => m - (intOf i).toNat)
  case atStart => exact ⟨0, r, Nat.zero_le _, rfl, HV.out, dfs_start zs P r j, Below.refl _ _, HBS.out⟩
  case round =>
    obtain ⟨q, r', hq, rfl, hv, hd, hb, hbs⟩ := hrel
    have V := Lib.hid hv
    have D := Lib.hid hd
    have BB := Lib.hid hb
    have BS := Lib.hid hbs
    have hrow := ROW.out wr r' hv
    clear hv hd hb hbs x0
    by_cases hlt : q < m
    · have lq : q < (zs j).length := by rw [HM.out]; exact hlt
      obtain ⟨s, hs⟩ : ∃ s, (zs j)[q] = s := ⟨_, rfl⟩
      have hsn : s < n := V.out.lt j HJ.out s (hs ▸ List.getElem_mem lq)
      obtain ⟨A', c', he, hf⟩ := own_form hrow
      simp only [Value.slice.injEq, true_and] at he
      obtain ⟨rfl, rfl⟩ := he
      obtain ⟨g5, rfl⟩ := hf (by omega)
      have s0 : wr.cell? ⟨g5, q, none⟩ = some (.pointer (some ⟨g s, 0, none⟩)) := by rw [hrow.cellAt q (by omega), ptrs_at g _ q lq, hs]
      have kb := V.out.blk s hsn
      have i0 : (0 : Int) ≤ (q : Int) := by omega
      have i1 : (q : Int) < (m : Int) := by omega
      cases hr : r' s with
      | true =>
        have D2 := Lib.hid (D.out.skip lq hs hr)
        have t0 : wr.cell? ⟨g s, 1, none⟩ = some (.bool true) := by rw [kb.cell, hr]; rfl
        clear D hrow kb hs lq hr hf
        go_wp2
        go_roundw
        case rel => exact ⟨q + 1, r', by omega, by go_num, V.out, D2.out, BB.out, BS.out⟩
        case measure => simp [intOf]; omega
      | false =>
        have t0 : wr.cell? ⟨g s, 1, none⟩ = some (.bool false) := by rw [kb.cell, hr]; rfl
        have f1 := kb.frozen 1
        have V2 := Lib.hid (V.out.mark hsn true)
        have hlt2 : unr (fun t => if t = s then true else r' t) n < K := by
          have h1 := unr_lt (r := r') (r' := fun t => if t = s then true else r' t) (n := n) (s := s) (fun t ht => by by_cases e : t = s <;> simp [e, ht]) hsn hr (by simp)
          have h2 := unr_le D.out.mono n
          have h3 := HKK.out
          omega
        have B2 := Lib.hid (BB.out.setCell (p := ⟨g s, 1, none⟩) (V.out.base s hsn) (.bool true))
        have D2 := Lib.hid (fun r2 h2 => D.out.follow HE.out HT.out (r2 := r2) lq hs hr h2)
        obtain ⟨U, hU⟩ : ∃ U, wr.setCell ⟨g s, 1, none⟩ (.bool true) = U := ⟨_, rfl⟩
        have SU : B ≤ U.heap.size := by rw [← hU]; simpa [World.setCell] using BS.out
        rw [hU] at V2 B2
        have C := Lib.hid (IH.out (fun t => if t = s then true else r' t) U s hlt2 hsn SU V2.out)
        clear D hrow kb hs lq hr hf hlt2 SU
        go_wp2_with fail
        refine C.out.mono ?_
        rintro e w5 ⟨rfl, r2, hv2, hd2, hb2, hs2⟩
        have V3 := Lib.hid hv2
        have D3 := Lib.hid (D2.out r2 hd2)
        have B3 := Lib.hid (B2.out.trans hb2)
        have S3 := Lib.hid hs2
        clear hv2 hd2 hb2 hs2 s0 t0 f1 hU
        go_wp2
        go_roundw
        case rel => exact ⟨q + 1, r2, by omega, by go_num, V3.out, D3.out, B3.out, S3.out⟩
        case measure => simp [intOf]; omega
    · have D2 := Lib.hid (show Dfs zs P r j (zs j).length r' by rw [HM.out, show m = q by omega]; exact D.out)
      clear hrow
      go_wp2
      exact bodyPost_ret (v := .tuple #[]) (by simp [results, Try.results54, go_sem]) rfl ⟨rfl, r', V.out, D2.out, BB.out, BS.out⟩

end Go.Proofs.Ytjplkoglibagkaa.hexes

