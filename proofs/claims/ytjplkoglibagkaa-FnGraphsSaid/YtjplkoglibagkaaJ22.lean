/-
  impl.verticesOf.
-/
import Derived.Test.YtjplkoglibagkaaJ21

namespace Go.Proofs.Ytjplkoglibagkaa.hexes
open Go.RowKit

theorem ptrs_made (n : Nat) : (madeCells #[.pointer none] (n * 1)).toList = List.replicate n (.pointer none) := by
  apply List.ext_getElem?
  intro i
  by_cases hi : i < n
  · simp only [madeCells, Array.toList_map, Array.toList_range, List.getElem?_map, List.getElem?_range (show i < n * 1 by omega), Option.map_some]
    simp [Nat.mod_one, hi]
  · rw [List.getElem?_eq_none (by simp [size_madeCells]; omega), List.getElem?_eq_none (by simp; omega)]

theorem fill_step_pt {g : Nat → Nat} {k n : Nat} (hk : k < n) : (ptrs g (List.range k) ++ List.replicate (n - k) (Value.pointer none)).set k (.pointer (some ⟨g k, 0, none⟩)) = ptrs g (List.range (k + 1)) ++ List.replicate (n - (k + 1)) (.pointer none) := by
  have l : (ptrs g (List.range k)).length = k := by rw [ptrs_length]; simp
  rw [List.set_append_right _ _ (by omega), l, Nat.sub_self, show n - k = (n - (k + 1)) + 1 by omega, List.replicate_succ, List.set_cons_zero, List.range_succ, ptrs_append]
  simp only [List.append_assoc, ptrs, List.map_cons, List.map_nil, List.singleton_append]

/-- How verticesOf ends. -/
def VertEnd (gs : List Nd) (n : Nat) (w : World) (e : Ending) (w' : World) : Prop :=
  e = .returned (.slice (some ⟨w.heap.size, 0, none⟩) n n) ∧ ∃ T nx, Lay w' w.heap.size T n nx (outsN gs) ∧ Below w.heap.size w w'

set_option maxRecDepth 100000 in
set_option maxHeartbeats 4000000 in
theorem vertices_any {gs : List Nd} (hE : Edges gs) {n : Nat} (hl : gs.length = n) (hn : n ≤ 1048576) (ho : ∀ x ∈ gs, x.2.2.2.length ≤ 1048576) (A : Option Addr) (c : Nat) (w : World) (h : Nds w A gs) :
    Calls Try.prog 53 #[.slice A n c] w (VertEnd gs n w) := by
  obtain ⟨i0, hi, hz0, hz1, hz2⟩ := info_parts ptinfo
  have H := Lib.hid h
  have HL := Lib.hid hl
  have HE := Lib.hid hE
  have HO := Lib.hid ho
  clear h hl hE ho
  go_enter Try.func53, Try.ntmps53
  go_wp2_with (at_make; refine wpList_make_full _ rfl _ _ 69 rfl w.heap.size 71 i0 (.pointer none) 1 Try.underlying69 hi hz0 hz1 .i64 .i64 _ _ n rfl rfl rfl rfl (by rw [hz2]; omega) (by unfold maxLen; omega) (Nat.le_refl _) ?_; intro w1 hown1 hg1)
  have B1 := Lib.hid ((Below.refl w.heap.size w).grown hg1 (Nat.le_refl _) (fun k hk => by simp at hk))
  have hc1 : (madeCells (Value.pointer none).cells (n * 1)).toList = List.replicate n (.pointer none) := ptrs_made n
  rw [hc1] at hown1
  have O1 := Lib.hid hown1
  have Z1 := Lib.hid (own_lt hown1)
  clear hown1 hg1 hc1
  obtain ⟨T, hT⟩ : ∃ T, w1.heap.size = T := ⟨_, rfl⟩
  have ST : w.heap.size < T := by rw [← hT]; exact Z1.out
  have HT := Lib.hid hT
  clear hT Z1
  go_wp2
  go_loopw [14] (fun i wr => ∃ k : Nat, k ≤ n ∧ i = .int .i64 (k : Int) ∧ wr.heap.size = T + k ∧ (∀ j, j < k → Blk wr (T + j) 73 #[.slice none 0 0, .bool false]) ∧ wr.ownsRow w.heap.size 71 1 (.slice (some ⟨w.heap.size, 0, none⟩) n n) n (ptrs (fun i => T + i) (List.range k) ++ List.replicate (n - k) (.pointer none)) ∧ Below w.heap.size w wr) (fun i _ => n - (intOf i).toNat)
  case atStart => exact ⟨0, Nat.zero_le _, rfl, HT.out, fun j hj => absurd hj (Nat.not_lt_zero _), by simpa [ptrs] using O1.out, B1.out⟩
  case round =>
    obtain ⟨k, hk, rfl, hsz, hbl, hown, hb⟩ := hrel
    have SZ := Lib.hid hsz
    have BL := Lib.hid hbl
    have OW := Lib.hid hown
    have HB := Lib.hid hb
    clear hsz hbl hown hb O1 B1
    by_cases hlt : k < n
    · obtain ⟨V, hV⟩ : ∃ V, wr.alloc (.cells #[.slice none 0 0, .bool false] 73) = V := ⟨_, rfl⟩
      have BV := Lib.hid (show Below wr.heap.size wr V by rw [← hV]; exact (Below.refl _ _).alloc (Nat.le_refl _) _)
      have KV := Lib.hid (show Blk V wr.heap.size 73 #[.slice none 0 0, .bool false] by rw [← hV]; exact Blk.new _ _ _)
      have SV := Lib.hid (show V.heap.size = T + (k + 1) by rw [← hV]; simp; have := SZ.out; omega)
      have o2 := own_below OW.out BV.out
      obtain ⟨u0, cu0⟩ : ∃ u, V.cell? ⟨w.heap.size, k, none⟩ = some u := ⟨_, by rw [o2.cellAt k (by omega)]; exact List.getElem?_eq_getElem (by rw [o2.1]; omega)⟩
      have fr0 := o2.frozenAt k
      obtain ⟨U, hU⟩ : ∃ U, V.setCell ⟨w.heap.size, k, none⟩ (.pointer (some ⟨wr.heap.size, 0, none⟩)) = U := ⟨_, rfl⟩
      have st := o2.stored k (.pointer (some ⟨wr.heap.size, 0, none⟩))
      have OU := Lib.hid (show U.ownsRow w.heap.size 71 1 (.slice (some ⟨w.heap.size, 0, none⟩) n n) n (ptrs (fun i => T + i) (List.range (k + 1)) ++ List.replicate (n - (k + 1)) (.pointer none)) by
        have q := st.1
        rw [SZ.out, fill_step_pt (g := fun i => T + i) hlt] at q
        rw [← hU, SZ.out]
        exact q)
      have BU := Lib.hid (show Below w.heap.size w U by rw [← hU]; exact (below_chain HB.out BV.out).setCell (Nat.le_refl _) _)
      have SU := Lib.hid (show U.heap.size = T + (k + 1) by rw [← hU]; simpa [World.setCell] using SV.out)
      have BLU := Lib.hid (show ∀ j, j < k + 1 → Blk U (T + j) 73 #[.slice none 0 0, .bool false] by
        intro j hj
        rw [← hU]
        by_cases e : j = k
        · subst e
          have q := KV.out
          rw [SZ.out] at q
          exact q.other (by simp; omega) _
        · exact (((BL.out j (by omega)).below BV.out)).other (by simp; omega) _)
      have i0' : (0 : Int) ≤ (k : Int) := by omega
      have i1 : (k : Int) < (n : Int) := by omega
      clear o2 st
      go_wp2
      go_roundw
      case rel => exact ⟨k + 1, by omega, by go_num, SU.out, BLU.out, OU.out, BU.out⟩
      case measure => simp [intOf]; omega
    · have hkn : k = n := by omega
      subst hkn
      obtain ⟨wa, hwa⟩ : ∃ z, z = wr := ⟨_, rfl⟩
      subst hwa
      have z0 : ∀ i, (zsAt gs 0 0 i) = [] := fun i => by
        unfold zsAt
        rw [if_neg (by omega)]
        split <;> simp
      have L0 := Lib.hid (show Lay wa w.heap.size T k (fun _ => (none, 0)) (zsAt gs 0 0) from by
        refine ⟨⟨fun j hj => ?_, fun j hj => ?_, fun i j _ _ e => by simpa using e, fun j _ => by simp, fun i j _ _ _ a ha => ?_, fun j _ t ht => ?_⟩, ?_, by rw [SZ.out]; omega, ST⟩
        · rw [z0]; exact BL.out j hj
        · rw [z0]; exact World.ownsRow_nil _ _ _ _
        · simp [Value.ownBlock] at ha
        · rw [z0] at ht; simp at ht
        · have q := OW.out
          rw [Nat.sub_self] at q
          simpa using q)
      clear z0 BL OW SZ hlt
      go_wp2
      go_loopw [25] (fun i wr => ∃ (j : Nat) (nx : Nat → Option Addr × Nat), j ≤ k ∧ i = .int .i64 (j : Int) ∧ Lay wr w.heap.size T k nx (zsAt gs j 0) ∧ (∀ i, j ≤ i → nx i = (none, 0)) ∧ Below w.heap.size w wr) (fun i _ => k - (intOf i).toNat)
      case atStart => exact ⟨0, fun _ => (none, 0), Nat.zero_le _, rfl, L0.out, fun _ _ => rfl, HB.out⟩
      case round =>
        obtain ⟨j, nx, hj, rfl, hL, hnx, hb⟩ := hrel
        obtain ⟨wo, hwo⟩ : ∃ z, z = wr := ⟨_, rfl⟩
        subst hwo
        have L := Lib.hid hL
        have NX := Lib.hid hnx
        have BO := Lib.hid hb
        clear hL hnx hb L0 HB
        by_cases hlt : j < k
        · have lj : j < gs.length := by rw [HL.out]; exact hlt
          obtain ⟨b, off, kd, a, bb, zs, A1, m, c1, rfl, hx, hz, hc1, hin, e0', e1', e2', e3'⟩ := H.out.at lj
          have e0 := below_keep BO.out e0'
          have e1 := below_keep BO.out e1'
          have e2 := below_keep BO.out e2'
          have e3 := below_keep BO.out e3'
          have hm : m ≤ 1048576 := by have := HO.out _ (List.getElem_mem lj); rw [hx] at this; rw [← hz]; exact this
          have ON := Lib.hid (show outsN gs j = zs.map Int.toNat by unfold outsN; rw [outsAt_of rfl lj, hx])
          have YB := Lib.hid (show ∀ y ∈ zs, 0 ≤ y ∧ y < (k : Int) from fun y hy => by
            have q := HE.out (j : Int) y (by rw [outsAt_of rfl lj, hx]; exact hy)
            rw [HL.out] at q
            exact q)
          have IN := Lib.hid hin
          have HZ := Lib.hid hz
          obtain ⟨V, hV⟩ : ∃ V, wo.alloc (.cells #[.int .i64 kd, .int .i64 a, .int .i64 bb, .slice A1 m c1] 37) = V := ⟨_, rfl⟩
          have BV := Lib.hid (show Below wo.heap.size wo V by rw [← hV]; exact (Below.refl _ _).alloc (Nat.le_refl _) _)
          have v3 : V.cell? ⟨wo.heap.size, 3, none⟩ = some (.slice A1 m c1) := by rw [← hV]; simp
          have AP := Lib.hid (show Apart wo.heap.size k j nx (zsAt gs j 0) from ⟨fun i hi hne q hq => own_in (L.out.vx.row i hi) q hq, fun q hq => by rw [NX.out j (Nat.le_refl _)] at hq; simp [Value.ownBlock] at hq⟩)
          have i0' : (0 : Int) ≤ (j : Int) := by omega
          have i1 : (j : Int) < (k : Int) := by omega
          have LV := Lib.hid (L.out.below BV.out)
          have BOV := Lib.hid (below_chain BO.out BV.out)
          have DV := Lib.hid BV.out.size
          have TD := Lib.hid L.out.sz
          have NX2 := Lib.hid (show ∀ i, j < i → nx i = (none, 0) from fun i hi => NX.out i (by omega))
          clear hx hz hin lj e0' e1' e2' e3' L NX BO
          go_wp2
          clear e0 e1 e2 e3 v3 hV
          go_loopw [33] (fun q wr => ∃ (p : Nat) (nx : Nat → Option Addr × Nat), p ≤ m ∧ q = .int .i64 (p : Int) ∧ Lay wr w.heap.size T k nx (zsAt gs j p) ∧ Apart wo.heap.size k j nx (zsAt gs j p) ∧ (∀ i, j < i → nx i = (none, 0)) ∧ wo.heap.size ≤ wr.heap.size ∧ Below w.heap.size w wr) (fun q _ => m - (intOf q).toNat)
          case atStart => exact ⟨0, nx, Nat.zero_le _, rfl, LV.out, AP.out, NX2.out, DV.out, BOV.out⟩
          case round =>
            obtain ⟨p, ny, hp, rfl, hL, hA, hn2, hD, hb⟩ := hrel
            have L2 := Lib.hid hL
            have A2 := Lib.hid hA
            have N2 := Lib.hid hn2
            have D2 := Lib.hid hD
            have B2 := Lib.hid hb
            clear hL hA hn2 hD hb LV AP NX2 DV BOV
            by_cases hlp : p < m
            · have lz : p < zs.length := by rw [HZ.out]; exact hlp
              obtain ⟨b1, o1, y, rfl, hy, ey⟩ := (IN.out.below B2.out).at lz
              have yb := YB.out y (hy ▸ List.getElem_mem lz)
              obtain ⟨s, rfl⟩ : ∃ s : Nat, y = (s : Int) := ⟨y.toNat, by omega⟩
              have lN : p < (outsN gs j).length := by rw [ON.out]; simpa using lz
              have sN : (outsN gs j)[p] = s := by simp only [ON.out, List.getElem_map, hy]; simp
              have hs : s < k := by omega
              have lk : (zsAt gs j p j).length = p := by rw [zsAt_self]; simp; omega
              have t0 : wr.cell? ⟨w.heap.size, j, none⟩ = some (.pointer (some ⟨T + j, 0, none⟩)) := by
                rw [L2.out.top.cellAt j (by omega), ptrs_at _ _ j (by simpa using hlt)]
                simp
              have t1 : wr.cell? ⟨w.heap.size, s, none⟩ = some (.pointer (some ⟨T + s, 0, none⟩)) := by
                rw [L2.out.top.cellAt s (by omega), ptrs_at _ _ s (by simpa using hs)]
                simp
              have CON := Lib.hid (show ∀ W : World, Below wr.heap.size wr W → Calls Try.prog 72 #[.pointer (some ⟨T + j, 0, none⟩), .pointer (some ⟨T + s, 0, none⟩)] W (ConEnd wo.heap.size (T + j) (T + s) p false (ptrs (fun i => T + i) ((outsN gs j).take p)) W) from fun W hW => by
                have hk := L2.out.vx.blk j hlt
                have hr := own_raise (L2.out.vx.row j hlt) A2.out.hi
                rw [lk] at hk hr
                rw [zsAt_self] at hr
                exact connect_any (hk.below hW) (own_below hr hW) (Nat.le_trans D2.out hW.size) (by omega))
              have STEP := Lib.hid (fun (W W' : World) (hW : Below wr.heap.size wr W) (A' : Option Addr) (c' : Nat) (kb : Blk W' (T + j) 73 #[.slice A' (p + 1) c', .bool false]) kr (kk : Kept wo.heap.size (T + j) W W') => Lay.step (L2.out.below hW) A2.out TD.out hlt lN sN hs kb kr kk)
              have p0 : (0 : Int) ≤ (p : Int) := by omega
              have p1 : (p : Int) < (m : Int) := by omega
              have s0 : (0 : Int) ≤ (s : Int) := by omega
              have s1 : (s : Int) < (k : Int) := by omega
              have ll := TD.out
              clear hy lz lN sN lk yb
              go_wp2_with fail
              go_still_tail 8, (by kernel_rfl)
              change wpList _ _ _ _ _ wr.drew
              have bU : Below wr.heap.size wr wr.drew := (Below.refl _ _).drew
              generalize wr.drew = U at bU ⊢
              have BU := Lib.hid bU
              clear bU t0 t1 ey
              go_wp2_with fail
              refine (CON.out U BU.out).mono ?_
              rintro e w5 ⟨rfl, A', c', kb, kr, kk⟩
              have LS := Lib.hid (STEP.out U w5 BU.out A' c' kb kr kk)
              have B5 := Lib.hid (show Below w.heap.size w w5 from by
                have q := below_chain B2.out BU.out
                have tl : w.heap.size ≤ T + j := by omega
                refine ⟨kk.os.trans q.os, kk.tape.trans q.tape, kk.output.trans q.output, Nat.le_trans q.size kk.size, fun x hx => (kk.block x (by have := D2.out; omega) (by omega)).trans (q.block x hx)⟩)
              have D5 := Lib.hid (Nat.le_trans D2.out (Nat.le_trans BU.out.size kk.size))
              have N5 := Lib.hid (show ∀ i, j < i → (fun i => if i = j then (A', c') else ny i) i = (none, 0) from fun i hi => by simp only [if_neg (show i ≠ j by omega)]; exact N2.out i hi)
              clear kb kr kk
              go_wp2
              go_roundw
              case rel => exact ⟨p + 1, _, by omega, by go_num, LS.out.1, LS.out.2, N5.out, D5.out, B5.out⟩
              case measure => simp [intOf]; omega
            · have hpm : p = zs.length := by have := HZ.out; omega
              have LE := Lib.hid (show Lay wr w.heap.size T k ny (zsAt gs (j + 1) 0) from by
                have q := L2.out
                rw [show p = (outsN gs j).length by rw [ON.out, List.length_map]; exact hpm, zsAt_next] at q
                exact q)
              have N5 := Lib.hid (show ∀ i, j + 1 ≤ i → ny i = (none, 0) from fun i hi => N2.out i (by omega))
              clear hpm
              go_wp2
              go_roundw
              case rel => exact ⟨j + 1, ny, by omega, by go_num, LE.out, N5.out, B2.out⟩
              case measure => simp [intOf]; omega
        · have hjk : j = k := by omega
          subst hjk
          have LF := Lib.hid (show Lay wo w.heap.size T j nx (outsN gs) by
            have q := L.out
            rw [← HL.out, zsAt_all, HL.out] at q
            exact q)
          clear L
          go_wp2
          go_ret
          exact ⟨rfl, T, nx, LF.out, BO.out⟩

end Go.Proofs.Ytjplkoglibagkaa.hexes

