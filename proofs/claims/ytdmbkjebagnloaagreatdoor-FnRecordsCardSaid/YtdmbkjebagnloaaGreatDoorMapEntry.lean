/-
  'm[k]++' on a map that the call itself has made: the entry that is found or laid, then the store; elements of an integer kind.
-/
import Derived.Test.YtdmbkjebagnloaaGreatDoorProg
import Derived.WideKeyEntry
import Derived.Maps.Own
import Derived.Maps.Views
namespace Go.Proofs.YtdmbkjebagnloaaGreatDoor.hexes
open Go.ChangeMaps Go.MapKept Go.WideElems

theorem entry_own {P : Program} {w : World} {t k e : TypeId} {q : IntKind} {b n : Nat} {D : DataW Unit} (h : w.ownsMap P k (plainElem P e) b n D) (K : Maps.Keyed P k) (ht : P.underlying t = some (.map k e)) (he : P.underlying e = some (.int q))
    (hz : ∀ u : World, (zeroValue e).run P u = .ok (.int q 0) u) (hn : n < maxLen) {key : Value} {kl : Lit} (hkey : keyOf P k key = some kl) {c : Int} (hc : D.atKey kl (.lit (.int q 0)) = .lit (.int q c)) :
    ∃ (st : Nat) (w1 : World), (Instr.mapEntry t (.map (some b)) key).run P w = .ok (.tuple #[.int q c, goInt st]) w1 ∧ (Instr.lookup t (.map (some b)) key false).run P w1 = .ok (.int q c) w1 ∧ w.grownBy w1 (some b) ∧
      ∀ a, (Lit.int q a).wf = true → ∃ w2, (Instr.entryStore t (.map (some b)) (goInt st) (.int q a)).run P w1 = .ok () w2 ∧ w2.ownsMap P k (plainElem P e) b (n + 1) (D.put kl (.lit (.int q a))) ∧ w.grownBy w2 (some b) := by
  have h0 := h
  have hw0 : (Lit.int q 0).wf = true := by cases q <;> decide
  obtain ⟨es, clock, hb, F, hs, hD⟩ := h
  obtain ⟨s1, s2, _⟩ := F.stamped
  have twice : ∀ (o o' : Obj), setBlock (setBlock w b o) b o' = setBlock w b o' := fun o o' => by simp [setBlock]
  have gr : ∀ o : Obj, w.grownBy (setBlock w b o) (some b) := fun o => ⟨rfl, rfl, rfl, by simp [setBlock], fun i _ hi => heap_setBlock_other hb _ (fun e => hi (by rw [e]))⟩
  rcases K.find w hkey es.toList F.keys with ⟨h1, h2⟩ | ⟨j, e0, h1, h2, h3⟩
  · -- the key is not there: a new entry with zero
    have hc0 : c = 0 := by
      rcases Maps.fit_look false K ht (hz w) hb F hkey with ⟨_, _, hat⟩ | ⟨e0, y, hm, hk, _⟩
      · rw [hD, hat] at hc
        simpa using hc.symm
      · exact absurd hk (h2 e0 hm)
    subst hc0
    have hup : ∀ val : Value, (Instr.mapUpdate t (.map (some b)) key val).run P w = .ok () (setBlock w b (.map (es.push ⟨key, val, clock⟩) (clock + 1))) := fun val => by
      simp [Instr.mapUpdate, run_underlying ht, MapKept.run_getObj_map hb, K.check w false hkey, h1, MapKept.run_setObj_map _ hb, Result.andThen, setBlock]
    have hb1 := heap_setBlock_same hb (.map (es.push ⟨key, .int q 0, clock⟩) (clock + 1))
    refine ⟨clock, setBlock w b (.map (es.push ⟨key, .int q 0, clock⟩) (clock + 1)), ?_, ?_, gr _, fun a ha => ?_⟩
    · simp [Instr.mapEntry, run_underlying ht, MapKept.run_getObj_map hb, K.check w false hkey, h1, hz, MapKept.run_setObj_map _ hb, Result.andThen, setBlock]
    · obtain ⟨w', hrun, own', _⟩ := h0.update K ht hn hkey (plainElem_int he hw0)
      rw [hup] at hrun
      cases hrun
      obtain ⟨c', hl, hat, _⟩ := own'.lookup_int K ht he (hz _) hkey
      have hmap : Maps.IsMap D := ⟨_, hD⟩
      rw [Maps.atKey_put_same hmap (K.key hkey)] at hat
      obtain rfl : (0 : Int) = c' := by simpa using hat
      exact hl
    · obtain ⟨w', hrun, own', gr'⟩ := h0.update K ht hn hkey (plainElem_int he ha)
      rw [hup] at hrun
      cases hrun
      refine ⟨_, ?_, own', gr'⟩
      have hidx : (es.push ⟨key, .int q 0, clock⟩).findIdx? (fun e => ((e.born : Nat) : Int) == ((clock : Nat) : Int)) = some es.size := by
        rw [findIdx_arr]
        have := findIdx_born (l := (es.push ⟨key, .int q 0, clock⟩).toList) (j := es.size) (e0 := ⟨key, .int q 0, clock⟩) (by
          simp only [Array.toList_push, List.map_append, List.map_cons, List.map_nil]
          refine List.nodup_append.2 ⟨s2, by simp, fun a ha c hc e1 => ?_⟩
          simp only [List.mem_singleton] at hc
          obtain ⟨x, hx, rfl⟩ := List.mem_map.1 ha
          have := s1 x hx
          omega) (by simp)
        exact this
      have hmod : (es.push ⟨key, .int q 0, clock⟩).modify es.size (fun e => { e with val := .int q a }) = es.push ⟨key, .int q a, clock⟩ := by
        apply Array.ext'
        rw [Array.toList_modify, Array.toList_push, Array.toList_push, ← Array.length_toList, modify_last]
      rw [← twice (.map (es.push ⟨key, .int q 0, clock⟩) (clock + 1)) (.map (es.push ⟨key, .int q a, clock⟩) (clock + 1))]
      generalize setBlock w b (.map (es.push ⟨key, .int q 0, clock⟩) (clock + 1)) = W1 at hb1 ⊢
      simp [Instr.entryStore, MapKept.run_getObj_map hb1, asInt, asIntOf, goInt, hidx, hmod, MapKept.run_setObj_map _ hb1, Result.andThen, setBlock]
  · -- the key is there
    have hj : es[j]? = some e0 := by simpa using h2
    obtain ⟨c', hlk, hat, _⟩ := h0.lookup_int K ht he (hz w) hkey
    rw [hc] at hat
    obtain rfl : c = c' := by simpa using hat
    have hval : e0.val = .int q c := by
      have : (Instr.lookup t (.map (some b)) key false).run P w = .ok e0.val w := by simp [Instr.lookup, run_underlying ht, MapKept.run_getObj_map hb, K.check w _ hkey, h1, Result.andThen]
      rw [this] at hlk
      simpa using hlk
    have hsame : es.modify j (fun e => { e with key := key }) = es := by
      apply Array.ext'
      rw [Array.toList_modify, modify_eq_set _ _ _ _ h2]
      have : ({ e0 with key := key } : MapEntry) = e0 := by rw [← h3]
      rw [this]
      exact set_self _ _ _ h2
    have hup : ∀ val : Value, (Instr.mapUpdate t (.map (some b)) key val).run P w = .ok () (setBlock w b (.map (es.modify j (fun e' => { e' with key := key, val := val })) clock)) := fun val => by
      simp [Instr.mapUpdate, run_underlying ht, MapKept.run_getObj_map hb, K.check w false hkey, h1, hj, h3, K.stays w hkey, MapKept.run_setObj_map _ hb, Result.andThen, setBlock]
    have hb1 := heap_setBlock_same hb (.map es clock)
    refine ⟨e0.born, setBlock w b (.map es clock), ?_, ?_, gr _, fun a ha => ?_⟩
    · rw [← hval]
      simp [Instr.mapEntry, run_underlying ht, MapKept.run_getObj_map hb, K.check w false hkey, h1, hj, h3, K.stays w hkey, hsame, MapKept.run_setObj_map _ hb, Result.andThen, setBlock]
    · have own1 : (setBlock w b (.map es clock)).ownsMap P k (plainElem P e) b n D := ⟨es, clock, hb1, F, hs, hD⟩
      obtain ⟨c2, hl, hat2, _⟩ := own1.lookup_int K ht he (hz _) hkey
      rw [hc] at hat2
      obtain rfl : c = c2 := by simpa using hat2
      exact hl
    · obtain ⟨w', hrun, own', gr'⟩ := h0.update K ht hn hkey (plainElem_int he ha)
      rw [hup] at hrun
      cases hrun
      refine ⟨_, ?_, own', gr'⟩
      have hidx : es.findIdx? (fun e => ((e.born : Nat) : Int) == ((e0.born : Nat) : Int)) = some j := by
        rw [findIdx_arr]
        exact findIdx_born s2 h2
      have hmod : es.modify j (fun e => { e with val := .int q a }) = es.modify j (fun e' => { e' with key := key, val := .int q a }) := by
        apply Array.ext'
        rw [Array.toList_modify, Array.toList_modify, modify_eq_set _ _ _ _ h2, modify_eq_set _ _ _ _ h2, ← h3]
      rw [← twice (.map es clock) (.map (es.modify j (fun e' => { e' with key := key, val := .int q a })) clock)]
      generalize setBlock w b (.map es clock) = W1 at hb1 ⊢
      simp [Instr.entryStore, MapKept.run_getObj_map hb1, asInt, asIntOf, goInt, hidx, hmod, MapKept.run_setObj_map _ hb1, Result.andThen, setBlock]
end Go.Proofs.YtdmbkjebagnloaaGreatDoor.hexes
