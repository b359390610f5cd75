import Derived.Test.YtiobnidbjlmjbaaDoorRows
import Derived.WalkKit
import Derived.WalkSpells
import Derived.WalkLawsBesides
import Derived.LaidEql
namespace Go.Proofs.YtiobnidbjlmjbaaDoor
open Go.RowKit

abbrev er (a : Addr) : Value := .iface 27 (.pointer (some a))

set_option maxHeartbeats 400000 in
theorem all_any (a0 a1 a2 a3 a4 : Addr) (w : World)
    (h0 : w.cell? ⟨0, 0, none⟩ = some (er a0)) (h1 : w.cell? ⟨1, 0, none⟩ = some (er a1)) (h2 : w.cell? ⟨2, 0, none⟩ = some (er a2))
    (h3 : w.cell? ⟨3, 0, none⟩ = some (er a3)) (h4 : w.cell? ⟨4, 0, none⟩ = some (er a4)) :
    Calls Tryd.prog 5 #[] w fun e w' => e = .returned (.slice (some ⟨w.heap.size, 0, none⟩) 5 5) ∧ w' = w.alloc (.cells #[er a0, er a1, er a2, er a3, er a4] 26) := by
  go_enter Tryd.func5, Tryd.ntmps5
  go_wp2
  go_ret
  exact ⟨rfl, rfl⟩

theorem Tryd.comp27 : (Tryd.prog.info? 27).map (·.comparable) = some true := by kernel_rfl
theorem Tryd.size45 : (Tryd.prog.info? 45).map (·.size) = some 1 := by kernel_rfl

set_option maxHeartbeats 1000000 in
theorem diff_any (A : Nat → Addr) (w : World)
    (h0 : w.cell? ⟨0, 0, none⟩ = some (er (A 0))) (h1 : w.cell? ⟨1, 0, none⟩ = some (er (A 1))) (h2 : w.cell? ⟨2, 0, none⟩ = some (er (A 2)))
    (h3 : w.cell? ⟨3, 0, none⟩ = some (er (A 3))) (h4 : w.cell? ⟨4, 0, none⟩ = some (er (A 4)))
    (hne : ∀ i k : Nat, k < i → i < 5 → A k ≠ A i)
    (hb : ∀ i : Nat, i < 5 → ∃ c t, w.heap[(A i).block]? = some (.cells c t (0, 0))) :
    Calls Tryd.prog 4 #[] w fun e w' => e = .returned (.bool true) ∧ w' = w.alloc (.cells #[er (A 0), er (A 1), er (A 2), er (A 3), er (A 4)] 26) := by
  obtain ⟨i, hi, hcmp⟩ := Option.map_eq_some_iff.1 Tryd.comp27
  obtain ⟨j, hj, hjs⟩ := Option.map_eq_some_iff.1 Tryd.size45
  go_enter Tryd.func4, Tryd.ntmps4
  go_wp2_with (go_at_call 5; refine (all_any (A 0) (A 1) (A 2) (A 3) (A 4) _ h0 h1 h2 h3 h4).mono ?_; rintro e w' ⟨rfl, rfl⟩)
  have hcl : ∀ k : Nat, k < 5 → (w.alloc (.cells #[er (A 0), er (A 1), er (A 2), er (A 3), er (A 4)] 26)).cell? ⟨w.heap.size, k, none⟩ = some (er (A k)) := by
    intro k hk
    rw [World.cell?_alloc_at _ _ _ _ rfl]
    rcases k with _ | _ | _ | _ | _ | k
    all_goals first | rfl | omega
  have hbl : ∀ i : Nat, i < 5 → ∃ c t, (w.alloc (.cells #[er (A 0), er (A 1), er (A 2), er (A 3), er (A 4)] 26)).heap[(A i).block]? = some (.cells c t (0, 0)) := by
    intro i hi
    obtain ⟨c, t, h⟩ := hb i hi
    have hlt : (A i).block < w.heap.size := by
      rcases Nat.lt_or_ge (A i).block w.heap.size with h' | h'
      · exact h'
      · simp [Array.getElem?_eq_none h'] at h
    refine ⟨c, t, ?_⟩
    show (w.heap.push _)[(A i).block]? = _
    simp only [Array.getElem?_push, Nat.ne_of_lt hlt, if_false]
    exact h
  clear h0 h1 h2 h3 h4 hb
  generalize hw1 : w.alloc (.cells #[er (A 0), er (A 1), er (A 2), er (A 3), er (A 4)] 26) = w1 at *
  generalize w.heap.size = N at *
  have Hw1 : Hid (_ = w1) := hw1
  clear hw1
  go_loop [8] (fun i => ∃ k : Nat, k ≤ 5 ∧ i = .int .i64 k) (fun i => 5 - (intOf i).toNat)
  case atStart => exact ⟨0, Nat.zero_le _, rfl⟩
  case round =>
    obtain ⟨k, hk, rfl⟩ := hrel
    by_cases hlt : k < 5
    · have hck := hcl k hlt
      go_wp2
      go_loop [4] (fun i => ∃ m : Nat, m ≤ k ∧ i = .int .i64 m) (fun i => k - (intOf i).toNat)
      case atStart => exact ⟨0, Nat.zero_le _, rfl⟩
      case round =>
        obtain ⟨m, hm, rfl⟩ := hrel
        by_cases hml : m < k
        · have hcm := hcl m (by omega)
          obtain ⟨cm, tm, hbm⟩ := hbl m (by omega)
          obtain ⟨ck, tk, hbk⟩ := hbl k hlt
          have hqq := run_eql_iface_ptr_other w1 Tryd.underlying26 Tryd.underlying27 hi hcmp hj (by rw [hjs]; decide) (hne k m hml hlt) hbm hbk
          go_wp2
          go_round
          case rel => exact ⟨m + 1, by omega, by go_num⟩
          case measure => simp [intOf]; omega
        · go_wp2
          go_round
          case rel => exact ⟨k + 1, by omega, by go_num⟩
          case measure => simp [intOf]; omega
    · go_wp2
      go_ret
      exact ⟨rfl, Hw1.out.symm⟩

set_option maxHeartbeats 400000 in
theorem names_any (A : Nat → Addr) (w : World)
    (h0 : w.cell? ⟨0, 0, none⟩ = some (er (A 0))) (h1 : w.cell? ⟨1, 0, none⟩ = some (er (A 1))) (h2 : w.cell? ⟨2, 0, none⟩ = some (er (A 2)))
    (h3 : w.cell? ⟨3, 0, none⟩ = some (er (A 3))) (h4 : w.cell? ⟨4, 0, none⟩ = some (er (A 4)))
    (hne : ∀ i k : Nat, k < i → i < 5 → A k ≠ A i)
    (hb : ∀ i : Nat, i < 5 → ∃ c t, w.heap[(A i).block]? = some (.cells c t (0, 0))) :
    Calls Tryd.prog 3 #[] w fun e w' => e = .returned (.bool true) ∧ w' = w.alloc (.cells #[er (A 0), er (A 1), er (A 2), er (A 3), er (A 4)] 26) := by
  go_enter Tryd.func3, Tryd.ntmps3
  go_wp2_with (go_at_call 4; refine (diff_any A _ h0 h1 h2 h3 h4 hne hb).mono ?_; rintro e w' ⟨rfl, rfl⟩)
  go_ret
  exact ⟨rfl, rfl⟩
end Go.Proofs.YtiobnidbjlmjbaaDoor
