/- Parts of the proof, joined. -/
import Derived.Test.YtgkpejlddgoalaaGreatDoorJ8
import Derived.Test.YtgkpejlddgoalaaGreatDoorJ10
set_option linter.unusedSimpArgs false
set_option linter.unusedVariables false
set_option linter.constructorNameAsVariable false
namespace Go.Proofs.YtgkpejlddgoalaaGreatDoor.Zm
open Go.RowKit

def impN (f : FuncId) : Bool := [159, 86, 113, 134, 135, 160, 213, 157, 205, 256, 129, 131, 164, 116, 156, 102, 214, 128, 71, 163, 105, 108, 139, 103, 138, 100, 97, 130, 132, 165, 101, 79, 215, 231].contains f
def gN : List Nat := [2]
def h0 : Hp := [.ro 321 ((List.range 20).map fun i => lc (.int .u64 (10 ^ i)))]
abbrev zi (n : Int) : C := lc (.int .i64 n)
def hp1 : Hp := h0 ++ [.cells 3 [(zi 30), (zi 40), (zi 30)],
  .cells 85 [(zi 40), (zi 50)],
  .cells 59 [(zi 100), (.b (.slc 2 0 1 1)), (zi 60), (lc (.slice none 0 0))]]
def hp2 : Hp := hp1 ++ [.dead,
  .cells 88 [(zi 0), (zi 0), (zi 0), (zi 50), (zi 1), (zi 0)],
  .dead,
  .dead,
  .dead,
  .dead,
  .dead,
  .dead,
  .dead,
  .dead,
  .dead,
  .dead]
def e1 : Ent := ⟨42, [(.f (.one (.b (.slc 3 0 2 2)))), (.f (.one (.b (.slc 1 0 3 3)))), (.f (.one (zi 5)))], hp1, 4, (.tup [(.one (.b (.slc 5 0 3 3))), (.one (zi 0))]), hp2⟩
theorem e1_ok : EntOk Tryz.prog gN e1 := ent_of_run (imp := impN) mixP entersP ExtOk.none 1000000 [5] (by kernel_rfl)
def hp3 : Hp := hp2 ++ [.cells 85 [(zi 40), (zi 50)],
  .cells 59 [(zi 100), (.b (.slc 16 0 1 1)), (zi 60), (lc (.slice none 0 0))]]
def hp4 : Hp := hp3 ++ [.dead,
  .dead,
  .cells 88 [(zi 0), (zi 50), (zi 0), (zi 0), (zi 1), (zi 0)],
  .dead,
  .dead,
  .dead,
  .dead,
  .dead,
  .dead,
  .dead,
  .dead,
  .dead,
  .dead]
def e2 : Ent := ⟨44, [(.f (.one (.b (.slc 17 0 2 2)))), (.f (.one (.b (.slc 1 0 3 3)))), (.f (.one (zi 5)))], hp3, 18, (.tup [(.one (.b (.slc 20 0 3 3))), (.one (zi 0))]), hp4⟩
theorem e2_ok : EntOk Tryz.prog gN e2 := ent_of_run (imp := impN) mixP entersP ExtOk.none 1000000 [20] (by kernel_rfl)
def hp5 : Hp := hp4 ++ [.cells 85 [(zi 40), (zi 50)],
  .cells 59 [(zi 100), (.b (.slc 31 0 1 1)), (zi 60), (lc (.slice none 0 0))]]
def e3 : Ent := ⟨45, [(.f (.one (.b (.slc 32 0 2 2)))), (.f (.one (.b (.slc 1 0 3 3)))), (.f (.one (zi 5))), (.f (.one (.b (.slc 5 0 3 3))))], hp5, 33, (.tup [(.one (zi 60)), (.one (zi 0))]), hp5⟩
theorem e3_ok : EntOk Tryz.prog gN e3 := ent_of_run (imp := impN) mixP entersP ExtOk.none 1000000 [] (by kernel_rfl)
def hp6 : Hp := hp5 ++ [.cells 85 [(zi 40), (zi 50)],
  .cells 59 [(zi 100), (.b (.slc 33 0 1 1)), (zi 60), (lc (.slice none 0 0))],
  .cells 3 [(zi 40)]]
def hp7 : Hp := hp6 ++ [.dead,
  .dead,
  .dead,
  .dead,
  .dead,
  .row 88 [(zi 1), (zi 0)]]
def e4 : Ent := ⟨46, [(.f (.one (.b (.slc 34 0 2 2)))), (.f (.one (.b (.slc 35 0 1 1)))), (.f (.one (zi 5)))], hp6, 36, (.tup [(.one (.b (.row 41 0 1 2))), (.one (zi 0))]), hp7⟩
theorem e4_ok : EntOk Tryz.prog gN e4 := ent_of_run (imp := impN) mixP entersP ExtOk.none 1000000 [41] (by kernel_rfl)
def hp8 : Hp := hp7 ++ [.cells 85 [(zi 40), (zi 50)],
  .cells 59 [(zi 100), (.b (.slc 42 0 1 1)), (zi 60), (lc (.slice none 0 0))]]
def hp9 : Hp := hp8 ++ [.dead,
  .dead,
  .dead,
  .dead,
  .dead,
  .dead,
  .dead,
  .dead,
  .dead]
def e5 : Ent := ⟨47, [(.f (.one (.b (.slc 43 0 2 2)))), (.f (.one (.b (.slc 1 0 3 3)))), (.f (.one (zi 5)))], hp8, 44, (.tup [(.one (lc (.string ⟨#[49]⟩))), (.one (zi 0))]), hp9⟩
theorem e5_ok : EntOk Tryz.prog gN e5 := ent_of_run (imp := impN) mixP entersP ExtOk.none 1000000 [] (by kernel_rfl)
def hp10 : Hp := h0 ++ [.cells 3 [(zi 30), (zi 40), (zi 30)],
  .cells 85 [(zi 40), (zi 50)],
  .cells 59 [(zi 100), (.b (.slc 2 0 1 1)), (zi 60), (lc (.slice none 0 0))],
  .dead,
  .cells 88 [(zi 0), (zi 0), (zi 0), (zi 50), (zi 1), (zi 0)],
  .dead,
  .dead,
  .dead,
  .dead,
  .dead,
  .dead,
  .dead,
  .dead,
  .dead,
  .dead,
  .cells 85 [(zi 40), (zi 50)],
  .cells 59 [(zi 100), (.b (.slc 16 0 1 1)), (zi 60), (lc (.slice none 0 0))],
  .dead,
  .dead,
  .cells 88 [(zi 0), (zi 50), (zi 0), (zi 0), (zi 1), (zi 0)],
  .dead,
  .dead,
  .dead,
  .dead,
  .dead,
  .dead,
  .dead,
  .dead,
  .dead,
  .dead,
  .cells 85 [(zi 40), (zi 50)],
  .cells 59 [(zi 100), (.b (.slc 31 0 1 1)), (zi 60), (lc (.slice none 0 0))],
  .cells 85 [(zi 40), (zi 50)],
  .cells 59 [(zi 100), (.b (.slc 33 0 1 1)), (zi 60), (lc (.slice none 0 0))],
  .cells 3 [(zi 40)],
  .dead,
  .dead,
  .dead,
  .dead,
  .dead,
  .row 88 [(zi 1), (zi 0)],
  .cells 85 [(zi 40), (zi 50)],
  .cells 59 [(zi 100), (.b (.slc 42 0 1 1)), (zi 60), (lc (.slice none 0 0))],
  .cells 85 [(zi 40), (zi 50)],
  .cells 59 [(zi 100), (.b (.slc 44 0 1 1)), (zi 60), (lc (.slice none 0 0))]]
def hp11 : Hp := hp10 ++ [.dead,
  .dead,
  .dead,
  .dead,
  .dead,
  .dead,
  .dead,
  .dead,
  .dead]
def e6 : Ent := ⟨48, [(.f (.one (.b (.slc 45 0 2 2)))), (.f (.one (.b (.slc 1 0 3 3)))), (.f (.one (zi 5)))], hp10, 46, (.tup [(.one (zi 110)), (.one (zi 0))]), hp11⟩
theorem e6_ok : EntOk Tryz.prog gN e6 := ent_of_run (imp := impN) mixP entersP ExtOk.none 1000000 [] (by kernel_rfl)
def hp12 : Hp := h0 ++ [.cells 3 [(zi 30), (zi 40), (zi 30)],
  .cells 85 [(zi 40), (zi 50)],
  .cells 59 [(zi 100), (.b (.slc 2 0 1 1)), (zi 60), (lc (.slice none 0 0))],
  .dead,
  .cells 88 [(zi 0), (zi 0), (zi 0), (zi 50), (zi 1), (zi 0)],
  .dead,
  .dead,
  .dead,
  .dead,
  .dead,
  .dead,
  .dead,
  .dead,
  .dead,
  .dead,
  .cells 85 [(zi 40), (zi 50)],
  .cells 59 [(zi 100), (.b (.slc 16 0 1 1)), (zi 60), (lc (.slice none 0 0))],
  .dead,
  .dead,
  .cells 88 [(zi 0), (zi 50), (zi 0), (zi 0), (zi 1), (zi 0)],
  .dead,
  .dead,
  .dead,
  .dead,
  .dead,
  .dead,
  .dead,
  .dead,
  .dead,
  .dead,
  .cells 85 [(zi 40), (zi 50)],
  .cells 59 [(zi 100), (.b (.slc 31 0 1 1)), (zi 60), (lc (.slice none 0 0))],
  .cells 85 [(zi 40), (zi 50)],
  .cells 59 [(zi 100), (.b (.slc 33 0 1 1)), (zi 60), (lc (.slice none 0 0))],
  .cells 3 [(zi 40)],
  .dead,
  .dead,
  .dead,
  .dead,
  .dead,
  .row 88 [(zi 1), (zi 0)],
  .cells 85 [(zi 40), (zi 50)],
  .cells 59 [(zi 100), (.b (.slc 42 0 1 1)), (zi 60), (lc (.slice none 0 0))],
  .cells 85 [(zi 40), (zi 50)],
  .cells 59 [(zi 100), (.b (.slc 44 0 1 1)), (zi 60), (lc (.slice none 0 0))],
  .dead,
  .dead]
def e7 : Ent := ⟨20, [(.f (.one (zi 5)))], hp10, 46, (.tup [(.one (zi 3)), (.one (zi 4)), (.one (zi 0))]), hp12⟩
theorem e7_ok : EntOk Tryz.prog gN e7 := ent_of_run (imp := impN) mixP entersP ExtOk.none 1000000 [] (by kernel_rfl)
def hp13 : Hp := h0 ++ [.cells 3 [(zi 30), (zi 40), (zi 30)],
  .cells 85 [(zi 40), (zi 50)],
  .cells 59 [(zi 100), (.b (.slc 2 0 1 1)), (zi 60), (lc (.slice none 0 0))],
  .dead,
  .cells 88 [(zi 0), (zi 0), (zi 0), (zi 50), (zi 1), (zi 0)],
  .dead,
  .dead,
  .dead,
  .dead,
  .dead,
  .dead,
  .dead,
  .dead,
  .dead,
  .dead,
  .cells 85 [(zi 40), (zi 50)],
  .cells 59 [(zi 100), (.b (.slc 16 0 1 1)), (zi 60), (lc (.slice none 0 0))],
  .dead,
  .dead,
  .cells 88 [(zi 0), (zi 50), (zi 0), (zi 0), (zi 1), (zi 0)],
  .dead,
  .dead,
  .dead,
  .dead,
  .dead,
  .dead,
  .dead,
  .dead,
  .dead,
  .dead,
  .cells 85 [(zi 40), (zi 50)],
  .cells 59 [(zi 100), (.b (.slc 31 0 1 1)), (zi 60), (lc (.slice none 0 0))],
  .cells 85 [(zi 40), (zi 50)],
  .cells 59 [(zi 100), (.b (.slc 33 0 1 1)), (zi 60), (lc (.slice none 0 0))],
  .cells 3 [(zi 40)],
  .dead,
  .dead,
  .dead,
  .dead,
  .dead,
  .row 88 [(zi 1), (zi 0)],
  .cells 85 [(zi 40), (zi 50)],
  .cells 59 [(zi 100), (.b (.slc 42 0 1 1)), (zi 60), (lc (.slice none 0 0))],
  .cells 85 [(zi 40), (zi 50)],
  .cells 59 [(zi 100), (.b (.slc 44 0 1 1)), (zi 60), (lc (.slice none 0 0))],
  .dead,
  .cells 3 [(zi 8), (zi 19), (zi 8)]]
def e8 : Ent := ⟨10, [(.f (.one (zi 20))), (.f (.one (zi 6))), (.f (.one (zi 0))), (.f (.one (zi 3)))], hp10, 46, (.tup [(.one (.b (.slc 47 0 3 3))), (.one (zi 0))]), hp13⟩
theorem e8_ok : EntOk Tryz.prog gN e8 := ent_of_run (imp := impN) mixP entersP ExtOk.none 1000000 [47] (by kernel_rfl)
def hp14 : Hp := hp13 ++ [.dead,
  .dead,
  .dead,
  .dead,
  .dead]
def e9 : Ent := ⟨11, [(.f (.one (zi 20))), (.f (.one (zi 6))), (.f (.one (zi 0)))], hp13, 48, (.tup [(.one (zi 3)), (.one (zi 0))]), hp14⟩
theorem e9_ok : EntOk Tryz.prog gN e9 := ent_of_run (imp := impN) mixP entersP ExtOk.none 1000000 [] (by kernel_rfl)
def hp15 : Hp := h0 ++ [.cells 3 [(zi 30), (zi 40), (zi 30)],
  .cells 85 [(zi 40), (zi 50)],
  .cells 59 [(zi 100), (.b (.slc 2 0 1 1)), (zi 60), (lc (.slice none 0 0))],
  .dead,
  .cells 88 [(zi 0), (zi 0), (zi 0), (zi 50), (zi 1), (zi 0)],
  .dead,
  .dead,
  .dead,
  .dead,
  .dead,
  .dead,
  .dead,
  .dead,
  .dead,
  .dead,
  .cells 85 [(zi 40), (zi 50)],
  .cells 59 [(zi 100), (.b (.slc 16 0 1 1)), (zi 60), (lc (.slice none 0 0))],
  .dead,
  .dead,
  .cells 88 [(zi 0), (zi 50), (zi 0), (zi 0), (zi 1), (zi 0)],
  .dead,
  .dead,
  .dead,
  .dead,
  .dead,
  .dead,
  .dead,
  .dead,
  .dead,
  .dead,
  .cells 85 [(zi 40), (zi 50)],
  .cells 59 [(zi 100), (.b (.slc 31 0 1 1)), (zi 60), (lc (.slice none 0 0))],
  .cells 85 [(zi 40), (zi 50)],
  .cells 59 [(zi 100), (.b (.slc 33 0 1 1)), (zi 60), (lc (.slice none 0 0))],
  .cells 3 [(zi 40)],
  .dead,
  .dead,
  .dead,
  .dead,
  .dead,
  .row 88 [(zi 1), (zi 0)],
  .cells 85 [(zi 40), (zi 50)],
  .cells 59 [(zi 100), (.b (.slc 42 0 1 1)), (zi 60), (lc (.slice none 0 0))],
  .cells 85 [(zi 40), (zi 50)],
  .cells 59 [(zi 100), (.b (.slc 44 0 1 1)), (zi 60), (lc (.slice none 0 0))],
  .dead,
  .cells 3 [(zi 8), (zi 19), (zi 8)],
  .cells 3 [(zi 10), (zi 5)],
  .cells 85 [(zi 3), (zi 4), (zi 6), (zi 8)]]
def hp16 : Hp := hp15 ++ [.dead,
  .dead,
  .dead,
  .dead,
  .dead,
  .cells 3 [(zi 1), (zi 0)],
  .dead,
  .dead]
def e10 : Ent := ⟨39, [(.f (.one (.b (.slc 48 0 2 2)))), (.f (.one (.b (.slc 49 0 2 2))))], hp15, 50, (.tup [(.one (.b (.slc 55 0 2 2))), (.one (zi 0))]), hp16⟩
theorem e10_ok : EntOk Tryz.prog gN e10 := ent_of_run (imp := impN) mixP entersP ExtOk.none 1000000 [55] (by kernel_rfl)
def tabN : List Ent := [e1, e2, e3, e4, e5, e6, e7, e8, e9, e10]
theorem tabN_ok : ∀ e ∈ tabN, EntOk Tryz.prog gN e := by
  intro e h
  simp only [tabN, List.mem_cons, List.not_mem_nil, or_false] at h
  rcases h with rfl | rfl | rfl | rfl | rfl | rfl | rfl | rfl | rfl | rfl
  · exact e1_ok
  · exact e2_ok
  · exact e3_ok
  · exact e4_ok
  · exact e5_ok
  · exact e6_ok
  · exact e7_ok
  · exact e8_ok
  · exact e9_ok
  · exact e10_ok
theorem awake_run {σ : Env} {w : World} (hm : HRep σ h0 w) (hgl : GlOk gN σ) : Calls Tryz.prog 9 #[] w fun e w' => e = .returned (.bool true) ∧ Below w.heap.size w w' := by
  refine (calls_of_tab (imp := impN) (ext := fun _ _ _ => none) (ro := 1) mixP entersP ExtOk.none 1000000 1000000 tabN_ok (f := 9) (args := []) (x := lv (.bool true)) (by kernel_rfl) (Nat.le_refl _) hm hgl (vs := []) rfl).mono ?_
  rintro e w' ⟨v, e1, τ, _, hb, hx⟩
  rw [hold_lv hx] at e1
  exact ⟨e1, (hb.mono fun g ⟨k, n, h1, ⟨b, h2, _⟩, _⟩ => by have := (List.getElem?_eq_some_iff.1 h2).1; simp [h0] at this; omega).below⟩
end Go.Proofs.YtgkpejlddgoalaaGreatDoor.Zm
