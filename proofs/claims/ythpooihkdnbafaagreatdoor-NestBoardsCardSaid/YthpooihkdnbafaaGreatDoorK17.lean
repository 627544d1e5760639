/- Proved here: the law NestBoards of package trunnellaw06 returns true for all sizes and all machine integers, and leaves its arguments as they were; condition: the package-level variables that its row lists start as the program's text lays them. -/
import Derived.Test.YthpooihkdnbafaaGreatDoorCards
import Derived.Test.YthpooihkdnbafaaGreatDoorTie
import Derived.Test.YthpooihkdnbafaaGreatDoorJ14
import Derived.Test.YthpooihkdnbafaaGreatDoorJ15
import Derived.WalkKit
import Derived.ProofKit
import Derived.OpenShut
import Derived.Deep.DeepHandedRow
import Derived.Deep.DeepWitnessRowRef
import Derived.Lib.LaidTab
import Derived.Stop.LaidErr
import Derived.Shelf.Vars
import Derived.Lay
set_option linter.unusedSimpArgs false
set_option linter.unusedVariables false
set_option linter.constructorNameAsVariable false
namespace Go.Proofs.YthpooihkdnbafaaGreatDoor.Nbd
open Go.ChangeShapes Go.WideShapes Go.ChangeAt Go.RowKit Go.Proofs.YthpooihkdnbafaaGreatDoor Go.Proofs.YthpooihkdnbafaaGreatDoor.Zm
open Go.Proofs.YthpooihkdnbafaaGreatDoor.Ab (plainT kindAt agg_of cell_at Trod_plain)
open Go.ChangeMaps (open_string shut_string)

theorem own : ownKnob Tryz.prog.godebug = none := by kernel_rfl
noncomputable abbrev fn : Func := Tryz.f3
noncomputable abbrev wit (os : Os) : World := World.laidAll Tryz.prog os Rows.nestBoardsRow.laid
abbrev nul : Array Value := #[.agg #[.int .i64 0, .int .i64 0, .int .i64 0], .int .i64 0]
set_option maxRecDepth 100000 in
theorem laid_met (os : Os) : laidMet Tryz.prog Rows.nestBoardsRow.laid ((wit os).forCall (fun _ _ => 0) ⟨#[], nul, []⟩).memory :=
  laidMet_laidAll _ (by kernel_rfl) (by kernel_rfl)
theorem reads (os : Os) {H : Type} (enc : TypeId × Value → H) : ∃ places, DataW.whole enc Tryz.prog ((wit os).forCall (fun _ _ => 0) ⟨#[], nul, []⟩).memory fn.params.toList Rows.nestBoardsSpec.vars false nul.toList 8 =
    some ([.agg [.lit (.int .i64 0), .lit (.int .i64 0), .lit (.int .i64 0)], .lit (.int .i64 0)], [], places) :=
  ⟨[], by kernel_rfl⟩
theorem tab_eq : (Rows.laid_internal_strconv_uint64pow10 : DataW Unit) = Lib.tabData .u64 ((List.range 20).map fun i => (10 : Int) ^ i) := by kernel_rfl
theorem prm : fn.params = #[23, 3] := by kernel_rfl
theorem u3 : Tryz.prog.underlying 3 = some (.int .i64) := by kernel_rfl
theorem gPow : Tryz.prog.globalNamed "internal/strconv.uint64pow10" = some 2 := by kernel_rfl
/-- Where the table lies. -/
def tabEnv (n : Nat) : Env := fun k => if k = 0 then some (2, n) else none
theorem rep_of {W : World} {r : List (String × DataW Unit)} (h : laidMet Tryz.prog (("internal/strconv.uint64pow10", Lib.tabData .u64 ((List.range 20).map fun i => (10 : Int) ^ i)) :: r) W) : ∃ n, HRep (tabEnv n) h0 W ∧ GlOk gN (tabEnv n) := by
  have ht := Lib.tabIs_of_head (t := 291) (e := 196) (n := 20) gPow (by kernel_rfl) (by kernel_rfl) (by kernel_rfl) (by kernel_rfl) (by kernel_rfl) h
  unfold Lib.TabIs World.var? at ht
  rw [gPow] at ht
  simp only [Option.bind_some] at ht
  split at ht
  · rename_i cs T fr hh
    injection ht with ht
    have h1 : cs.toList = ((List.range 20).map fun i => (10 : Int) ^ i).map fun z => Value.int .u64 z := by rw [ht]
    have hc : holdsC (tabEnv cs.toList.length) ((List.range 20).map fun i => lc (.int .u64 (10 ^ i))) cs.toList := by
      rw [h1, List.map_map]
      have := litsC (σ := tabEnv cs.toList.length) (vs := (List.range 20).map fun i => Value.int .u64 (10 ^ i)) (by decide)
      rw [List.map_map] at this
      exact this
    refine ⟨cs.toList.length, ⟨fun k b hb => ?_, fun k k' g n n' h1 h2 _ _ => ?_, fun k g n h1 e => ?_, fun k x e => ?_⟩, fun k g e => ?_⟩
    · cases k with
      | zero =>
        simp only [h0, List.getElem?_cons_zero, Option.some.injEq] at hb
        subst hb
        exact ⟨2, cs.toList, [], T, fr, by simp [tabEnv], by rw [List.append_nil]; exact hh, hc⟩
      | succ k => simp [h0] at hb
    · have := live_lt h1; have := live_lt h2; simp [h0] at *; omega
    · unfold tabEnv at e
      split at e
      · simp only [Option.some.injEq, Prod.mk.injEq] at e
        rw [← e.1]
        exact (Array.getElem?_eq_some_iff.1 hh).1
      · cases e
    · unfold tabEnv at e
      split at e
      · rename_i hk; rw [hk]; decide
      · cases e
    · cases k with
      | zero =>
        simp only [gN, List.getElem?_cons_zero, Option.some.injEq] at e
        subst e
        exact ⟨_, by simp [tabEnv]; rfl⟩
      | succ k => simp [gN] at e
  · cases ht
/-- Three numbers. -/
theorem open_ints {H : Type} {enc : TypeId × Value → H} {P : Program} {w : World} {base : Nat} {spare : Nat → Bool} {held : Bool} {b0 : Nat} {T : TypeId} {v : Value} {D : DataW H} {p : List MemPlace} (hu : (match P.underlying T with | some (.struct _) | some (.array _ _) => true | _ => false) = true) (hC : P.cellsOf T = 3)
    (hk : (kindAt P 10 T 0, kindAt P 10 T 1, kindAt P 10 T 2) = (some false, some false, some false)) (hv : Value.okWide P w .any b0 T v) (h : DataW.Trod enc P w base spare held T v D p) : ∃ a b c : Int, v = .agg #[.int .i64 a, .int .i64 b, .int .i64 c] := by
  simp only [Prod.mk.injEq] at hk
  obtain ⟨cs, rfl, hs⟩ := agg_of hu hC hv
  obtain ⟨c0, c1, c2, rfl⟩ : ∃ c0 c1 c2, cs = #[c0, c1, c2] := by
    obtain ⟨l⟩ := cs
    match l, hs with
    | [c0, c1, c2], _ => exact ⟨c0, c1, c2, rfl⟩
  obtain ⟨_, e0, a, rfl, ha⟩ := cell_at 0 h hk.1
  obtain ⟨_, e1, b, rfl, hb⟩ := cell_at 1 h hk.2.1
  obtain ⟨_, e2, c, rfl, hc⟩ := cell_at 2 h hk.2.2
  simp at e0 e1 e2
  subst e0 e1 e2
  exact ⟨a, b, c, rfl⟩
set_option maxRecDepth 100000 in
/-- The law's body at whatever comes in. -/
theorem contract (H : Type) (enc : TypeId × Value → H) (W : World) (base : Nat) (args : Array Value) (ds gs : List (DataW H)) (before : List MemPlace)
    (hval : ∀ (j : Nat) t v, fn.params[j]? = some t → args[j]? = some v → Value.okWide Tryz.prog W .any base t v)
    (hW : DataW.Whole enc Tryz.prog fn.params.toList Rows.nestBoardsSpec.vars false W args.toList ds gs before) (hL : laidMetH Tryz.prog Rows.nestBoardsRow.laid W) (hS : W.ShapedOpen Tryz.prog) :
    Calls Tryz.prog 3 args W fun e W' => ∃ v, e = .returned v ∧ Rows.nestBoardsSpec.post enc Tryz.prog fn false true false false W args v W' := by
  have hW' := hW
  obtain ⟨p, q, hA0, hV, rfl, hfz, hnd⟩ := hW
  have hp : fn.params = #[23, 3] := prm
  have hA : DataW.TrodAll enc Tryz.prog W 0 (fun _ => true) true fn.params.toList args.toList ds p := hA0
  rw [hp] at hA hval
  obtain ⟨v0, v1, d0, d1, p0, p1, rfl, rfl, rfl, hx0, hx1⟩ := trodAll_two hA
  obtain ⟨rfl, rfl⟩ := trodVars_none hV
  have pS : plainT Tryz.prog 10 23 = true := by kernel_rfl
  obtain ⟨a, k, d, rfl⟩ := open_ints (by kernel_rfl) (by kernel_rfl) (by kernel_rfl) (hval 0 23 v0 (by simp) (by simp)) hx0
  have x1 := hval 1 3 v1 (by simp) (by simp)
  obtain ⟨n, rfl, rfl, rfl, wn⟩ := open_int u3 x1 hx1
  have k0 := fun w b sp => Trod_plain (w' := w) (base' := b) (spare' := sp) pS hx0
  obtain rfl := (k0 W 0 (fun _ => true)).1
  clear hA0
  simp only [List.append_nil] at hW'
  have hL' : laidMet Tryz.prog Rows.nestBoardsRow.laid W := hL
  obtain ⟨z, hm, hgl⟩ := rep_of (r := _) (by rw [← tab_eq]; exact hL'.tail.tail)
  refine (lawB_at a k d n (tabEnv z) W [.agg #[.int .i64 a, .int .i64 k, .int .i64 d], .int .i64 n] (Nat.le_refl _) hm hgl ⟨_, _, rfl, ⟨[.int .i64 a, .int .i64 k, .int .i64 d], rfl, _, _, rfl, ⟨rfl, rfl⟩, _, _, rfl, ⟨rfl, rfl⟩, _, _, rfl, ⟨rfl, rfl⟩, rfl⟩, _, _, rfl, ⟨rfl, rfl⟩, rfl⟩).2.mono fun e W' ⟨v, he, x, G, ⟨hx, _⟩, τ, hl, hv⟩ => ?_
  subst hx
  obtain rfl : v = .bool true := hv.1
  subst he
  have hB : Below W.heap.size W W' := (hl.base.mono fun g ⟨k, m, h1, h2, _⟩ => by have := live_lt h2; simp [h0] at this; omega).below
  have hpm : fn.params.toList = [23, 3] := by rw [hp]
  have hrt : fn.resultTypes.toList = [4] := by kernel_rfl
  have u4 : Tryz.prog.underlying 4 = some .bool := by kernel_rfl
  refine ⟨_, rfl, _, _, _, [], [], [], hW', ?_, ?_, rfl, hB.frame _, fun h => by cases h⟩
  · rw [hrt]
    exact trodAll_mk1 (shut_bool u4 _)
  · rw [hpm]
    exact trodAll_mk2 (p := []) (p' := []) (k0 _ _ _).2 (shut_int u3 wn)

set_option maxRecDepth 100000 in
theorem lifted (os : Os) (started : os.Started) (H : Type) (enc : TypeId × Value → H) (F : Stop.Interp) :
    ReturnsInHanded {} Tryz.checked os 3 .any ((OpenSpec.ofChange Rows.nestBoardsSpec).preRow enc Tryz.prog fn Rows.nestBoardsRow.domain false Rows.nestBoardsRow.laid) (((OpenSpec.ofChange Rows.nestBoardsSpec).at F).post enc Tryz.prog fn false true false false) := by
  obtain ⟨places, hx⟩ := reads os enc
  refine returnsInHanded_of_row (C := Tryz.checked) (s := OpenSpec.ofChange Rows.nestBoardsSpec) own started (by kernel_rfl) Tryz.func3
    (witness_row_atRef (enc := enc) (C := Tryz.checked) false (wit os) nul (World.laidAll_os _ _ _) (by kernel_rfl) (by kernel_rfl) (by kernel_rfl)
      (OpenSpec.preRow_of_cond 8 hx (by kernel_rfl) (fun k hk => by cases hk) (by kernel_rfl) (laid_met os))) ?_
  intro W base args ds gs before hval hW _ _ _ hL hS _
  exact contract H enc W base args ds gs before hval hW hL hS

set_option maxHeartbeats 8000000 in
theorem closed : joinedFacts Tryz.pinned.checked.prog 3 fn (OpenSpec.ofChange Rows.nestBoardsSpec).bare Rows.nestBoardsRow = true := by
  simp only [joinedFacts, Bool.and_eq_true]
  repeat' apply And.intro
  all_goals as_aux_lemma => kernel_rfl
theorem named : Tryz.pinned.checked.prog.funcNamed Rows.nestBoardsRow.func = some 3 := by kernel_rfl
theorem said : Rows.NestBoardsSaid :=
  OpenClaim.holds_of_cond 3 fn rfl rfl rfl rfl rfl rfl rfl ⟨rfl, rfl, rfl, rfl, rfl⟩ rfl rfl rfl rfl rfl named Tryz.func3 closed
    (of_decide_eq_true (by kernel_rfl)) (by unfold Func.isWrapper; first | (rw [if_pos (by decide +kernel)]; kernel_rfl) | (rw [if_neg (by decide +kernel)]; exact ⟨rfl, rfl⟩))
    (fun os started H enc _ F => by rw [OpenClaim.pre_eq_preRow]; exact lifted os started H enc F)

theorem plain (f : FuncId) (g : Func) (hf : Tryz.pinned.checked.prog.funcNamed "trunnel/trunnellaw06.NestBoards" = some f) (hfn : Tryz.pinned.checked.prog.funcs[f]? = some g) :
    true = Tryz.pinned.checked.prog.looks [] ∧ ∀ (j : Nat) t, g.params[j]? = some t → Tryz.pinned.checked.prog.wantsStandIn t = false := by
  obtain rfl : f = 3 := Option.some.inj ((show Tryz.prog.funcNamed "trunnel/trunnellaw06.NestBoards" = some 3 by kernel_rfl).symm.trans hf) |>.symm
  obtain rfl : g = fn := (Option.some.inj (Tryz.func3.symm.trans hfn)).symm
  refine ⟨by kernel_rfl, fun j t ht => ?_⟩
  have hp : fn.params = #[23, 3] := by kernel_rfl
  rw [hp] at ht
  have hm := Array.mem_of_getElem? ht
  simp only [List.mem_toArray, List.mem_cons, List.mem_nil_iff, or_false] at hm
  rcases hm with rfl | rfl <;> exact (show Tryz.prog.wantsStandIn _ = false by kernel_rfl)

theorem goes : false = Rows.nestBoardsRow.goesBy Tryz.pinned.checked.prog := by kernel_rfl
theorem card : Rows.NestBoardsCardSaid :=
  Claim7.holds_tied_plain_at .later [] _ _ _ _ said (fun _ h => by cases h) (by kernel_rfl) (fun _ h => by cases h) nestBoards_row_tie rfl ⟨rfl, rfl⟩ (by kernel_rfl) rfl plain goes
end Go.Proofs.YthpooihkdnbafaaGreatDoor.Nbd
