/- Proved here: the law NestRounds of package trunnellaw06 returns true for all arrays of four bytes, and leaves its arguments as they were; condition: the package-level variables that its row lists start as the program's text lays them. -/
import Derived.Test.YtgkpejlddgoalaaGreatDoorCards
import Derived.Test.YtgkpejlddgoalaaGreatDoorTie
import Derived.Test.YtgkpejlddgoalaaGreatDoorJ15
import Derived.WalkKit
import Derived.ProofKit
import Derived.OpenShut
import Derived.Deep.DeepHandedRow
import Derived.Deep.DeepWitnessRowRef
import Derived.Lib.LaidTab
import Derived.Stop.LaidErr
import Derived.Shelf.Vars
import Derived.Lay
set_option linter.unusedSimpArgs false
set_option linter.unusedVariables false
set_option linter.constructorNameAsVariable false
namespace Go.Proofs.YtgkpejlddgoalaaGreatDoor.Nrd
open Go.ChangeShapes Go.WideShapes Go.ChangeAt Go.RowKit Go.Proofs.YtgkpejlddgoalaaGreatDoor Go.Proofs.YtgkpejlddgoalaaGreatDoor.Zm
open Go.Proofs.YtgkpejlddgoalaaGreatDoor.Ab (plainT kindAt agg_of cell_at Trod_plain)
open Go.ChangeMaps (open_string shut_string)

theorem own : ownKnob Tryz.prog.godebug = none := by kernel_rfl
noncomputable abbrev fn : Func := Tryz.f4
noncomputable abbrev wit (os : Os) : World := World.laidAll Tryz.prog os Rows.nestRoundsRow.laid
abbrev nul : Array Value := #[.agg #[.int .u8 0, .int .u8 0, .int .u8 0, .int .u8 0]]
set_option maxRecDepth 100000 in
theorem laid_met (os : Os) : laidMet Tryz.prog Rows.nestRoundsRow.laid ((wit os).forCall (fun _ _ => 0) ⟨#[], nul, []⟩).memory :=
  laidMet_laidAll _ (by kernel_rfl) (by kernel_rfl)
theorem reads (os : Os) {H : Type} (enc : TypeId × Value → H) : ∃ places, DataW.whole enc Tryz.prog ((wit os).forCall (fun _ _ => 0) ⟨#[], nul, []⟩).memory fn.params.toList Rows.nestRoundsSpec.vars false nul.toList 8 =
    some ([.agg [.lit (.int .u8 0), .lit (.int .u8 0), .lit (.int .u8 0), .lit (.int .u8 0)]], [], places) :=
  ⟨[], by kernel_rfl⟩
theorem tab_eq : (Rows.laid_internal_strconv_uint64pow10 : DataW Unit) = Lib.tabData .u64 ((List.range 20).map fun i => (10 : Int) ^ i) := by kernel_rfl
theorem prm : fn.params = #[40] := by kernel_rfl
theorem u3 : Tryz.prog.underlying 3 = some (.int .i64) := by kernel_rfl
theorem gPow : Tryz.prog.globalNamed "internal/strconv.uint64pow10" = some 2 := by kernel_rfl
/-- Where the table lies. -/
def tabEnv (n : Nat) : Env := fun k => if k = 0 then some (2, n) else none
theorem rep_of {W : World} {r : List (String × DataW Unit)} (h : laidMet Tryz.prog (("internal/strconv.uint64pow10", Lib.tabData .u64 ((List.range 20).map fun i => (10 : Int) ^ i)) :: r) W) : ∃ n, HRep (tabEnv n) h0 W ∧ GlOk gN (tabEnv n) := by
  have ht := Lib.tabIs_of_head (t := 321) (e := 223) (n := 20) gPow (by kernel_rfl) (by kernel_rfl) (by kernel_rfl) (by kernel_rfl) (by kernel_rfl) h
  unfold Lib.TabIs World.var? at ht
  rw [gPow] at ht
  simp only [Option.bind_some] at ht
  split at ht
  · rename_i cs T fr hh
    injection ht with ht
    have h1 : cs.toList = ((List.range 20).map fun i => (10 : Int) ^ i).map fun z => Value.int .u64 z := by rw [ht]
    have hc : holdsC (tabEnv cs.toList.length) ((List.range 20).map fun i => lc (.int .u64 (10 ^ i))) cs.toList := by
      rw [h1, List.map_map]
      have := litsC (σ := tabEnv cs.toList.length) (vs := (List.range 20).map fun i => Value.int .u64 (10 ^ i)) (by decide)
      rw [List.map_map] at this
      exact this
    refine ⟨cs.toList.length, ⟨fun k b hb => ?_, fun k k' g n n' h1 h2 _ _ => ?_, fun k g n h1 e => ?_, fun k x e => ?_⟩, fun k g e => ?_⟩
    · cases k with
      | zero =>
        simp only [h0, List.getElem?_cons_zero, Option.some.injEq] at hb
        subst hb
        exact ⟨2, cs.toList, [], T, fr, by simp [tabEnv], by rw [List.append_nil]; exact hh, hc⟩
      | succ k => simp [h0] at hb
    · have := live_lt h1; have := live_lt h2; simp [h0] at *; omega
    · unfold tabEnv at e
      split at e
      · simp only [Option.some.injEq, Prod.mk.injEq] at e
        rw [← e.1]
        exact (Array.getElem?_eq_some_iff.1 hh).1
      · cases e
    · unfold tabEnv at e
      split at e
      · rename_i hk; rw [hk]; decide
      · cases e
    · cases k with
      | zero =>
        simp only [gN, List.getElem?_cons_zero, Option.some.injEq] at e
        subst e
        exact ⟨_, by simp [tabEnv]; rfl⟩
      | succ k => simp [gN] at e
  · cases ht
theorem byte_in {W : World} {b : Nat} {v : Value} (h : Cell.okWide Tryz.prog W .any b 5 v) : ∃ n : Int, v = .int .u8 n ∧ 0 ≤ n ∧ n ≤ 255 := by
  have u5 : Tryz.prog.underlying 5 = some (.int .u8) := by kernel_rfl
  cases v <;> simp only [Cell.okWide, u5, Cell.ok] at h
  rename_i k n
  obtain ⟨rfl, h2⟩ := h
  simp only [IntKind.has] at h2
  have e1 : IntKind.u8.min = 0 := by kernel_rfl
  have e2 : IntKind.u8.max = 255 := by kernel_rfl
  rw [e1, e2] at h2
  exact ⟨n, rfl, h2⟩
set_option maxRecDepth 100000 in
theorem bytes_in {W : World} {b : Nat} {v : Value} (h : Value.okWide Tryz.prog W .any b 40 v) : ∃ a c d e : Int, v = .agg #[.int .u8 a, .int .u8 c, .int .u8 d, .int .u8 e] ∧ (0 ≤ a ∧ a ≤ 255) ∧ (0 ≤ c ∧ c ≤ 255) ∧ (0 ≤ d ∧ d ≤ 255) ∧ (0 ≤ e ∧ e ≤ 255) := by
  simp only [Value.okWide, Tryz.underlying40] at h
  obtain ⟨cs, rfl, hs, ts, hts, _, hc⟩ := h
  have hn : Tryz.prog.cellsOf 40 = 4 := by kernel_rfl
  rw [hn] at hs
  obtain ⟨c0, c1, c2, c3, rfl⟩ : ∃ c0 c1 c2 c3, cs = #[c0, c1, c2, c3] := by
    obtain ⟨l⟩ := cs
    match l, hs with
    | [c0, c1, c2, c3], _ => exact ⟨c0, c1, c2, c3, rfl⟩
  have ht : Tryz.prog.cellTypes Tryz.prog.depth 40 = some [5, 5, 5, 5] := by kernel_rfl
  obtain rfl := Option.some.inj (ht.symm.trans hts)
  obtain ⟨u0, e0, h0⟩ := hc 0 _ rfl
  obtain ⟨u1, e1, h1⟩ := hc 1 _ rfl
  obtain ⟨u2, e2, h2⟩ := hc 2 _ rfl
  obtain ⟨u3, e3, h3⟩ := hc 3 _ rfl
  simp at e0 e1 e2 e3
  subst e0 e1 e2 e3
  obtain ⟨n0, rfl, k0⟩ := byte_in h0
  obtain ⟨n1, rfl, k1⟩ := byte_in h1
  obtain ⟨n2, rfl, k2⟩ := byte_in h2
  obtain ⟨n3, rfl, k3⟩ := byte_in h3
  exact ⟨n0, n1, n2, n3, rfl, k0, k1, k2, k3⟩
set_option maxRecDepth 100000 in
/-- The law's body at whatever comes in. -/
theorem contract (H : Type) (enc : TypeId × Value → H) (W : World) (base : Nat) (args : Array Value) (ds gs : List (DataW H)) (before : List MemPlace)
    (hval : ∀ (j : Nat) t v, fn.params[j]? = some t → args[j]? = some v → Value.okWide Tryz.prog W .any base t v)
    (hW : DataW.Whole enc Tryz.prog fn.params.toList Rows.nestRoundsSpec.vars false W args.toList ds gs before) (hL : laidMetH Tryz.prog Rows.nestRoundsRow.laid W) (hS : W.ShapedOpen Tryz.prog) :
    Calls Tryz.prog 4 args W fun e W' => ∃ v, e = .returned v ∧ Rows.nestRoundsSpec.post enc Tryz.prog fn false true false false W args v W' := by
  have hW' := hW
  obtain ⟨p, q, hA0, hV, rfl, hfz, hnd⟩ := hW
  have hp : fn.params = #[40] := prm
  have hA : DataW.TrodAll enc Tryz.prog W 0 (fun _ => true) true fn.params.toList args.toList ds p := hA0
  rw [hp] at hA hval
  obtain ⟨v0, d0, rfl, rfl, hx0⟩ := trodAll_one hA
  obtain ⟨rfl, rfl⟩ := trodVars_none hV
  have pS : plainT Tryz.prog 10 40 = true := by kernel_rfl
  obtain ⟨a, b, c, p', rfl, ia, ib, ic, ip⟩ := bytes_in (hval 0 40 v0 (by simp) (by simp))
  have k0 := fun w b sp => Trod_plain (w' := w) (base' := b) (spare' := sp) pS hx0
  obtain rfl := (k0 W 0 (fun _ => true)).1
  clear hA0
  simp only [List.append_nil] at hW'
  have hL' : laidMet Tryz.prog Rows.nestRoundsRow.laid W := hL
  obtain ⟨z, hm, hgl⟩ := rep_of (r := _) (by rw [← tab_eq]; exact hL'.tail.tail)
  refine (lawR_at ia ib ic ip (tabEnv z) W [.agg #[.int .u8 a, .int .u8 b, .int .u8 c, .int .u8 p']] (Nat.le_refl _) hm hgl ⟨_, _, rfl, ⟨[.int .u8 a, .int .u8 b, .int .u8 c, .int .u8 p'], rfl, _, _, rfl, ⟨rfl, rfl⟩, _, _, rfl, ⟨rfl, rfl⟩, _, _, rfl, ⟨rfl, rfl⟩, _, _, rfl, ⟨rfl, rfl⟩, rfl⟩, rfl⟩).2.mono fun e W' ⟨v, he, x, G, ⟨hx, _⟩, τ, hl, hv⟩ => ?_
  subst hx
  obtain rfl : v = .bool true := hv.1
  subst he
  have hB : Below W.heap.size W W' := (hl.base.mono fun g ⟨k, m, h1, h2, _⟩ => by have := live_lt h2; simp [h0] at this; omega).below
  have hpm : fn.params.toList = [40] := by rw [hp]
  have hrt : fn.resultTypes.toList = [4] := by kernel_rfl
  have u4 : Tryz.prog.underlying 4 = some .bool := by kernel_rfl
  refine ⟨_, rfl, _, _, _, [], [], [], hW', ?_, ?_, rfl, hB.frame _, fun h => by cases h⟩
  · rw [hrt]
    exact trodAll_mk1 (shut_bool u4 _)
  · rw [hpm]
    exact trodAll_mk1 (k0 _ _ _).2

set_option maxRecDepth 100000 in
theorem lifted (os : Os) (started : os.Started) (H : Type) (enc : TypeId × Value → H) (F : Stop.Interp) :
    ReturnsInHanded {} Tryz.checked os 4 .any ((OpenSpec.ofChange Rows.nestRoundsSpec).preRow enc Tryz.prog fn Rows.nestRoundsRow.domain false Rows.nestRoundsRow.laid) (((OpenSpec.ofChange Rows.nestRoundsSpec).at F).post enc Tryz.prog fn false true false false) := by
  obtain ⟨places, hx⟩ := reads os enc
  refine returnsInHanded_of_row (C := Tryz.checked) (s := OpenSpec.ofChange Rows.nestRoundsSpec) own started (by kernel_rfl) Tryz.func4
    (witness_row_atRef (enc := enc) (C := Tryz.checked) false (wit os) nul (World.laidAll_os _ _ _) (by kernel_rfl) (by kernel_rfl) (by kernel_rfl)
      (OpenSpec.preRow_of_cond 8 hx (by kernel_rfl) (fun k hk => by cases hk) (by kernel_rfl) (laid_met os))) ?_
  intro W base args ds gs before hval hW _ _ _ hL hS _
  exact contract H enc W base args ds gs before hval hW hL hS

set_option maxHeartbeats 8000000 in
theorem closed : joinedFacts Tryz.pinned.checked.prog 4 fn (OpenSpec.ofChange Rows.nestRoundsSpec).bare Rows.nestRoundsRow = true := by
  simp only [joinedFacts, Bool.and_eq_true]
  repeat' apply And.intro
  all_goals as_aux_lemma => kernel_rfl
theorem named : Tryz.pinned.checked.prog.funcNamed Rows.nestRoundsRow.func = some 4 := by kernel_rfl
theorem said : Rows.NestRoundsSaid :=
  OpenClaim.holds_of_cond 4 fn rfl rfl rfl rfl rfl rfl rfl ⟨rfl, rfl, rfl, rfl, rfl⟩ rfl rfl rfl rfl rfl named Tryz.func4 closed
    (of_decide_eq_true (by kernel_rfl)) (by unfold Func.isWrapper; first | (rw [if_pos (by decide +kernel)]; kernel_rfl) | (rw [if_neg (by decide +kernel)]; exact ⟨rfl, rfl⟩))
    (fun os started H enc _ F => by rw [OpenClaim.pre_eq_preRow]; exact lifted os started H enc F)

theorem plain (f : FuncId) (g : Func) (hf : Tryz.pinned.checked.prog.funcNamed "trunnel/trunnellaw06.NestRounds" = some f) (hfn : Tryz.pinned.checked.prog.funcs[f]? = some g) :
    true = Tryz.pinned.checked.prog.looks [] ∧ ∀ (j : Nat) t, g.params[j]? = some t → Tryz.pinned.checked.prog.wantsStandIn t = false := by
  obtain rfl : f = 4 := Option.some.inj ((show Tryz.prog.funcNamed "trunnel/trunnellaw06.NestRounds" = some 4 by kernel_rfl).symm.trans hf) |>.symm
  obtain rfl : g = fn := (Option.some.inj (Tryz.func4.symm.trans hfn)).symm
  refine ⟨by kernel_rfl, fun j t ht => ?_⟩
  have hp : fn.params = #[40] := by kernel_rfl
  rw [hp] at ht
  have hm := Array.mem_of_getElem? ht
  simp only [List.mem_toArray, List.mem_cons, List.mem_nil_iff, or_false, List.mem_singleton] at hm
  rcases hm with rfl
  exact (show Tryz.prog.wantsStandIn _ = false by kernel_rfl)

theorem goes : false = Rows.nestRoundsRow.goesBy Tryz.pinned.checked.prog := by kernel_rfl
theorem card : Rows.NestRoundsCardSaid :=
  Claim7.holds_tied_plain_at .later [] _ _ _ _ said (fun _ h => by cases h) (by kernel_rfl) (fun _ h => by cases h) nestRounds_row_tie rfl ⟨rfl, rfl⟩ (by kernel_rfl) rfl plain goes
end Go.Proofs.YtgkpejlddgoalaaGreatDoor.Nrd
