/- Proved here: the law SpaceLagrange of package trunnellaw01 returns true for all texts of any bytes, and leaves its arguments as they were; condition: the package-level variables that its row lists start as the program's text lays them. -/
import Derived.Test.YtpjknnddanhgkaaGreatDoorCards
import Derived.Test.YtpjknnddanhgkaaGreatDoorTie
import Derived.Test.YtpjknnddanhgkaaGreatDoorJ8
set_option maxHeartbeats 4000000
set_option linter.unusedSimpArgs false
set_option linter.unusedVariables false
set_option linter.constructorNameAsVariable false
namespace Go.Proofs.YtpjknnddanhgkaaGreatDoor
namespace Lag
open Go.ChangeShapes Go.WideShapes Go.ChangeAt Go.RowKit Ab
open Go.ChangeMaps (open_string shut_string)
theorem own:ownKnob Tryz.prog.godebug=none:=by kernel_rfl
noncomputable abbrev fn:Func:=Tryz.f3
noncomputable abbrev wit (os:Os):World:=World.laidAll Tryz.prog os Rows.spaceLagrangeRow.laid
abbrev nul:Array Value := #[.agg #[.string ⟨#[]⟩,.string ⟨#[]⟩,.string ⟨#[]⟩],.agg #[.string ⟨#[]⟩,.string ⟨#[]⟩,.string ⟨#[]⟩],.string ⟨#[]⟩]
set_option maxRecDepth 100000 in
theorem laid_met (os:Os):laidMet Tryz.prog Rows.spaceLagrangeRow.laid ((wit os).forCall (fun _ _=>0) ⟨#[],nul,[]⟩).memory :=
 laidMet_laidAll _ (by kernel_rfl) (by kernel_rfl)
theorem reads (os:Os) {H:Type} (enc:TypeId×Value→H):∃ places,DataW.whole enc Tryz.prog ((wit os).forCall (fun _ _=>0) ⟨#[],nul,[]⟩).memory fn.params.toList Rows.spaceLagrangeSpec.vars false nul.toList 8 =
 some ([.agg [.lit (.string []),.lit (.string []),.lit (.string [])],.agg [.lit (.string []),.lit (.string []),.lit (.string [])],.lit (.string [])],[],places) :=
 ⟨[],by kernel_rfl⟩
theorem tab_eq:(Rows.laid_internal_strconv_uint64pow10:DataW Unit)=Lib.tabData .u64 Lib.pow10Tab:=by kernel_rfl
theorem prm:fn.params = #[24,24,22]:=by kernel_rfl
set_option maxRecDepth 100000 in
theorem contract (H:Type) (enc:TypeId×Value→H) (W:World) (base:Nat) (args:Array Value) (ds gs:List (DataW H)) (before:List MemPlace)
 (hval:∀ (j:Nat) t v,fn.params[j]?=some t→args[j]?=some v→Value.okWide Tryz.prog W .any base t v)
 (hW:DataW.Whole enc Tryz.prog fn.params.toList Rows.spaceLagrangeSpec.vars false W args.toList ds gs before) (hL:laidMetH Tryz.prog Rows.spaceLagrangeRow.laid W) (hS:W.ShapedOpen Tryz.prog) :
 Calls Tryz.prog 3 args W fun e W' => ∃ v,e = .returned v∧Rows.spaceLagrangeSpec.post enc Tryz.prog fn false true false false W args v W':=by
 have hW':=hW
 obtain ⟨p,q,hA0,hV,rfl,hfz,hnd⟩:=hW
 have hp:fn.params = #[24,24,22]:=prm
 have hA:DataW.TrodAll enc Tryz.prog W 0 (fun _=>true) true fn.params.toList args.toList ds p:=hA0
 rw [hp] at hA hval
 obtain ⟨v0,v1,v2,d0,d1,d2,p0,p1,p2,rfl,rfl,rfl,h0,h1,h2⟩:=trodAll_three hA
 obtain ⟨rfl,rfl⟩:=trodVars_none hV
 have u47:Tryz.prog.underlying 24=some (.array 3 22):=by kernel_rfl
 have u26:Tryz.prog.underlying 22=some .string:=by kernel_rfl
 have c26:Tryz.prog.cellsOf 22=1:=by kernel_rfl
 have c47:Tryz.prog.cellsOf 24=3:=by kernel_rfl
 obtain ⟨a1,a2,a3,rfl,rfl,rfl,wa1,wa2,wa3⟩:=open_t3 u47 u26 c26 c47 (hval 0 24 v0 (by simp) (by simp)) h0
 obtain ⟨b1,b2,b3,rfl,rfl,rfl,wb1,wb2,wb3⟩:=open_t3 u47 u26 c26 c47 (hval 1 24 v1 (by simp) (by simp)) h1
 obtain ⟨s,rfl,rfl,rfl,ws⟩:=open_string u26 (hval 2 22 v2 (by simp) (by simp)) h2
 clear hA0
 simp only [List.append_nil] at hW'
 have hL' : laidMet Tryz.prog Rows.spaceLagrangeRow.laid W:=hL
 have hG:Gl W:=gl_of (r:=_) (by rw [← tab_eq];exact hL'.tail.tail) hS
 refine (lagrangeF a1 a2 a3 b1 b2 b3 s [] W [.agg #[.string a1,.string a2,.string a3],.agg #[.string b1,.string b2,.string b3],.string s] hG ⟨_,_,rfl,hold_t3,_,_,rfl,hold_t3,_,_,rfl,rfl,rfl⟩).mono fun e W' ⟨v,he,hB,hv⟩=>?_
 obtain rfl:v = .bool true:=by
  have:=hv.1
  injection this
 subst he
 have hpm:fn.params.toList = [24,24,22]:=by rw [hp]
 have hrt:fn.resultTypes.toList = [4]:=by kernel_rfl
 have u4:Tryz.prog.underlying 4=some .bool:=by kernel_rfl
 refine ⟨_,rfl,_,_,_,[],[],[],hW',?_,?_,rfl,hB.frame _,fun h=>by cases h⟩
 ·rw [hrt]
  exact trodAll_mk1 (shut_bool u4 _)
 ·rw [hpm]
  exact trodAll_mk3 (p := []) (p' := []) (p'' := []) (shut_t3 u47 u26 c26 c47 wa1 wa2 wa3) (shut_t3 u47 u26 c26 c47 wb1 wb2 wb3) (shut_string u26 ws)
set_option maxRecDepth 100000 in
theorem lifted (os:Os) (started:os.Started) (H:Type) (enc:TypeId×Value→H) (F:Stop.Interp) :
 ReturnsInHanded {} Tryz.checked os 3 .any ((OpenSpec.ofChange Rows.spaceLagrangeSpec).preRow enc Tryz.prog fn Rows.spaceLagrangeRow.domain false Rows.spaceLagrangeRow.laid) (((OpenSpec.ofChange Rows.spaceLagrangeSpec).at F).post enc Tryz.prog fn false true false false):=by
 obtain ⟨places,hx⟩:=reads os enc
 refine returnsInHanded_of_row (C:=Tryz.checked) (s:=OpenSpec.ofChange Rows.spaceLagrangeSpec) own started (by kernel_rfl) Tryz.func3
  (witness_row_atRef (enc:=enc) (C:=Tryz.checked) false (wit os) nul (World.laidAll_os _ _ _) (by kernel_rfl) (by kernel_rfl) (by kernel_rfl)
   (OpenSpec.preRow_of_cond 8 hx (by kernel_rfl) (fun k hk=>by cases hk) (by kernel_rfl) (laid_met os))) ?_
 intro W base args ds gs before hval hW _ _ _ hL hS _
 exact contract H enc W base args ds gs before hval hW hL hS
set_option maxHeartbeats 8000000 in
theorem closed:joinedFacts Tryz.pinned.checked.prog 3 fn (OpenSpec.ofChange Rows.spaceLagrangeSpec).bare Rows.spaceLagrangeRow=true:=by
 simp only [joinedFacts,Bool.and_eq_true]
 repeat' apply aI
 all_goals as_aux_lemma=>kernel_rfl
theorem named:Tryz.pinned.checked.prog.funcNamed Rows.spaceLagrangeRow.func=some 3:=by kernel_rfl
theorem said:Rows.SpaceLagrangeSaid :=
 OpenClaim.holds_of_cond 3 fn rfl rfl rfl rfl rfl rfl rfl ⟨rfl,rfl,rfl,rfl,rfl⟩ rfl rfl rfl rfl rfl named Tryz.func3 closed
  (of_decide_eq_true (by kernel_rfl)) (by unfold Func.isWrapper;first|(rw [if_pos (by decide +kernel)];kernel_rfl)|(rw [if_neg (by decide +kernel)];exact ⟨rfl,rfl⟩))
  (fun os started H enc _ F=>by rw [OpenClaim.pre_eq_preRow];exact lifted os started H enc F)
theorem plain (f:FuncId) (g:Func) (hf:Tryz.pinned.checked.prog.funcNamed "trunnel/trunnellaw01.SpaceLagrange" = some f) (hfn:Tryz.pinned.checked.prog.funcs[f]?=some g) :
 true=Tryz.pinned.checked.prog.looks []∧∀ (j:Nat) t,g.params[j]?=some t→Tryz.pinned.checked.prog.wantsStandIn t=false:=by
 obtain rfl:f=3:=Option.some.inj ((show Tryz.prog.funcNamed "trunnel/trunnellaw01.SpaceLagrange" = some 3 by kernel_rfl).symm.trans hf) |>.symm
 obtain rfl:g=fn:=(Option.some.inj (Tryz.func3.symm.trans hfn)).symm
 refine ⟨by kernel_rfl,fun j t ht=>?_⟩
 have hp:fn.params = #[24,24,22]:=by kernel_rfl
 rw [hp] at ht
 have hm:=Array.mem_of_getElem? ht
 simp only [List.mem_toArray,List.mem_cons,List.mem_nil_iff,or_false] at hm
 rcases hm with rfl|rfl|rfl <;> exact (show Tryz.prog.wantsStandIn _=false by kernel_rfl)
theorem goes:false=Rows.spaceLagrangeRow.goesBy Tryz.pinned.checked.prog:=by kernel_rfl
theorem card:Rows.SpaceLagrangeCardSaid :=
 Claim7.holds_tied_plain_at .later [] _ _ _ _ said (fun _ h=>by cases h) (by kernel_rfl) (fun _ h=>by cases h) spaceLagrange_row_tie rfl ⟨rfl,rfl⟩ (by kernel_rfl) rfl plain goes
end Lag
end Go.Proofs.YtpjknnddanhgkaaGreatDoor
