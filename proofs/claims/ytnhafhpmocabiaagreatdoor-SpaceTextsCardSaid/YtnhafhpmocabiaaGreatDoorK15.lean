/- Proved here: the law SpaceTexts of package trunnellaw01 returns true for all texts of any bytes and all machine integers, and leaves its arguments as they were; condition: the package-level variables that its row lists start as the program's text lays them. -/
import Derived.Test.YtnhafhpmocabiaaGreatDoorCards
import Derived.Test.YtnhafhpmocabiaaGreatDoorTie
import Derived.Test.YtnhafhpmocabiaaGreatDoorJ9
set_option maxHeartbeats 4000000
set_option linter.unusedSimpArgs false
set_option linter.unusedVariables false
set_option linter.constructorNameAsVariable false
namespace Go.Proofs.YtnhafhpmocabiaaGreatDoor
namespace Txs
open Go.ChangeShapes Go.WideShapes Go.ChangeAt Go.RowKit Ab
open Go.ChangeMaps (open_string shut_string)
theorem own:ownKnob Tryz.prog.godebug=none:=by kernel_rfl
noncomputable abbrev fn:Func:=Tryz.f3
noncomputable abbrev wit (os:Os):World:=World.laidAll Tryz.prog os Rows.spaceTextsRow.laid
abbrev nul:Array Value := #[.string ⟨#[]⟩,.int .i64 0,.int .i64 0]
set_option maxRecDepth 100000 in
theorem laid_met (os:Os):laidMet Tryz.prog Rows.spaceTextsRow.laid ((wit os).forCall (fun _ _=>0) ⟨#[],nul,[]⟩).memory :=
 laidMet_laidAll _ (by kernel_rfl) (by kernel_rfl)
theorem reads (os:Os) {H:Type} (enc:TypeId×Value→H):∃ places,DataW.whole enc Tryz.prog ((wit os).forCall (fun _ _=>0) ⟨#[],nul,[]⟩).memory fn.params.toList Rows.spaceTextsSpec.vars false nul.toList 8 =
 some ([.lit (.string []),.lit (.int .i64 0),.lit (.int .i64 0)],[],places) :=
 ⟨[],by kernel_rfl⟩
theorem tab_eq:(Rows.laid_internal_strconv_uint64pow10:DataW Unit)=Lib.tabData .u64 Lib.pow10Tab:=by kernel_rfl
theorem prm:fn.params = #[9,3,3]:=by kernel_rfl
theorem u3:Tryz.prog.underlying 3=some (.int .i64):=by kernel_rfl
theorem int_in {n:Int} (h:(Lit.int .i64 n).wf=true):nW n:=by
 have e1:IntKind.i64.min = -9223372036854775808:=by kernel_rfl
 have e2:IntKind.i64.max=9223372036854775807:=by kernel_rfl
 simp only [Lit.wf,Bool.and_eq_true,decide_eq_true_eq,e1,e2] at h
 exact h
set_option maxRecDepth 100000 in
theorem contract (H:Type) (enc:TypeId×Value→H) (W:World) (base:Nat) (args:Array Value) (ds gs:List (DataW H)) (before:List MemPlace)
 (hval:∀ (j:Nat) t v,fn.params[j]?=some t→args[j]?=some v→Value.okWide Tryz.prog W .any base t v)
 (hW:DataW.Whole enc Tryz.prog fn.params.toList Rows.spaceTextsSpec.vars false W args.toList ds gs before) (hL:laidMetH Tryz.prog Rows.spaceTextsRow.laid W) (hS:W.ShapedOpen Tryz.prog) :
 Calls Tryz.prog 3 args W fun e W' => ∃ v,e = .returned v∧Rows.spaceTextsSpec.post enc Tryz.prog fn false true false false W args v W':=by
 have hW':=hW
 obtain ⟨p,q,hA0,hV,rfl,hfz,hnd⟩:=hW
 have hp:fn.params = #[9,3,3]:=prm
 have hA:DataW.TrodAll enc Tryz.prog W 0 (fun _=>true) true fn.params.toList args.toList ds p:=hA0
 rw [hp] at hA hval
 obtain ⟨v0,v1,v2,d0,d1,d2,p0,p1,p2,rfl,rfl,rfl,h0,h1,h2⟩:=trodAll_three hA
 obtain ⟨rfl,rfl⟩:=trodVars_none hV
 have uS:Tryz.prog.underlying 9=some .string:=by kernel_rfl
 obtain ⟨s,rfl,rfl,rfl,ws⟩:=open_string uS (hval 0 9 v0 (by simp) (by simp)) h0
 have x1:=hval 1 3 v1 (by simp) (by simp)
 have x2:=hval 2 3 v2 (by simp) (by simp)
 obtain ⟨n,rfl,rfl,rfl,wn⟩:=open_int u3 x1 h1
 obtain ⟨d,rfl,rfl,rfl,wd⟩:=open_int u3 x2 h2
 clear hA0
 simp only [List.append_nil] at hW'
 have hL' : laidMet Tryz.prog Rows.spaceTextsRow.laid W:=hL
 have hG:Gl W:=gl_of (r:=_) (by rw [← tab_eq];exact hL'.tail.tail) hS
 refine (textsF s (int_in wn) (int_in wd) [] W [.string s,.int .i64 n,.int .i64 d] hG ⟨_,_,rfl,rfl,_,_,rfl,rfl,_,_,rfl,rfl,rfl⟩).mono fun e W' ⟨v,he,hB,hv⟩=>?_
 obtain rfl:v = .bool true:=by
  have:=hv.1
  injection this
 subst he
 have hpm:fn.params.toList = [9,3,3]:=by rw [hp]
 have hrt:fn.resultTypes.toList = [4]:=by kernel_rfl
 have u4:Tryz.prog.underlying 4=some .bool:=by kernel_rfl
 refine ⟨_,rfl,_,_,_,[],[],[],hW',?_,?_,rfl,hB.frame _,fun h=>by cases h⟩
 ·rw [hrt]
  exact trodAll_mk1 (shut_bool u4 _)
 ·rw [hpm]
  exact trodAll_mk3 (p := []) (p' := []) (p'' := []) (shut_string uS ws) (shut_int u3 wn) (shut_int u3 wd)
set_option maxRecDepth 100000 in
theorem lifted (os:Os) (started:os.Started) (H:Type) (enc:TypeId×Value→H) (F:Stop.Interp) :
 ReturnsInHanded {} Tryz.checked os 3 .any ((OpenSpec.ofChange Rows.spaceTextsSpec).preRow enc Tryz.prog fn Rows.spaceTextsRow.domain false Rows.spaceTextsRow.laid) (((OpenSpec.ofChange Rows.spaceTextsSpec).at F).post enc Tryz.prog fn false true false false):=by
 obtain ⟨places,hx⟩:=reads os enc
 refine returnsInHanded_of_row (C:=Tryz.checked) (s:=OpenSpec.ofChange Rows.spaceTextsSpec) own started (by kernel_rfl) Tryz.func3
  (witness_row_atRef (enc:=enc) (C:=Tryz.checked) false (wit os) nul (World.laidAll_os _ _ _) (by kernel_rfl) (by kernel_rfl) (by kernel_rfl)
   (OpenSpec.preRow_of_cond 8 hx (by kernel_rfl) (fun k hk=>by cases hk) (by kernel_rfl) (laid_met os))) ?_
 intro W base args ds gs before hval hW _ _ _ hL hS _
 exact contract H enc W base args ds gs before hval hW hL hS
set_option maxHeartbeats 8000000 in
theorem closed:joinedFacts Tryz.pinned.checked.prog 3 fn (OpenSpec.ofChange Rows.spaceTextsSpec).bare Rows.spaceTextsRow=true:=by
 simp only [joinedFacts,Bool.and_eq_true]
 repeat' apply aI
 all_goals as_aux_lemma=>kernel_rfl
theorem named:Tryz.pinned.checked.prog.funcNamed Rows.spaceTextsRow.func=some 3:=by kernel_rfl
theorem said:Rows.SpaceTextsSaid :=
 OpenClaim.holds_of_cond 3 fn rfl rfl rfl rfl rfl rfl rfl ⟨rfl,rfl,rfl,rfl,rfl⟩ rfl rfl rfl rfl rfl named Tryz.func3 closed
  (of_decide_eq_true (by kernel_rfl)) (by unfold Func.isWrapper;first|(rw [if_pos (by decide +kernel)];kernel_rfl)|(rw [if_neg (by decide +kernel)];exact ⟨rfl,rfl⟩))
  (fun os started H enc _ F=>by rw [OpenClaim.pre_eq_preRow];exact lifted os started H enc F)
theorem plain (f:FuncId) (g:Func) (hf:Tryz.pinned.checked.prog.funcNamed "trunnel/trunnellaw01.SpaceTexts" = some f) (hfn:Tryz.pinned.checked.prog.funcs[f]?=some g) :
 true=Tryz.pinned.checked.prog.looks []∧∀ (j:Nat) t,g.params[j]?=some t→Tryz.pinned.checked.prog.wantsStandIn t=false:=by
 obtain rfl:f=3:=Option.some.inj ((show Tryz.prog.funcNamed "trunnel/trunnellaw01.SpaceTexts" = some 3 by kernel_rfl).symm.trans hf) |>.symm
 obtain rfl:g=fn:=(Option.some.inj (Tryz.func3.symm.trans hfn)).symm
 refine ⟨by kernel_rfl,fun j t ht=>?_⟩
 have hp:fn.params = #[9,3,3]:=by kernel_rfl
 rw [hp] at ht
 have hm:=Array.mem_of_getElem? ht
 simp only [List.mem_toArray,List.mem_cons,List.mem_nil_iff,or_false] at hm
 rcases hm with rfl|rfl|rfl <;> exact (show Tryz.prog.wantsStandIn _=false by kernel_rfl)
theorem goes:false=Rows.spaceTextsRow.goesBy Tryz.pinned.checked.prog:=by kernel_rfl
theorem card:Rows.SpaceTextsCardSaid :=
 Claim7.holds_tied_plain_at .later [] _ _ _ _ said (fun _ h=>by cases h) (by kernel_rfl) (fun _ h=>by cases h) spaceTexts_row_tie rfl ⟨rfl,rfl⟩ (by kernel_rfl) rfl plain goes
end Txs
end Go.Proofs.YtnhafhpmocabiaaGreatDoor
