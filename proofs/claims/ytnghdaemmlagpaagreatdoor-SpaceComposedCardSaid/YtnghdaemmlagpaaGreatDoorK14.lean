/- Proved here: the law SpaceComposed of package trunnellaw01 returns true for all texts of any bytes, and leaves its arguments as they were; condition: the package-level variables that its row lists start as the program's text lays them. -/
import Derived.Test.YtnghdaemmlagpaaGreatDoorCards
import Derived.Test.YtnghdaemmlagpaaGreatDoorTie
import Derived.Test.YtnghdaemmlagpaaGreatDoorJ9
set_option maxHeartbeats 4000000
set_option linter.unusedSimpArgs false
set_option linter.unusedVariables false
set_option linter.constructorNameAsVariable false
namespace Go.Proofs.YtnghdaemmlagpaaGreatDoor
namespace Com
open Go.ChangeShapes Go.WideShapes Go.ChangeAt Go.RowKit Ab
open Go.ChangeMaps (open_string shut_string)
theorem own:ownKnob Tryz.prog.godebug=none:=by kernel_rfl
noncomputable abbrev fn:Func:=Tryz.f3
noncomputable abbrev wit (os:Os):World:=World.laidAll Tryz.prog os Rows.spaceComposedRow.laid
abbrev nul:Array Value := #[.agg #[.string ⟨#[]⟩,.string ⟨#[]⟩,.string ⟨#[]⟩,.string ⟨#[]⟩,.string ⟨#[]⟩,.string ⟨#[]⟩,.string ⟨#[]⟩,.string ⟨#[]⟩,.string ⟨#[]⟩,.string ⟨#[]⟩,.string ⟨#[]⟩,.string ⟨#[]⟩],.agg #[.string ⟨#[]⟩,.string ⟨#[]⟩,.string ⟨#[]⟩,.string ⟨#[]⟩,.string ⟨#[]⟩,.string ⟨#[]⟩,.string ⟨#[]⟩,.string ⟨#[]⟩,.string ⟨#[]⟩,.string ⟨#[]⟩,.string ⟨#[]⟩,.string ⟨#[]⟩],.agg #[.string ⟨#[]⟩,.string ⟨#[]⟩,.string ⟨#[]⟩,.string ⟨#[]⟩]]
set_option maxRecDepth 100000 in
theorem laid_met (os:Os):laidMet Tryz.prog Rows.spaceComposedRow.laid ((wit os).forCall (fun _ _=>0) ⟨#[],nul,[]⟩).memory :=
 laidMet_laidAll _ (by kernel_rfl) (by kernel_rfl)
theorem reads (os:Os) {H:Type} (enc:TypeId×Value→H):∃ places,DataW.whole enc Tryz.prog ((wit os).forCall (fun _ _=>0) ⟨#[],nul,[]⟩).memory fn.params.toList Rows.spaceComposedSpec.vars false nul.toList 8 =
 some ([.agg [.agg [.lit (.string []),.lit (.string []),.lit (.string [])],.agg [.lit (.string []),.lit (.string []),.lit (.string [])],.agg [.lit (.string []),.lit (.string []),.lit (.string [])],.agg [.lit (.string []),.lit (.string []),.lit (.string [])]],.agg [.agg [.lit (.string []),.lit (.string []),.lit (.string [])],.agg [.lit (.string []),.lit (.string []),.lit (.string [])],.agg [.lit (.string []),.lit (.string []),.lit (.string [])],.agg [.lit (.string []),.lit (.string []),.lit (.string [])]],.agg [.lit (.string []),.lit (.string []),.lit (.string []),.lit (.string [])]],[],places) :=
 ⟨[],by kernel_rfl⟩
theorem tab_eq:(Rows.laid_internal_strconv_uint64pow10:DataW Unit)=Lib.tabData .u64 Lib.pow10Tab:=by kernel_rfl
theorem prm:fn.params = #[26,26,27]:=by kernel_rfl
theorem hold_f {β:List Nat} {a b c d e f g h i j k l:ByteArray} {w:World}:(F12.av ⟨a,b,c,d,e,f,g,h,i,j,k,l⟩).holds β (.agg #[.string a,.string b,.string c,.string d,.string e,.string f,.string g,.string h,.string i,.string j,.string k,.string l]) w :=
 ⟨[.string a,.string b,.string c,.string d,.string e,.string f,.string g,.string h,.string i,.string j,.string k,.string l],rfl,[.string a],_,rfl,rfl,[.string b],_,rfl,rfl,[.string c],_,rfl,rfl,[.string d],_,rfl,rfl,[.string e],_,rfl,rfl,[.string f],_,rfl,rfl,[.string g],_,rfl,rfl,[.string h],_,rfl,rfl,[.string i],_,rfl,rfl,[.string j],_,rfl,rfl,[.string k],_,rfl,rfl,[.string l],_,rfl,rfl,rfl⟩
theorem hold_q {β:List Nat} {a b c d:ByteArray} {w:World}:(qv4 a b c d).holds β (.agg #[.string a,.string b,.string c,.string d]) w :=
 ⟨[.string a,.string b,.string c,.string d],rfl,[.string a],_,rfl,rfl,[.string b],_,rfl,rfl,[.string c],_,rfl,rfl,[.string d],_,rfl,rfl,rfl⟩
set_option maxRecDepth 100000 in
theorem contract (H:Type) (enc:TypeId×Value→H) (W:World) (base:Nat) (args:Array Value) (ds gs:List (DataW H)) (before:List MemPlace)
 (hval:∀ (j:Nat) t v,fn.params[j]?=some t→args[j]?=some v→Value.okWide Tryz.prog W .any base t v)
 (hW:DataW.Whole enc Tryz.prog fn.params.toList Rows.spaceComposedSpec.vars false W args.toList ds gs before) (hL:laidMetH Tryz.prog Rows.spaceComposedRow.laid W) (hS:W.ShapedOpen Tryz.prog) :
 Calls Tryz.prog 3 args W fun e W' => ∃ v,e = .returned v∧Rows.spaceComposedSpec.post enc Tryz.prog fn false true false false W args v W':=by
 have hW':=hW
 obtain ⟨p,q,hA0,hV,rfl,hfz,hnd⟩:=hW
 have hp:fn.params = #[26,26,27]:=prm
 have hA:DataW.TrodAll enc Tryz.prog W 0 (fun _=>true) true fn.params.toList args.toList ds p:=hA0
 rw [hp] at hA hval
 obtain ⟨v0,v1,v2,d0,d1,d2,p0,p1,p2,rfl,rfl,rfl,h0,h1,h2⟩:=trodAll_three hA
 obtain ⟨rfl,rfl⟩:=trodVars_none hV
 have pF:sJ Tryz.prog 10 26=true:=by kernel_rfl
 have pQ:sJ Tryz.prog 10 27=true:=by kernel_rfl
 obtain ⟨l0,n0,rfl⟩:=vQ (n:=12) (by kernel_rfl) (by kernel_rfl) (by kernel_rfl) (hval 0 26 v0 (by simp) (by simp)) h0
 obtain ⟨l1,n1,rfl⟩:=vQ (n:=12) (by kernel_rfl) (by kernel_rfl) (by kernel_rfl) (hval 1 26 v1 (by simp) (by simp)) h1
 obtain ⟨l2,n2,rfl⟩:=vQ (n:=4) (by kernel_rfl) (by kernel_rfl) (by kernel_rfl) (hval 2 27 v2 (by simp) (by simp)) h2
 match l0,n0 with
 | [a0,a1,a2,a3,a4,a5,a6,a7,a8,a9,a10,a11],_ =>
 match l1,n1 with
 | [b0,b1,b2,b3,b4,b5,b6,b7,b8,b9,b10,b11],_ =>
 match l2,n2 with
 | [q0,q1,q2,q3],_ =>
 simp only [List.map_cons,List.map_nil] at *
 have k0:=fun w b sp=>sK (w':=w) (base':=b) (spare':=sp) pF h0
 have k1:=fun w b sp=>sK (w':=w) (base':=b) (spare':=sp) pF h1
 have k2:=fun w b sp=>sK (w':=w) (base':=b) (spare':=sp) pQ h2
 obtain rfl:=(k0 W 0 (fun _=>true)).1
 obtain rfl:=(k1 W 0 (fun _=>true)).1
 obtain rfl:=(k2 W 0 (fun _=>true)).1
 clear hA0
 simp only [List.append_nil] at hW'
 have hL' : laidMet Tryz.prog Rows.spaceComposedRow.laid W:=hL
 have hG:Gl W:=gl_of (r:=_) (by rw [← tab_eq];exact hL'.tail.tail) hS
 refine (composedF ⟨a0,a1,a2,a3,a4,a5,a6,a7,a8,a9,a10,a11⟩ ⟨b0,b1,b2,b3,b4,b5,b6,b7,b8,b9,b10,b11⟩ q0 q1 q2 q3 [] W [.agg #[.string a0,.string a1,.string a2,.string a3,.string a4,.string a5,.string a6,.string a7,.string a8,.string a9,.string a10,.string a11],.agg #[.string b0,.string b1,.string b2,.string b3,.string b4,.string b5,.string b6,.string b7,.string b8,.string b9,.string b10,.string b11],.agg #[.string q0,.string q1,.string q2,.string q3]] hG ⟨_,_,rfl,hold_f,_,_,rfl,hold_f,_,_,rfl,hold_q,rfl⟩).mono fun e W' ⟨v,he,hB,hv⟩=>?_
 obtain rfl:v = .bool true:=by
  have:=hv.1
  injection this
 subst he
 have hpm:fn.params.toList = [26,26,27]:=by rw [hp]
 have hrt:fn.resultTypes.toList = [4]:=by kernel_rfl
 have u4:Tryz.prog.underlying 4=some .bool:=by kernel_rfl
 refine ⟨_,rfl,_,_,_,[],[],[],hW',?_,?_,rfl,hB.frame _,fun h=>by cases h⟩
 ·rw [hrt]
  exact trodAll_mk1 (shut_bool u4 _)
 ·rw [hpm]
  exact trodAll_mk3 (p := []) (p' := []) (p'' := []) (k0 _ _ _).2 (k1 _ _ _).2 (k2 _ _ _).2
set_option maxRecDepth 100000 in
theorem lifted (os:Os) (started:os.Started) (H:Type) (enc:TypeId×Value→H) (F:Stop.Interp) :
 ReturnsInHanded {} Tryz.checked os 3 .any ((OpenSpec.ofChange Rows.spaceComposedSpec).preRow enc Tryz.prog fn Rows.spaceComposedRow.domain false Rows.spaceComposedRow.laid) (((OpenSpec.ofChange Rows.spaceComposedSpec).at F).post enc Tryz.prog fn false true false false):=by
 obtain ⟨places,hx⟩:=reads os enc
 refine returnsInHanded_of_row (C:=Tryz.checked) (s:=OpenSpec.ofChange Rows.spaceComposedSpec) own started (by kernel_rfl) Tryz.func3
  (witness_row_atRef (enc:=enc) (C:=Tryz.checked) false (wit os) nul (World.laidAll_os _ _ _) (by kernel_rfl) (by kernel_rfl) (by kernel_rfl)
   (OpenSpec.preRow_of_cond 8 hx (by kernel_rfl) (fun k hk=>by cases hk) (by kernel_rfl) (laid_met os))) ?_
 intro W base args ds gs before hval hW _ _ _ hL hS _
 exact contract H enc W base args ds gs before hval hW hL hS
set_option maxHeartbeats 8000000 in
theorem closed:joinedFacts Tryz.pinned.checked.prog 3 fn (OpenSpec.ofChange Rows.spaceComposedSpec).bare Rows.spaceComposedRow=true:=by
 simp only [joinedFacts,Bool.and_eq_true]
 repeat' apply aI
 all_goals as_aux_lemma=>kernel_rfl
theorem named:Tryz.pinned.checked.prog.funcNamed Rows.spaceComposedRow.func=some 3:=by kernel_rfl
theorem said:Rows.SpaceComposedSaid :=
 OpenClaim.holds_of_cond 3 fn rfl rfl rfl rfl rfl rfl rfl ⟨rfl,rfl,rfl,rfl,rfl⟩ rfl rfl rfl rfl rfl named Tryz.func3 closed
  (of_decide_eq_true (by kernel_rfl)) (by unfold Func.isWrapper;first|(rw [if_pos (by decide +kernel)];kernel_rfl)|(rw [if_neg (by decide +kernel)];exact ⟨rfl,rfl⟩))
  (fun os started H enc _ F=>by rw [OpenClaim.pre_eq_preRow];exact lifted os started H enc F)
theorem plain (f:FuncId) (g:Func) (hf:Tryz.pinned.checked.prog.funcNamed "trunnel/trunnellaw01.SpaceComposed" = some f) (hfn:Tryz.pinned.checked.prog.funcs[f]?=some g) :
 true=Tryz.pinned.checked.prog.looks []∧∀ (j:Nat) t,g.params[j]?=some t→Tryz.pinned.checked.prog.wantsStandIn t=false:=by
 obtain rfl:f=3:=Option.some.inj ((show Tryz.prog.funcNamed "trunnel/trunnellaw01.SpaceComposed" = some 3 by kernel_rfl).symm.trans hf) |>.symm
 obtain rfl:g=fn:=(Option.some.inj (Tryz.func3.symm.trans hfn)).symm
 refine ⟨by kernel_rfl,fun j t ht=>?_⟩
 have hp:fn.params = #[26,26,27]:=by kernel_rfl
 rw [hp] at ht
 have hm:=Array.mem_of_getElem? ht
 simp only [List.mem_toArray,List.mem_cons,List.mem_nil_iff,or_false] at hm
 rcases hm with rfl|rfl|rfl <;> exact (show Tryz.prog.wantsStandIn _=false by kernel_rfl)
theorem goes:false=Rows.spaceComposedRow.goesBy Tryz.pinned.checked.prog:=by kernel_rfl
theorem card:Rows.SpaceComposedCardSaid :=
 Claim7.holds_tied_plain_at .later [] _ _ _ _ said (fun _ h=>by cases h) (by kernel_rfl) (fun _ h=>by cases h) spaceComposed_row_tie rfl ⟨rfl,rfl⟩ (by kernel_rfl) rfl plain goes
end Com
end Go.Proofs.YtnghdaemmlagpaaGreatDoor
