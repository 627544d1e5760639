/- Proved here: the law SpaceMovedHalves of package trunnellaw01 returns true for all texts of any bytes, and leaves its arguments as they were; condition: the package-level variables that its row lists start as the program's text lays them. -/
import Derived.Test.YtklnecajplnboaaGreatDoorCards
import Derived.Test.YtklnecajplnboaaGreatDoorTie
import Derived.Test.YtklnecajplnboaaGreatDoorJ9
set_option maxHeartbeats 4000000
set_option linter.unusedSimpArgs false
set_option linter.unusedVariables false
set_option linter.constructorNameAsVariable false
namespace Go.Proofs.YtklnecajplnboaaGreatDoor
namespace Mov
open Go.ChangeShapes Go.WideShapes Go.ChangeAt Go.RowKit Ab
open Go.ChangeMaps (open_string shut_string)
theorem own:ownKnob Tryz.prog.godebug=none:=by kernel_rfl
noncomputable abbrev fn:Func:=Tryz.f3
noncomputable abbrev wit (os:Os):World:=World.laidAll Tryz.prog os Rows.spaceMovedHalvesRow.laid
abbrev nul:Array Value := #[.agg #[.string ⟨#[]⟩,.string ⟨#[]⟩,.string ⟨#[]⟩,.string ⟨#[]⟩,.string ⟨#[]⟩,.string ⟨#[]⟩,.string ⟨#[]⟩,.string ⟨#[]⟩,.string ⟨#[]⟩,.string ⟨#[]⟩,.string ⟨#[]⟩,.string ⟨#[]⟩],.agg #[.int .i64 0,.int .i64 0,.int .i64 0,.string ⟨#[]⟩]]
set_option maxRecDepth 100000 in
theorem laid_met (os:Os):laidMet Tryz.prog Rows.spaceMovedHalvesRow.laid ((wit os).forCall (fun _ _=>0) ⟨#[],nul,[]⟩).memory :=
 laidMet_laidAll _ (by kernel_rfl) (by kernel_rfl)
theorem reads (os:Os) {H:Type} (enc:TypeId×Value→H):∃ places,DataW.whole enc Tryz.prog ((wit os).forCall (fun _ _=>0) ⟨#[],nul,[]⟩).memory fn.params.toList Rows.spaceMovedHalvesSpec.vars false nul.toList 8 =
 some ([.agg [.agg [.lit (.string []),.lit (.string []),.lit (.string [])],.agg [.lit (.string []),.lit (.string []),.lit (.string [])],.agg [.lit (.string []),.lit (.string []),.lit (.string [])],.agg [.lit (.string []),.lit (.string []),.lit (.string [])]],.agg [.agg [.lit (.int .i64 0),.lit (.int .i64 0),.lit (.int .i64 0)],.lit (.string [])]],[],places) :=
 ⟨[],by kernel_rfl⟩
theorem tab_eq:(Rows.laid_internal_strconv_uint64pow10:DataW Unit)=Lib.tabData .u64 Lib.pow10Tab:=by kernel_rfl
theorem prm:fn.params = #[26,29]:=by kernel_rfl
theorem hold_f {β:List Nat} {a b c d e f g h i j k l:ByteArray} {w:World}:(F12.av ⟨a,b,c,d,e,f,g,h,i,j,k,l⟩).holds β (.agg #[.string a,.string b,.string c,.string d,.string e,.string f,.string g,.string h,.string i,.string j,.string k,.string l]) w :=
 ⟨[.string a,.string b,.string c,.string d,.string e,.string f,.string g,.string h,.string i,.string j,.string k,.string l],rfl,[.string a],_,rfl,rfl,[.string b],_,rfl,rfl,[.string c],_,rfl,rfl,[.string d],_,rfl,rfl,[.string e],_,rfl,rfl,[.string f],_,rfl,rfl,[.string g],_,rfl,rfl,[.string h],_,rfl,rfl,[.string i],_,rfl,rfl,[.string j],_,rfl,rfl,[.string k],_,rfl,rfl,[.string l],_,rfl,rfl,rfl⟩
theorem hold_h {β:List Nat} {a b c:Int} {s:ByteArray} {w:World}:(hL a b c s).holds β (.agg #[.int .i64 a,.int .i64 b,.int .i64 c,.string s]) w :=
 ⟨[.int .i64 a,.int .i64 b,.int .i64 c,.string s],rfl,[.int .i64 a],_,rfl,⟨rfl,rfl⟩,[.int .i64 b],_,rfl,⟨rfl,rfl⟩,[.int .i64 c],_,rfl,⟨rfl,rfl⟩,[.string s],_,rfl,rfl,rfl⟩
theorem int_in {W:World} {r:Reach} {b:Nat} {n:Int} (h:Cell.okWide Tryz.prog W r b 3 (.int .i64 n)):rC n:=by
 have u3:Tryz.prog.underlying 3=some (.int .i64):=by kernel_rfl
 simp only [Cell.okWide,u3,Cell.ok] at h
 have h2:=h.2
 simp only [IntKind.has] at h2
 have e1:IntKind.i64.min = -9223372036854775808:=by kernel_rfl
 have e2:IntKind.i64.max=9223372036854775807:=by kernel_rfl
 rw [e1,e2] at h2
 exact h2
set_option maxRecDepth 100000 in
theorem half_in {W:World} {r:Reach} {b:Nat} {z1 z2 z3:Int} {s:ByteArray} (h:Value.okWide Tryz.prog W r b 29 (.agg #[.int .i64 z1,.int .i64 z2,.int .i64 z3,.string s])):M3 z1 z2 z3:=by
 simp only [Value.okWide,Tryz.underlying29] at h
 obtain ⟨cs,e,_,ts,hts,_,hc⟩:=h
 injection e with e
 subst e
 have ht:Tryz.prog.cellTypes Tryz.prog.depth 29=some [3,3,3,22]:=by kernel_rfl
 obtain rfl:=Option.some.inj (ht.symm.trans hts)
 obtain ⟨u0,e0,h0⟩:=hc 0 _ rfl
 obtain ⟨u1,e1,h1⟩:=hc 1 _ rfl
 obtain ⟨u2,e2,h2⟩:=hc 2 _ rfl
 simp at e0 e1 e2
 subst e0 e1 e2
 exact ⟨int_in h0,int_in h1,int_in h2⟩
set_option maxRecDepth 100000 in
theorem contract (H:Type) (enc:TypeId×Value→H) (W:World) (base:Nat) (args:Array Value) (ds gs:List (DataW H)) (before:List MemPlace)
 (hval:∀ (j:Nat) t v,fn.params[j]?=some t→args[j]?=some v→Value.okWide Tryz.prog W .any base t v)
 (hW:DataW.Whole enc Tryz.prog fn.params.toList Rows.spaceMovedHalvesSpec.vars false W args.toList ds gs before) (hL:laidMetH Tryz.prog Rows.spaceMovedHalvesRow.laid W) (hS:W.ShapedOpen Tryz.prog) :
 Calls Tryz.prog 3 args W fun e W' => ∃ v,e = .returned v∧Rows.spaceMovedHalvesSpec.post enc Tryz.prog fn false true false false W args v W':=by
 have hW':=hW
 obtain ⟨p,q,hA0,hV,rfl,hfz,hnd⟩:=hW
 have hp:fn.params = #[26,29]:=prm
 have hA:DataW.TrodAll enc Tryz.prog W 0 (fun _=>true) true fn.params.toList args.toList ds p:=hA0
 rw [hp] at hA hval
 obtain ⟨v0,v1,d0,d1,p0,p1,rfl,rfl,rfl,h0,h1⟩:=trodAll_two hA
 obtain ⟨rfl,rfl⟩:=trodVars_none hV
 have pF:rW Tryz.prog 10 26=true:=by kernel_rfl
 have pH:rW Tryz.prog 10 29=true:=by kernel_rfl
 obtain ⟨l0,n0,rfl⟩:=open_txts (n:=12) (by kernel_rfl) (by kernel_rfl) (by kernel_rfl) (hval 0 26 v0 (by simp) (by simp)) h0
 obtain ⟨z1,z2,z3,s,rfl,_⟩:=open_half (by kernel_rfl) (by kernel_rfl) (by kernel_rfl) (hval 1 29 v1 (by simp) (by simp)) h1
 have m3:=half_in (hval 1 29 (.agg #[.int .i64 z1,.int .i64 z2,.int .i64 z3,.string s]) (by simp) (by simp))
 match l0,n0 with
 | [a0,a1,a2,a3,b0,b1,b2,b3,c0,c1,c2,c3],_ =>
 simp only [List.map_cons,List.map_nil] at *
 have k0:=fun w b sp=>zP (w':=w) (base':=b) (spare':=sp) pF h0
 have k1:=fun w b sp=>zP (w':=w) (base':=b) (spare':=sp) pH h1
 obtain rfl:=(k0 W 0 (fun _=>true)).1
 obtain rfl:=(k1 W 0 (fun _=>true)).1
 clear hA0
 simp only [List.append_nil] at hW'
 have hL' : laidMet Tryz.prog Rows.spaceMovedHalvesRow.laid W:=hL
 have hG:Gl W:=gl_of (r:=_) (by rw [← tab_eq];exact hL'.tail.tail) hS
 refine (movedF ⟨a0,a1,a2,a3,b0,b1,b2,b3,c0,c1,c2,c3⟩ z1 z2 z3 m3 s [] W [.agg #[.string a0,.string a1,.string a2,.string a3,.string b0,.string b1,.string b2,.string b3,.string c0,.string c1,.string c2,.string c3],.agg #[.int .i64 z1,.int .i64 z2,.int .i64 z3,.string s]] hG ⟨_,_,rfl,hold_f,_,_,rfl,hold_h,rfl⟩).mono fun e W' ⟨v,he,hB,hv⟩=>?_
 obtain rfl:v = .bool true:=by
  have:=hv.1
  injection this
 subst he
 have hpm:fn.params.toList = [26,29]:=by rw [hp]
 have hrt:fn.resultTypes.toList = [4]:=by kernel_rfl
 have u4:Tryz.prog.underlying 4=some .bool:=by kernel_rfl
 refine ⟨_,rfl,_,_,_,[],[],[],hW',?_,?_,rfl,hB.frame _,fun h=>by cases h⟩
 ·rw [hrt]
  exact trodAll_mk1 (shut_bool u4 _)
 ·rw [hpm]
  exact trodAll_mk2 (p := []) (p' := []) (k0 _ _ _).2 (k1 _ _ _).2
set_option maxRecDepth 100000 in
theorem lifted (os:Os) (started:os.Started) (H:Type) (enc:TypeId×Value→H) (F:Stop.Interp) :
 ReturnsInHanded {} Tryz.checked os 3 .any ((OpenSpec.ofChange Rows.spaceMovedHalvesSpec).preRow enc Tryz.prog fn Rows.spaceMovedHalvesRow.domain false Rows.spaceMovedHalvesRow.laid) (((OpenSpec.ofChange Rows.spaceMovedHalvesSpec).at F).post enc Tryz.prog fn false true false false):=by
 obtain ⟨places,hx⟩:=reads os enc
 refine returnsInHanded_of_row (C:=Tryz.checked) (s:=OpenSpec.ofChange Rows.spaceMovedHalvesSpec) own started (by kernel_rfl) Tryz.func3
  (witness_row_atRef (enc:=enc) (C:=Tryz.checked) false (wit os) nul (World.laidAll_os _ _ _) (by kernel_rfl) (by kernel_rfl) (by kernel_rfl)
   (OpenSpec.preRow_of_cond 8 hx (by kernel_rfl) (fun k hk=>by cases hk) (by kernel_rfl) (laid_met os))) ?_
 intro W base args ds gs before hval hW _ _ _ hL hS _
 exact contract H enc W base args ds gs before hval hW hL hS
set_option maxHeartbeats 8000000 in
theorem closed:joinedFacts Tryz.pinned.checked.prog 3 fn (OpenSpec.ofChange Rows.spaceMovedHalvesSpec).bare Rows.spaceMovedHalvesRow=true:=by
 simp only [joinedFacts,Bool.and_eq_true]
 repeat' apply aI
 all_goals as_aux_lemma=>kernel_rfl
theorem named:Tryz.pinned.checked.prog.funcNamed Rows.spaceMovedHalvesRow.func=some 3:=by kernel_rfl
theorem said:Rows.SpaceMovedHalvesSaid :=
 OpenClaim.holds_of_cond 3 fn rfl rfl rfl rfl rfl rfl rfl ⟨rfl,rfl,rfl,rfl,rfl⟩ rfl rfl rfl rfl rfl named Tryz.func3 closed
  (of_decide_eq_true (by kernel_rfl)) (by unfold Func.isWrapper;first|(rw [if_pos (by decide +kernel)];kernel_rfl)|(rw [if_neg (by decide +kernel)];exact ⟨rfl,rfl⟩))
  (fun os started H enc _ F=>by rw [OpenClaim.pre_eq_preRow];exact lifted os started H enc F)
theorem plain (f:FuncId) (g:Func) (hf:Tryz.pinned.checked.prog.funcNamed "trunnel/trunnellaw01.SpaceMovedHalves" = some f) (hfn:Tryz.pinned.checked.prog.funcs[f]?=some g) :
 true=Tryz.pinned.checked.prog.looks []∧∀ (j:Nat) t,g.params[j]?=some t→Tryz.pinned.checked.prog.wantsStandIn t=false:=by
 obtain rfl:f=3:=Option.some.inj ((show Tryz.prog.funcNamed "trunnel/trunnellaw01.SpaceMovedHalves" = some 3 by kernel_rfl).symm.trans hf) |>.symm
 obtain rfl:g=fn:=(Option.some.inj (Tryz.func3.symm.trans hfn)).symm
 refine ⟨by kernel_rfl,fun j t ht=>?_⟩
 have hp:fn.params = #[26,29]:=by kernel_rfl
 rw [hp] at ht
 have hm:=Array.mem_of_getElem? ht
 simp only [List.mem_toArray,List.mem_cons,List.mem_nil_iff,or_false] at hm
 rcases hm with rfl|rfl <;> exact (show Tryz.prog.wantsStandIn _=false by kernel_rfl)
theorem goes:false=Rows.spaceMovedHalvesRow.goesBy Tryz.pinned.checked.prog:=by kernel_rfl
theorem card:Rows.SpaceMovedHalvesCardSaid :=
 Claim7.holds_tied_plain_at .later [] _ _ _ _ said (fun _ h=>by cases h) (by kernel_rfl) (fun _ h=>by cases h) spaceMovedHalves_row_tie rfl ⟨rfl,rfl⟩ (by kernel_rfl) rfl plain goes
end Mov
end Go.Proofs.YtklnecajplnboaaGreatDoor
