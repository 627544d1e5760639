/- Proved here: the law SpaceCrossings of package trunnellaw01 returns true for all texts of any bytes, and leaves its arguments as they were; condition: the package-level variables that its row lists start as the program's text lays them. -/
import Derived.Test.YtpbjdlinhacinaaGreatDoorCards
import Derived.Test.YtpbjdlinhacinaaGreatDoorTie
import Derived.Test.YtpbjdlinhacinaaGreatDoorJ9
set_option maxHeartbeats 4000000
set_option linter.unusedSimpArgs false
set_option linter.unusedVariables false
set_option linter.constructorNameAsVariable false
namespace Go.Proofs.YtpbjdlinhacinaaGreatDoor
namespace Cro
open Go.ChangeShapes Go.WideShapes Go.ChangeAt Go.RowKit Ab
open Go.ChangeMaps (open_string shut_string)
theorem own:ownKnob Tryz.prog.godebug=none:=by kernel_rfl
noncomputable abbrev fn:Func:=Tryz.f3
noncomputable abbrev wit (os:Os):World:=World.laidAll Tryz.prog os Rows.spaceCrossingsRow.laid
abbrev nul:Array Value := #[.agg #[.string ⟨#[]⟩,.string ⟨#[]⟩,.string ⟨#[]⟩,.string ⟨#[]⟩,.string ⟨#[]⟩,.string ⟨#[]⟩,.string ⟨#[]⟩,.string ⟨#[]⟩,.string ⟨#[]⟩,.int .i64 0,.int .i64 0,.int .i64 0,.string ⟨#[]⟩,.int .i64 0,.int .i64 0,.int .i64 0,.string ⟨#[]⟩,.int .i64 0,.int .i64 0,.int .i64 0,.string ⟨#[]⟩]]
set_option maxRecDepth 100000 in
theorem laid_met (os:Os):laidMet Tryz.prog Rows.spaceCrossingsRow.laid ((wit os).forCall (fun _ _=>0) ⟨#[],nul,[]⟩).memory :=
 laidMet_laidAll _ (by kernel_rfl) (by kernel_rfl)
theorem reads (os:Os) {H:Type} (enc:TypeId×Value→H):∃ places,DataW.whole enc Tryz.prog ((wit os).forCall (fun _ _=>0) ⟨#[],nul,[]⟩).memory fn.params.toList Rows.spaceCrossingsSpec.vars false nul.toList 8 =
 some ([.agg [.agg [.agg [.lit (.string []),.lit (.string []),.lit (.string [])],.agg [.lit (.string []),.lit (.string []),.lit (.string [])],.agg [.lit (.string []),.lit (.string []),.lit (.string [])]],.agg [.agg [.agg [.lit (.int .i64 0),.lit (.int .i64 0),.lit (.int .i64 0)],.lit (.string [])],.agg [.agg [.lit (.int .i64 0),.lit (.int .i64 0),.lit (.int .i64 0)],.lit (.string [])],.agg [.agg [.lit (.int .i64 0),.lit (.int .i64 0),.lit (.int .i64 0)],.lit (.string [])]]]],[],places) :=
 ⟨[],by kernel_rfl⟩
theorem tab_eq:(Rows.laid_internal_strconv_uint64pow10:DataW Unit)=Lib.tabData .u64 Lib.pow10Tab:=by kernel_rfl
theorem prm:fn.params = #[31]:=by kernel_rfl
abbrev pf (l:List ByteArray) (i:Nat):ByteArray:=l[i]?.getD ⟨#[]⟩
abbrev nf (l:List Int) (i:Nat):Int:=l[i]?.getD 0
theorem pf_over {l:List ByteArray} (i:Nat) (h:l.length≤i):pf l i=⟨#[]⟩:=by
 show l[i]?.getD ⟨#[]⟩=_
 rw [List.getElem?_eq_none h]
 rfl
theorem nf_in {l:List Int} (h:∀ n∈l,oF n) (i:Nat):oF (nf l i):=by
 show oF (l[i]?.getD 0)
 cases e:l[i]? with
 | none=>exact ⟨by decide,by decide⟩
 | some n=>exact h n (List.mem_of_getElem? e)
theorem tP {n:Int} (h:(Lit.int .i64 n).wf=true):oF n:=by
 have h2:(decide (IntKind.i64.min≤n)&&decide (n≤IntKind.i64.max))=true:=h
 simp only [Bool.and_eq_true,decide_eq_true_eq] at h2
 have e1:IntKind.i64.min = -9223372036854775808:=by kernel_rfl
 have e2:IntKind.i64.max=9223372036854775807:=by kernel_rfl
 rw [e1,e2] at h2
 exact h2
theorem hold_x {β:List Nat} {a0 a1 a2 a3 a4 a5 a6 a7 a8:ByteArray} {n0 n1 n2 n3 n4 n5 n6 n7 n8:Int} {s0 s1 s2:ByteArray} {w:World}:(X21 (pf [a0,a1,a2,a3,a4,a5,a6,a7,a8]) (nf [n0,n1,n2,n3,n4,n5,n6,n7,n8]) (pf [s0,s1,s2])).holds β (.agg #[.string a0,.string a1,.string a2,.string a3,.string a4,.string a5,.string a6,.string a7,.string a8,.int .i64 n0,.int .i64 n1,.int .i64 n2,.string s0,.int .i64 n3,.int .i64 n4,.int .i64 n5,.string s1,.int .i64 n6,.int .i64 n7,.int .i64 n8,.string s2]) w :=
 ⟨[.string a0,.string a1,.string a2,.string a3,.string a4,.string a5,.string a6,.string a7,.string a8,.int .i64 n0,.int .i64 n1,.int .i64 n2,.string s0,.int .i64 n3,.int .i64 n4,.int .i64 n5,.string s1,.int .i64 n6,.int .i64 n7,.int .i64 n8,.string s2],rfl,[.string a0],_,rfl,rfl,[.string a1],_,rfl,rfl,[.string a2],_,rfl,rfl,[.string a3],_,rfl,rfl,[.string a4],_,rfl,rfl,[.string a5],_,rfl,rfl,[.string a6],_,rfl,rfl,[.string a7],_,rfl,rfl,[.string a8],_,rfl,rfl,[.int .i64 n0],_,rfl,⟨rfl,rfl⟩,[.int .i64 n1],_,rfl,⟨rfl,rfl⟩,[.int .i64 n2],_,rfl,⟨rfl,rfl⟩,[.string s0],_,rfl,rfl,[.int .i64 n3],_,rfl,⟨rfl,rfl⟩,[.int .i64 n4],_,rfl,⟨rfl,rfl⟩,[.int .i64 n5],_,rfl,⟨rfl,rfl⟩,[.string s1],_,rfl,rfl,[.int .i64 n6],_,rfl,⟨rfl,rfl⟩,[.int .i64 n7],_,rfl,⟨rfl,rfl⟩,[.int .i64 n8],_,rfl,⟨rfl,rfl⟩,[.string s2],_,rfl,rfl,rfl⟩
set_option maxRecDepth 100000 in
theorem open_three {H:Type} {enc:TypeId×Value→H} {w:World} {base:Nat} {spare:Nat→Bool} {held:Bool} {r:Reach} {b0:Nat} {v:Value} {D:DataW H} {p:List MemPlace} (hv:Value.okWide Tryz.prog w r b0 31 v) (h:DataW.Trod enc Tryz.prog w base spare held 31 v D p) :
 ∃ (a0 a1 a2 a3 a4 a5 a6 a7 a8:ByteArray) (n0 n1 n2 n3 n4 n5 n6 n7 n8:Int) (s0 s1 s2:ByteArray),v = .agg #[.string a0,.string a1,.string a2,.string a3,.string a4,.string a5,.string a6,.string a7,.string a8,.int .i64 n0,.int .i64 n1,.int .i64 n2,.string s0,.int .i64 n3,.int .i64 n4,.int .i64 n5,.string s1,.int .i64 n6,.int .i64 n7,.int .i64 n8,.string s2]∧(∀ n∈[n0,n1,n2,n3,n4,n5,n6,n7,n8],oF n):=by
 have hC:Tryz.prog.cellsOf 31=21:=by kernel_rfl
 obtain ⟨cs,rfl,hs⟩:=agg_of (by kernel_rfl) hC hv
 obtain ⟨c0,c1,c2,c3,c4,c5,c6,c7,c8,c9,c10,c11,c12,c13,c14,c15,c16,c17,c18,c19,c20,rfl⟩:∃ c0 c1 c2 c3 c4 c5 c6 c7 c8 c9 c10 c11 c12 c13 c14 c15 c16 c17 c18 c19 c20,cs = #[c0,c1,c2,c3,c4,c5,c6,c7,c8,c9,c10,c11,c12,c13,c14,c15,c16,c17,c18,c19,c20]:=by
  obtain ⟨l⟩:=cs
  match l,hs with
  | [c0,c1,c2,c3,c4,c5,c6,c7,c8,c9,c10,c11,c12,c13,c14,c15,c16,c17,c18,c19,c20],_=>exact ⟨c0,c1,c2,c3,c4,c5,c6,c7,c8,c9,c10,c11,c12,c13,c14,c15,c16,c17,c18,c19,c20,rfl⟩
 obtain ⟨_,e0,a0,rfl,_⟩:=dE (k:=true) 0 h (by kernel_rfl)
 obtain ⟨_,e1,a1,rfl,_⟩:=dE (k:=true) 1 h (by kernel_rfl)
 obtain ⟨_,e2,a2,rfl,_⟩:=dE (k:=true) 2 h (by kernel_rfl)
 obtain ⟨_,e3,a3,rfl,_⟩:=dE (k:=true) 3 h (by kernel_rfl)
 obtain ⟨_,e4,a4,rfl,_⟩:=dE (k:=true) 4 h (by kernel_rfl)
 obtain ⟨_,e5,a5,rfl,_⟩:=dE (k:=true) 5 h (by kernel_rfl)
 obtain ⟨_,e6,a6,rfl,_⟩:=dE (k:=true) 6 h (by kernel_rfl)
 obtain ⟨_,e7,a7,rfl,_⟩:=dE (k:=true) 7 h (by kernel_rfl)
 obtain ⟨_,e8,a8,rfl,_⟩:=dE (k:=true) 8 h (by kernel_rfl)
 obtain ⟨_,e9,n0,rfl,wn0⟩:=dE (k:=false) 9 h (by kernel_rfl)
 obtain ⟨_,e10,n1,rfl,wn1⟩:=dE (k:=false) 10 h (by kernel_rfl)
 obtain ⟨_,e11,n2,rfl,wn2⟩:=dE (k:=false) 11 h (by kernel_rfl)
 obtain ⟨_,e12,s0,rfl,_⟩:=dE (k:=true) 12 h (by kernel_rfl)
 obtain ⟨_,e13,n3,rfl,wn3⟩:=dE (k:=false) 13 h (by kernel_rfl)
 obtain ⟨_,e14,n4,rfl,wn4⟩:=dE (k:=false) 14 h (by kernel_rfl)
 obtain ⟨_,e15,n5,rfl,wn5⟩:=dE (k:=false) 15 h (by kernel_rfl)
 obtain ⟨_,e16,s1,rfl,_⟩:=dE (k:=true) 16 h (by kernel_rfl)
 obtain ⟨_,e17,n6,rfl,wn6⟩:=dE (k:=false) 17 h (by kernel_rfl)
 obtain ⟨_,e18,n7,rfl,wn7⟩:=dE (k:=false) 18 h (by kernel_rfl)
 obtain ⟨_,e19,n8,rfl,wn8⟩:=dE (k:=false) 19 h (by kernel_rfl)
 obtain ⟨_,e20,s2,rfl,_⟩:=dE (k:=true) 20 h (by kernel_rfl)
 simp at e0 e1 e2 e3 e4 e5 e6 e7 e8 e9 e10 e11 e12 e13 e14 e15 e16 e17 e18 e19 e20
 subst e0 e1 e2 e3 e4 e5 e6 e7 e8 e9 e10 e11 e12 e13 e14 e15 e16 e17 e18 e19 e20
 refine ⟨a0,a1,a2,a3,a4,a5,a6,a7,a8,n0,n1,n2,n3,n4,n5,n6,n7,n8,s0,s1,s2,rfl,?_⟩
 intro n hn
 simp only [List.mem_cons,List.mem_nil_iff,or_false] at hn
 rcases hn with rfl|rfl|rfl|rfl|rfl|rfl|rfl|rfl|rfl
 ·exact tP wn0
 ·exact tP wn1
 ·exact tP wn2
 ·exact tP wn3
 ·exact tP wn4
 ·exact tP wn5
 ·exact tP wn6
 ·exact tP wn7
 ·exact tP wn8
set_option maxRecDepth 100000 in
theorem contract (H:Type) (enc:TypeId×Value→H) (W:World) (base:Nat) (args:Array Value) (ds gs:List (DataW H)) (before:List MemPlace)
 (hval:∀ (j:Nat) t v,fn.params[j]?=some t→args[j]?=some v→Value.okWide Tryz.prog W .any base t v)
 (hW:DataW.Whole enc Tryz.prog fn.params.toList Rows.spaceCrossingsSpec.vars false W args.toList ds gs before) (hL:laidMetH Tryz.prog Rows.spaceCrossingsRow.laid W) (hS:W.ShapedOpen Tryz.prog) :
 Calls Tryz.prog 3 args W fun e W' => ∃ v,e = .returned v∧Rows.spaceCrossingsSpec.post enc Tryz.prog fn false true false false W args v W':=by
 have hW':=hW
 obtain ⟨p,q,hA0,hV,rfl,hfz,hnd⟩:=hW
 have hp:fn.params = #[31]:=prm
 have hA:DataW.TrodAll enc Tryz.prog W 0 (fun _=>true) true fn.params.toList args.toList ds p:=hA0
 rw [hp] at hA hval
 obtain ⟨v0,d0,rfl,rfl,h0⟩:=trodAll_one hA
 obtain ⟨rfl,rfl⟩:=trodVars_none hV
 have pT:vA Tryz.prog 10 31=true:=by kernel_rfl
 obtain ⟨a0,a1,a2,a3,a4,a5,a6,a7,a8,n0,n1,n2,n3,n4,n5,n6,n7,n8,s0,s1,s2,rfl,hm⟩:=open_three (hval 0 31 v0 (by simp) (by simp)) h0
 have k0:=fun w b sp=>Trod_plain (w':=w) (base':=b) (spare':=sp) pT h0
 obtain rfl:=(k0 W 0 (fun _=>true)).1
 clear hA0
 simp only [List.append_nil] at hW'
 have hL' : laidMet Tryz.prog Rows.spaceCrossingsRow.laid W:=hL
 have hG:Gl W:=gl_of (r:=_) (by rw [← tab_eq];exact hL'.tail.tail) hS
 refine (crossF' (pf [a0,a1,a2,a3,a4,a5,a6,a7,a8]) (nf [n0,n1,n2,n3,n4,n5,n6,n7,n8]) (pf [s0,s1,s2]) (nf_in hm) (fun i h=>pf_over i h) (fun i h=>pf_over i h) [] W [.agg #[.string a0,.string a1,.string a2,.string a3,.string a4,.string a5,.string a6,.string a7,.string a8,.int .i64 n0,.int .i64 n1,.int .i64 n2,.string s0,.int .i64 n3,.int .i64 n4,.int .i64 n5,.string s1,.int .i64 n6,.int .i64 n7,.int .i64 n8,.string s2]] hG ⟨_,_,rfl,hold_x,rfl⟩).mono fun e W' ⟨v,he,hB,hv⟩=>?_
 obtain rfl:v = .bool true:=by
  have:=hv.1
  injection this
 subst he
 have hpm:fn.params.toList = [31]:=by rw [hp]
 have hrt:fn.resultTypes.toList = [4]:=by kernel_rfl
 have u4:Tryz.prog.underlying 4=some .bool:=by kernel_rfl
 refine ⟨_,rfl,_,_,_,[],[],[],hW',?_,?_,rfl,hB.frame _,fun h=>by cases h⟩
 ·rw [hrt]
  exact trodAll_mk1 (shut_bool u4 _)
 ·rw [hpm]
  exact trodAll_mk1 (p := []) (k0 _ _ _).2
set_option maxRecDepth 100000 in
theorem lifted (os:Os) (started:os.Started) (H:Type) (enc:TypeId×Value→H) (F:Stop.Interp) :
 ReturnsInHanded {} Tryz.checked os 3 .any ((OpenSpec.ofChange Rows.spaceCrossingsSpec).preRow enc Tryz.prog fn Rows.spaceCrossingsRow.domain false Rows.spaceCrossingsRow.laid) (((OpenSpec.ofChange Rows.spaceCrossingsSpec).at F).post enc Tryz.prog fn false true false false):=by
 obtain ⟨places,hx⟩:=reads os enc
 refine returnsInHanded_of_row (C:=Tryz.checked) (s:=OpenSpec.ofChange Rows.spaceCrossingsSpec) own started (by kernel_rfl) Tryz.func3
  (witness_row_atRef (enc:=enc) (C:=Tryz.checked) false (wit os) nul (World.laidAll_os _ _ _) (by kernel_rfl) (by kernel_rfl) (by kernel_rfl)
   (OpenSpec.preRow_of_cond 8 hx (by kernel_rfl) (fun k hk=>by cases hk) (by kernel_rfl) (laid_met os))) ?_
 intro W base args ds gs before hval hW _ _ _ hL hS _
 exact contract H enc W base args ds gs before hval hW hL hS
set_option maxHeartbeats 8000000 in
theorem closed:joinedFacts Tryz.pinned.checked.prog 3 fn (OpenSpec.ofChange Rows.spaceCrossingsSpec).bare Rows.spaceCrossingsRow=true:=by
 simp only [joinedFacts,Bool.and_eq_true]
 repeat' apply aI
 all_goals as_aux_lemma=>kernel_rfl
theorem named:Tryz.pinned.checked.prog.funcNamed Rows.spaceCrossingsRow.func=some 3:=by kernel_rfl
theorem said:Rows.SpaceCrossingsSaid :=
 OpenClaim.holds_of_cond 3 fn rfl rfl rfl rfl rfl rfl rfl ⟨rfl,rfl,rfl,rfl,rfl⟩ rfl rfl rfl rfl rfl named Tryz.func3 closed
  (of_decide_eq_true (by kernel_rfl)) (by unfold Func.isWrapper;first|(rw [if_pos (by decide +kernel)];kernel_rfl)|(rw [if_neg (by decide +kernel)];exact ⟨rfl,rfl⟩))
  (fun os started H enc _ F=>by rw [OpenClaim.pre_eq_preRow];exact lifted os started H enc F)
theorem plain (f:FuncId) (g:Func) (hf:Tryz.pinned.checked.prog.funcNamed "trunnel/trunnellaw01.SpaceCrossings" = some f) (hfn:Tryz.pinned.checked.prog.funcs[f]?=some g) :
 true=Tryz.pinned.checked.prog.looks []∧∀ (j:Nat) t,g.params[j]?=some t→Tryz.pinned.checked.prog.wantsStandIn t=false:=by
 obtain rfl:f=3:=Option.some.inj ((show Tryz.prog.funcNamed "trunnel/trunnellaw01.SpaceCrossings" = some 3 by kernel_rfl).symm.trans hf) |>.symm
 obtain rfl:g=fn:=(Option.some.inj (Tryz.func3.symm.trans hfn)).symm
 refine ⟨by kernel_rfl,fun j t ht=>?_⟩
 have hp:fn.params = #[31]:=by kernel_rfl
 rw [hp] at ht
 have hm:=Array.mem_of_getElem? ht
 simp only [List.mem_toArray,List.mem_cons,List.mem_nil_iff,or_false] at hm
 subst hm;exact (show Tryz.prog.wantsStandIn _=false by kernel_rfl)
theorem goes:false=Rows.spaceCrossingsRow.goesBy Tryz.pinned.checked.prog:=by kernel_rfl
theorem card:Rows.SpaceCrossingsCardSaid :=
 Claim7.holds_tied_plain_at .later [] _ _ _ _ said (fun _ h=>by cases h) (by kernel_rfl) (fun _ h=>by cases h) spaceCrossings_row_tie rfl ⟨rfl,rfl⟩ (by kernel_rfl) rfl plain goes
end Cro
end Go.Proofs.YtpbjdlinhacinaaGreatDoor
