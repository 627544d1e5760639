/- Parts of the proof, joined. -/
import Derived.Test.YtgbcaflelmgbdaaGreatDoorJ12
import Derived.Test.YtgbcaflelmgbdaaGreatDoorJ14
import Derived.Test.YtgbcaflelmgbdaaGreatDoorJ15
import Derived.Test.YtgbcaflelmgbdaaGreatDoorJ2
import Derived.Laws.Tables
import Derived.Laws.StructEq
import Derived.Test.YtgbcaflelmgbdaaGreatDoorJ11
import Derived.RangeFuncNested
import Derived.RangeFuncBound
import Derived.RangeFuncCalls
import Derived.RangeFuncLeaves
import Derived.Shelf.Abstract
import Derived.Shelf.RegionOpen
import Derived.WalkKit
import Derived.OwnWalkIn
import Derived.TacticsInMore
import Derived.LoopNIn
import Derived.LoopIn
import Derived.KernelRfl
import Derived.Test.YtgbcaflelmgbdaaGreatDoorProg
set_option linter.unusedSimpArgs false
set_option linter.unusedVariables false
namespace Go.Proofs.YtgbcaflelmgbdaaGreatDoor.Ab
open Go.RowKit Go.Proofs.YtgbcaflelmgbdaaGreatDoor Pl
section
variable {o1 o2 o3 x1 x2 x3 y1 y2 y3 z1 z2 z3 p1 p2 p3 m1 m2 m3:Rat}
theorem apiLocalF (h:Fv o1 o2 o3 x1 x2 x3 y1 y2 y3 z1 z2 z3) (k:mH p1 p2 p3) (h0:Sq0 x1 x2 x3 y1 y2 y3 z1 z2 z3)
 (e1:dt (p1-o1) (p2-o2) (p3-o3) x1 x2 x3/dt x1 x2 x3 x1 x2 x3=m1) (e2:dt (p1-o1) (p2-o2) (p3-o3) y1 y2 y3/dt y1 y2 y3 y1 y2 y3=m2) (e3:dt (p1-o1) (p2-o2) (p3-o3) z1 z2 z3/dt z1 z2 z3 z1 z2 z3=m3) (hr:mH m1 m2 m3) :
 FitsW Tryz.prog Gl 9 [iT o1 o2 o3 x1 x2 x3 y1 y2 y3 z1 z2 z3,vS p1 p2 p3] (fV m1 m2 m3):=by
 have hl:Fits Tryz.prog 34 [lP o1 o2 o3 x1 x2 x3 y1 y2 y3 z1 z2 z3,vc p1 p2 p3] (vc m1 m2 m3):=by
  rw [← e1,← e2,← e3]
  exact localF (h.w.lm.mono (by decide)) ((w3lf k).mono (by decide)) ((w3lf h.w.o).mono (by decide)) h0
 refine dO Tryz.func9 (by kernel_rfl) fun w00 hG=>?_;have hI:=bD hG
 refine aL hI 29 [gL 30,iT o1 o2 o3 x1 x2 x3 y1 y2 y3 z1 z2 z3,gL 31,vS p1 p2 p3] (readFV h k) (by kernel_rfl) Tryz.call29 ?_
 refine aB 34 [lP o1 o2 o3 x1 x2 x3 y1 y2 y3 z1 z2 z3,vc p1 p2 p3] (hl) (by kernel_rfl) Tryz.call34 ?_
 refine aL hI 33 [vc m1 m2 m3] (jE hr) (by kernel_rfl) Tryz.call33 ?_
 exact aS Tryz.func9 (by kernel_rfl)
end
theorem isS_lit {β:List Nat} {cs:List Value} {w:World} {b:ByteArray}:(dG b).holds β cs w↔(Seg.lit (.string b):Seg Kn).holds β cs w:=⟨fun h=>⟨h,rfl⟩,fun h=>h.1⟩
inductive LitL:List (Seg Kn)→List (Seg Kn)→Prop where
 | nil:LitL [] []
 | txt {b:ByteArray} {l m}:LitL l m→LitL (dG b::l) (.lit (.string b)::m)
 | same {s:Seg Kn} {l m}:LitL l m→LitL (s::l) (s::m)
theorem LitL.to {β:List Nat} {w:World} {l m:List (Seg Kn)} (h:LitL l m):∀ {cs:List Value},holdsL β l cs w↔holdsL β m cs w:=by
 induction h with
 | nil=>intro cs;exact Iff.rfl
 | txt _ ih =>
   intro cs
   constructor
   ·rintro ⟨a,b,e,h1,h2⟩;exact ⟨a,b,e,isS_lit.1 h1,ih.1 h2⟩
   ·rintro ⟨a,b,e,h1,h2⟩;exact ⟨a,b,e,isS_lit.2 h1,ih.2 h2⟩
 | same _ ih =>
   intro cs
   constructor
   ·rintro ⟨a,b,e,h1,h2⟩;exact ⟨a,b,e,h1,ih.1 h2⟩
   ·rintro ⟨a,b,e,h1,h2⟩;exact ⟨a,b,e,h1,ih.2 h2⟩
theorem ag_lit {β:List Nat} {v:Value} {w:World} {l m:List (Seg Kn)} (h:LitL l m):(AV.fv (.ag l)).holds β v w↔(AV.fv (.ag m)).holds β v w:=by
 constructor
 ·rintro ⟨cs,e,k⟩;exact ⟨cs,e,h.to.1 k⟩
 ·rintro ⟨cs,e,k⟩;exact ⟨cs,e,h.to.2 k⟩
theorem sc_lit {β:List Nat} {v:Value} {w:World} {b:ByteArray}:(AV.fv (.sc (dG b)):AV Kn).holds β v w↔(AV.fv (.sc (.lit (.string b))):AV Kn).holds β v w:=isS_lit (β:=β) (cs := [v])
theorem FitsW.args {P:Program} {I:World→Prop} {f:FuncId} {l l' : List (AV Kn)} {x:AV Kn} (h:FitsW P I f l x) (hl:∀ β vs w,holdsA β l' vs w→holdsA β l vs w):FitsW P I f l' x:=fun β w vs hI hv=>h β w vs hI (hl β vs w hv)
theorem FitsW.res {P:Program} {I:World→Prop} {f:FuncId} {l:List (AV Kn)} {x y:AV Kn} (h:FitsW P I f l x) (hx:∀ β v w,x.holds β v w→y.holds β v w):FitsW P I f l y:=fun β w vs hI hv =>
 (h β w vs hI hv).mono fun e w' ⟨v,e1,e2,e3⟩=>⟨v,e1,e2,hx β v w' e3⟩
theorem dec_two {n:Nat} (h1:10≤n) (h2:n<100):Lib.decDigits n = [UInt8.ofNat (48+n/10),UInt8.ofNat (48+n%10)]:=by
 rw [eO (by omega),cT (by omega)]
 rfl
theorem bS {n:Nat} (h:n<10):decB n=⟨#[UInt8.ofNat (48+n)]⟩:=by unfold decB;rw [cT h]
theorem lO {n:Nat} (h1:10≤n) (h2:n<100):decB n=⟨#[UInt8.ofNat (48+n/10),UInt8.ofNat (48+n%10)]⟩:=by unfold decB;rw [dec_two h1 h2]
theorem dE {z:Int} {b:ByteArray} (hz:¬ z<0) (h:decB z.natAbs=b):writeB (z:Rat)=b:=by
 rw [← dL,aW,if_neg hz,h]
theorem fK {z:Int} {b:ByteArray} (hz:z<0) (h:decB z.natAbs=b):writeB (z:Rat)=⟨#[45]⟩++b:=by
 rw [← dL,aW,if_pos hz,h]
theorem w0:writeB ((0:Int):Rat)=⟨#[48]⟩:=dE (by omega) (bS (n:=0) (by omega))
theorem w1:writeB ((1:Int):Rat)=⟨#[49]⟩:=dE (by omega) (bS (n:=1) (by omega))
theorem jZ (q:Rat):aJ (writeB q)=(aW q.num).size:=by
 by_cases h:q.den=1
 ·rw [jG h,slash_one]
 ·rw [eZ h,slash_two]
theorem num_cut (q:Rat):(writeB q).extract 0 (aJ (writeB q))=aW q.num:=by
 rw [jZ]
 by_cases h:q.den=1
 ·rw [jG h,ext_all]
 ·rw [eZ h,ext_lo]
theorem den_cut {q:Rat} (h:q.den≠1):(writeB q).extract (aJ (writeB q)+1) (writeB q).size=decB q.den:=by
 rw [jZ,eZ h]
 exact ext_hi _ _
theorem jH (q:Rat):(writeB q).size=(aW q.num).size+if q.den=1 then 0 else 1+(decB q.den).size:=by
 by_cases h:q.den=1
 ·rw [jG h,if_pos h];rfl
 ·rw [eZ h,if_neg h,ByteArray.size_append,ByteArray.size_append,size47]
theorem numF {q:Rat} (hs:(writeB q).size≤1000000000):Fits Tryz.prog 87 [rS (writeB q)] (rS (aW q.num)):=by
 have hc:=num_cut q
 generalize writeB q=s at *
 refine jV Tryz.func87 (by kernel_rfl) fun w00=>?_
 refine aM 113 [rS s] (eY (by omega)) (by kernel_rfl) Tryz.call113 ?_
 refine rshi 3 5 22 Tryz.underlying22 s (aJ s) (aW q.num) (cQ _) hc ?_
 exact dZ Tryz.func87 (by kernel_rfl)
theorem denF1 {q:Rat} (hs:(writeB q).size≤1000000000) (h:q.den=1):Fits Tryz.prog 88 [rS (writeB q)] (rS (decB q.den)):=by
 have hl:=jH q
 have hk:=jZ q
 rw [if_pos h] at hl
 have e:decB q.den=⟨#[49]⟩:=by rw [h,dec1]
 rw [e]
 generalize writeB q=s at *
 have key:Fits Tryz.prog 88 [rS s] (.fv (.sc (.lit (.string ⟨#[49]⟩)))):=by
  refine jV Tryz.func88 (by kernel_rfl) fun w00=>?_
  refine aM 113 [rS s] (eY (by omega)) (by kernel_rfl) Tryz.call113 ?_
  refine dB 7 22 Tryz.underlying22 s ?_
  refine bK (.binOp .eql 3 (.tmp 6) (.tmp 8) 3) (.tmp 6) (.tmp 8) (rI (aJ s:Nat)) (rI (s.size:Nat)) (rl true) (by kernel_rfl) (by simp [Op.operands]) (by simp [Op.operands]) (fun ρ o β w ho hx hy=>⟨.bool true,gJ ho (bC hx) (bC hy) (by simp;omega),eU rfl⟩) ?_
  exact dZ Tryz.func88 (by kernel_rfl)
 exact mK key fun β v w h=>h.1
theorem denF2 {q:Rat} (hs:(writeB q).size≤1000000000) (h:q.den≠1):Fits Tryz.prog 88 [rS (writeB q)] (rS (decB q.den)):=by
 have hl:=jH q
 have hk:=jZ q
 rw [if_neg h] at hl
 have hc:=den_cut h
 generalize decB q.den=d at *
 generalize writeB q=s at *
 refine jV Tryz.func88 (by kernel_rfl) fun w00=>?_
 refine aM 113 [rS s] (eY (by omega)) (by kernel_rfl) Tryz.call113 ?_
 refine dB 7 22 Tryz.underlying22 s ?_
 refine bK (.binOp .eql 3 (.tmp 6) (.tmp 8) 3) (.tmp 6) (.tmp 8) (rI (aJ s:Nat)) (rI (s.size:Nat)) (rl false) (by kernel_rfl) (by simp [Op.operands]) (by simp [Op.operands]) (fun ρ o β w ho hx hy=>⟨.bool false,gJ ho (bC hx) (bC hy) (by simp;omega),eU rfl⟩) ?_
 refine radd 11 (aJ s) (by omega) ?_
 refine rslo 10 12 22 Tryz.underlying22 s (aJ s+1) d (by omega) hc ?_
 exact dZ Tryz.func88 (by kernel_rfl)
theorem denOfF {q:Rat} (hs:(writeB q).size≤1000000000):Fits Tryz.prog 88 [rS (writeB q)] (rS (decB q.den)):=by
 by_cases h:q.den=1
 ·exact denF1 hs h
 ·exact denF2 hs h
theorem dec0_ne {n:Nat} (h:n≠0):decB n≠zeroT:=fun e=>h (decB_inj (e.trans dec0.symm))
theorem body_ne_zero {q:Rat} (h:q.num≠0):bB q≠zeroT:=by
 by_cases hd:q.den=1
 ·rw [lM hd,cL]
  exact dec0_ne (by omega)
 ·intro e
  have hl:=nU q
  rw [if_neg hd,e] at hl
  have:zeroT.size=1:=rfl
  have:=decB_pos q.num.natAbs
  omega
theorem kL {q:Rat} (h:q.num≠0):writeB q≠zeroT:=by
 by_cases hn:q.num<0
 ·obtain ⟨f1,⟨h0,hc⟩,f3,f4,f5⟩:=gU hn
  intro e
  have h1:=(strip_write q).1
  rw [e,decide_eq_true hn] at h1
  exact absurd h1 (by decide)
 ·rw [eB hn]
  exact body_ne_zero h
theorem signF0 {q:Rat} (h:q.num=0):Fits Tryz.prog 144 [rS (writeB q)] (.fv (.sc (.lit (.int .i64 0)))):=by
 have e:((writeB q).toList==(⟨#[48]⟩:ByteArray).toList)=true:=by
  have hd:q.den=1:=by have:=q.reduced;rw [h] at this;simpa using this
  rw [jG hd,h]
  have:aW 0=zeroT:=by unfold aW;rw [if_neg (by omega)];exact dec0
  rw [this]
  exact beq_self_eq_true zeroT.toList
 generalize writeB q=s at *
 refine jV Tryz.func144 (by kernel_rfl) fun w00=>?_
 refine rseq 3 22 s ⟨#[48]⟩ true e ?_
 exact dZ Tryz.func144 (by kernel_rfl)
theorem signFn {q:Rat} (h:q.num<0):Fits Tryz.prog 144 [rS (writeB q)] (.fv (.sc (.lit (.int .i64 (-1))))):=by
 have e:=jY (kL (q:=q) (by omega))
 obtain ⟨f1,hc,f3,f4,f5⟩:=gU h
 have h0:decide ((0:Int)<((writeB q).size:Nat))=true:=by rw [decide_eq_true_iff];omega
 generalize writeB q=s at *
 refine jV Tryz.func144 (by kernel_rfl) fun w00=>?_
 refine rseq 3 22 s ⟨#[48]⟩ false e ?_
 refine dB 5 22 Tryz.underlying22 s ?_
 refine iU 6 0 (s.size:Nat) true h0 ?_
 refine ridnR 9 s hc ?_
 exact dZ Tryz.func144 (by kernel_rfl)
theorem signFp {q:Rat} (h:0<q.num):Fits Tryz.prog 144 [rS (writeB q)] (.fv (.sc (.lit (.int .i64 1)))):=by
 have e:=jY (kL (q:=q) (by omega))
 obtain ⟨c,hc,hc45⟩:=body_head q
 rw [← eB (by omega)] at hc
 have h0:decide ((0:Int)<((writeB q).size:Nat))=true:=by rw [decide_eq_true_iff];have:=hc.1;omega
 generalize writeB q=s at *
 refine jV Tryz.func144 (by kernel_rfl) fun w00=>?_
 refine rseq 3 22 s ⟨#[48]⟩ false e ?_
 refine dB 5 22 Tryz.underlying22 s ?_
 refine iU 6 0 (s.size:Nat) true h0 ?_
 refine ridpR 9 s c hc ?_
 refine rueq 10 c hc45 ?_
 exact dZ Tryz.func144 (by kernel_rfl)
theorem absFn {q:Rat} (h:q.num<0) (hs:(writeB q).size≤1000000000):Fits Tryz.prog 86 [rS (writeB q)] (rS (bB q)):=by
 have hg:=signFn h
 obtain ⟨f1,hc,f3,f4,f5⟩:=gU h
 generalize bB q=u at *
 generalize writeB q=s at *
 refine jV Tryz.func86 (by kernel_rfl) fun w00=>?_
 refine aM 144 [rS s] hg (by kernel_rfl) Tryz.call144 ?_
 refine rsl1 6 22 Tryz.underlying22 s u f1 f3 ?_
 exact dZ Tryz.func86 (by kernel_rfl)
theorem absFp {q:Rat} (h:¬ q.num<0):Fits Tryz.prog 86 [rS (writeB q)] (rS (bB q)):=by
 rw [← eB h]
 by_cases h0:q.num=0
 ·have hg:=signF0 h0
  generalize writeB q=s at *
  refine jV Tryz.func86 (by kernel_rfl) fun w00=>?_
  refine aM 144 [rS s] hg (by kernel_rfl) Tryz.call144 ?_
  exact dZ Tryz.func86 (by kernel_rfl)
 ·have hg:=signFp (q:=q) (by omega)
  generalize writeB q=s at *
  refine jV Tryz.func86 (by kernel_rfl) fun w00=>?_
  refine aM 144 [rS s] hg (by kernel_rfl) Tryz.call144 ?_
  exact dZ Tryz.func86 (by kernel_rfl)
theorem absOfF {q:Rat} (hs:(writeB q).size≤1000000000):Fits Tryz.prog 86 [rS (writeB q)] (rS (bB q)):=by
 by_cases h:q.num<0
 ·exact absFn h hs
 ·exact absFp h
theorem absTF {z:Int} (hs:(aW z).size≤1000000000):Fits Tryz.prog 86 [rS (aW z)] (rS (decB z.natAbs)):=by
 have h:=absOfF (q:=(z:Rat)) (by rw [← dL];exact hs)
 have e:bB (z:Rat)=decB z.natAbs:=by rw [lM rfl,cL];rfl
 rw [← dL,e] at h
 exact h
def Fw (k:Nat) (q:Rat):Prop:=(decB q.num.natAbs).size≤k∧(decB q.den).size≤k
theorem nX (z:Int):(aW z).size≤(decB z.natAbs).size+1:=by
 unfold aW
 split
 ·rw [ByteArray.size_append,size45];omega
 ·omega
theorem fw_len {k:Nat} {q:Rat} (h:Fw k q):(writeB q).size≤2*k+2:=by
 have h1:=jH q
 have h2:=nX q.num
 have h3:=h.1
 have h4:=h.2
 split at h1 <;> omega
theorem few4_long {s:ByteArray} (h:decide (((s.size:Nat):Int)≤10)=false):Fits Tryz.prog 28 [rS s,.fv (.sc (.lit (.int .i64 4)))] (rl false):=by
 refine jV Tryz.func28 (by kernel_rfl) fun w00=>?_
 refine dB 5 22 Tryz.underlying22 s ?_
 refine rleq 6 9 (s.size:Nat) 10 false h ?_
 exact dZ Tryz.func28 (by kernel_rfl)
theorem few4_bad {s:ByteArray} {z:Int} (h:decide (((s.size:Nat):Int)≤10)=true) (hk:Fits Tryz.prog 51 [rS s] (rI z)) (hz:z≠0):Fits Tryz.prog 28 [rS s,.fv (.sc (.lit (.int .i64 4)))] (rl false):=by
 refine jV Tryz.func28 (by kernel_rfl) fun w00=>?_
 refine dB 5 22 Tryz.underlying22 s ?_
 refine rleq 6 9 (s.size:Nat) 10 true h ?_
 refine aM 51 [rS s] hk (by kernel_rfl) Tryz.call51 ?_
 refine bK (.binOp .eql 3 (.tmp 13) (.const (.int .i64 0)) 3) (.tmp 13) (.const (.int .i64 0)) (rI z) (.fv (.sc (.lit (.int .i64 0)))) (rl false) (by kernel_rfl) (by simp [Op.operands]) (by simp [Op.operands]) (fun ρ o β w ho hx hy=>⟨.bool false,gJ ho (bC hx) (cG hy) (by simpa using hz),eU rfl⟩) ?_
 exact dZ Tryz.func28 (by kernel_rfl)
theorem few4_num {s u a:ByteArray} {z:Int} (h:decide (((s.size:Nat):Int)≤10)=true) (hk:Fits Tryz.prog 51 [rS s] (rI z)) (hz:z=0) (h1:Fits Tryz.prog 87 [rS s] (rS u)) (h2:Fits Tryz.prog 86 [rS u] (rS a)) (h3:decide (((a.size:Nat):Int)≤4)=false):Fits Tryz.prog 28 [rS s,.fv (.sc (.lit (.int .i64 4)))] (rl false):=by
 refine jV Tryz.func28 (by kernel_rfl) fun w00=>?_
 refine dB 5 22 Tryz.underlying22 s ?_
 refine rleq 6 9 (s.size:Nat) 10 true h ?_
 refine aM 51 [rS s] hk (by kernel_rfl) Tryz.call51 ?_
 refine bK (.binOp .eql 3 (.tmp 13) (.const (.int .i64 0)) 3) (.tmp 13) (.const (.int .i64 0)) (rI z) (.fv (.sc (.lit (.int .i64 0)))) (rl true) (by kernel_rfl) (by simp [Op.operands]) (by simp [Op.operands]) (fun ρ o β w ho hx hy=>⟨.bool true,gJ ho (bC hx) (cG hy) (by rw [hz];rfl),eU rfl⟩) ?_
 refine aM 87 [rS s] h1 (by kernel_rfl) Tryz.call87 ?_
 refine aM 86 [rS u] h2 (by kernel_rfl) Tryz.call86 ?_
 refine dB 19 22 Tryz.underlying22 a ?_
 refine rleq 20 21 (a.size:Nat) 4 false h3 ?_
 exact dZ Tryz.func28 (by kernel_rfl)
theorem few4_denf {s u a d:ByteArray} {z:Int} (h:decide (((s.size:Nat):Int)≤10)=true) (hk:Fits Tryz.prog 51 [rS s] (rI z)) (hz:z=0) (h1:Fits Tryz.prog 87 [rS s] (rS u)) (h2:Fits Tryz.prog 86 [rS u] (rS a)) (h3:decide (((a.size:Nat):Int)≤4)=true) (h4:Fits Tryz.prog 88 [rS s] (rS d)) (h5:decide (((d.size:Nat):Int)≤4)=false):Fits Tryz.prog 28 [rS s,.fv (.sc (.lit (.int .i64 4)))] (rl false):=by
 refine jV Tryz.func28 (by kernel_rfl) fun w00=>?_
 refine dB 5 22 Tryz.underlying22 s ?_
 refine rleq 6 9 (s.size:Nat) 10 true h ?_
 refine aM 51 [rS s] hk (by kernel_rfl) Tryz.call51 ?_
 refine bK (.binOp .eql 3 (.tmp 13) (.const (.int .i64 0)) 3) (.tmp 13) (.const (.int .i64 0)) (rI z) (.fv (.sc (.lit (.int .i64 0)))) (rl true) (by kernel_rfl) (by simp [Op.operands]) (by simp [Op.operands]) (fun ρ o β w ho hx hy=>⟨.bool true,gJ ho (bC hx) (cG hy) (by rw [hz];rfl),eU rfl⟩) ?_
 refine aM 87 [rS s] h1 (by kernel_rfl) Tryz.call87 ?_
 refine aM 86 [rS u] h2 (by kernel_rfl) Tryz.call86 ?_
 refine dB 19 22 Tryz.underlying22 a ?_
 refine rleq 20 21 (a.size:Nat) 4 true h3 ?_
 refine aM 88 [rS s] h4 (by kernel_rfl) Tryz.call88 ?_
 refine dB 26 22 Tryz.underlying22 d ?_
 refine rleq 27 28 (d.size:Nat) 4 false h5 ?_
 exact dZ Tryz.func28 (by kernel_rfl)
theorem few4_dent {s u a d:ByteArray} {z:Int} (h:decide (((s.size:Nat):Int)≤10)=true) (hk:Fits Tryz.prog 51 [rS s] (rI z)) (hz:z=0) (h1:Fits Tryz.prog 87 [rS s] (rS u)) (h2:Fits Tryz.prog 86 [rS u] (rS a)) (h3:decide (((a.size:Nat):Int)≤4)=true) (h4:Fits Tryz.prog 88 [rS s] (rS d)) (h5:decide (((d.size:Nat):Int)≤4)=true):Fits Tryz.prog 28 [rS s,.fv (.sc (.lit (.int .i64 4)))] (rl true):=by
 refine jV Tryz.func28 (by kernel_rfl) fun w00=>?_
 refine dB 5 22 Tryz.underlying22 s ?_
 refine rleq 6 9 (s.size:Nat) 10 true h ?_
 refine aM 51 [rS s] hk (by kernel_rfl) Tryz.call51 ?_
 refine bK (.binOp .eql 3 (.tmp 13) (.const (.int .i64 0)) 3) (.tmp 13) (.const (.int .i64 0)) (rI z) (.fv (.sc (.lit (.int .i64 0)))) (rl true) (by kernel_rfl) (by simp [Op.operands]) (by simp [Op.operands]) (fun ρ o β w ho hx hy=>⟨.bool true,gJ ho (bC hx) (cG hy) (by rw [hz];rfl),eU rfl⟩) ?_
 refine aM 87 [rS s] h1 (by kernel_rfl) Tryz.call87 ?_
 refine aM 86 [rS u] h2 (by kernel_rfl) Tryz.call86 ?_
 refine dB 19 22 Tryz.underlying22 a ?_
 refine rleq 20 21 (a.size:Nat) 4 true h3 ?_
 refine aM 88 [rS s] h4 (by kernel_rfl) Tryz.call88 ?_
 refine dB 26 22 Tryz.underlying22 d ?_
 refine rleq 27 28 (d.size:Nat) 4 true h5 ?_
 exact dZ Tryz.func28 (by kernel_rfl)
theorem few4Yes {q:Rat} (h:Fw 4 q):Fits Tryz.prog 28 [rS (writeB q),.fv (.sc (.lit (.int .i64 4)))] (rl true):=by
 have hl:=fw_len h
 have ht:=nX q.num
 have h1:=h.1
 have h2:=h.2
 exact few4_dent (by rw [decide_eq_true_iff];omega) (checkAnyF (by omega)) (check_write (by omega) (by omega)) (numF (by omega)) (absTF (by omega)) (by rw [decide_eq_true_iff];omega) (denOfF (by omega)) (by rw [decide_eq_true_iff];omega)
theorem few4No {s:ByteArray} (h:¬ ∃ q,s=writeB q∧Fw 4 q):Fits Tryz.prog 28 [rS s,.fv (.sc (.lit (.int .i64 4)))] (rl false):=by
 by_cases hl:s.size≤10
 ·have hl' : decide (((s.size:Nat):Int)≤10)=true:=by rw [decide_eq_true_iff];omega
  have hk:=checkAnyF (s:=s) (by omega)
  by_cases hz:gK s=0
  ·obtain ⟨q,rfl,_,_⟩:=check_zero hz
   have ht:=nX q.num
   have hw:=jH q
   by_cases h3:(decB q.num.natAbs).size≤4
   ·exact few4_denf hl' hk hz (numF (by omega)) (absTF (by split at hw <;> omega)) (by rw [decide_eq_true_iff];omega) (denOfF (by omega)) (by rw [decide_eq_false_iff_not];intro h4;exact h ⟨q,rfl,h3,by omega⟩)
   ·exact few4_num hl' hk hz (numF (by omega)) (absTF (by split at hw <;> omega)) (by rw [decide_eq_false_iff_not];omega)
  ·exact few4_bad hl' hk hz
 ·exact few4_long (by rw [decide_eq_false_iff_not];omega)
theorem kn_I {f:FuncId} {s:ByteArray} {z:Int} (h:Fits Tryz.prog f [rS s] (rI z)):Fits Tryz.prog f [tx s] (.fv (.sc (gM z))):=by
 intro β w vs hv
 obtain ⟨v,rfl,h1⟩:=dR hv
 rw [aR h1]
 exact (h β w [.string s] ⟨_,_,rfl,dF,rfl⟩).mono fun e w' ⟨v,e1,e2,e3⟩=>⟨v,e1,e2,by rw [bC e3];exact bM⟩
theorem kn_S {f:FuncId} {s t u:ByteArray} (h:Fits Tryz.prog f [rS s,rS t] (rS u)):Fits Tryz.prog f [tx s,tx t] (tx u):=by
 intro β w vs hv
 obtain ⟨v,v2,rfl,h1,h2⟩:=eM hv
 rw [aR h1,aR h2]
 exact (h β w [.string s,.string t] ⟨_,_,rfl,dF,_,_,rfl,dF,rfl⟩).mono fun e w' ⟨v,e1,e2,e3⟩=>⟨v,e1,e2,by rw [bC e3];exact bM⟩
theorem kn_F {f:FuncId} {s:ByteArray} {n:Int} {b:Bool} (h:Fits Tryz.prog f [rS s,.fv (.sc (.lit (.int .i64 n)))] (rl b)):Fits Tryz.prog f [tx s,it n] (bl b):=by
 intro β w vs hv
 obtain ⟨v,v2,rfl,h1,h2⟩:=eM hv
 have e2:[v2] = [.int .i64 n]:=h2.1
 injection e2 with e2
 rw [aR h1,e2]
 exact (h β w [.string s,.int .i64 n] ⟨_,_,rfl,dF,_,_,rfl,eU rfl,rfl⟩).mono fun e w' ⟨v,e1,e2,e3⟩=>⟨v,e1,e2,by rw [cG e3];exact bA rfl⟩
abbrev t3 (a b c:ByteArray):AV Kn := .fv (.ag [dG a,dG b,dG c])
theorem chkF {q:Rat} (h1:(decB q.num.natAbs).size≤600) (h2:(decB q.den).size≤600):Fits Tryz.prog 51 [tx (writeB q)] (it 0):=by
 have hw:=jH q
 have ht:=nX q.num
 have h:=kn_I (checkAnyF (s:=writeB q) (by split at hw <;> omega))
 rw [check_write h1 h2] at h
 intro β w vs hv
 exact (h β w vs hv).mono fun e w' ⟨v,e1,e2,e3⟩=>⟨v,e1,e2,by rw [aR e3];exact bA rfl⟩
section
variable {a b c:ByteArray} {n:Int}
theorem fewVecT (h1:Fits Tryz.prog 28 [tx a,it n] (bl true)) (h2:Fits Tryz.prog 28 [tx b,it n] (bl true)) (h3:Fits Tryz.prog 28 [tx c,it n] (bl true)):Fits Tryz.prog 6 [t3 a b c,it n] (bl true):=by
 refine fW Tryz.func6 (by kernel_rfl) fun w00=>?_
 refine aB 28 [tx a,it n] (h1) (by kernel_rfl) Tryz.call28 ?_
 refine aB 28 [tx b,it n] (h2) (by kernel_rfl) Tryz.call28 ?_
 refine aB 28 [tx c,it n] (h3) (by kernel_rfl) Tryz.call28 ?_
 exact aS Tryz.func6 (by kernel_rfl)
theorem fewVecF1 (h1:Fits Tryz.prog 28 [tx a,it n] (bl false)):Fits Tryz.prog 6 [t3 a b c,it n] (bl false):=by
 refine fW Tryz.func6 (by kernel_rfl) fun w00=>?_
 refine aB 28 [tx a,it n] (h1) (by kernel_rfl) Tryz.call28 ?_
 exact aS Tryz.func6 (by kernel_rfl)
theorem fewVecF2 (h1:Fits Tryz.prog 28 [tx a,it n] (bl true)) (h2:Fits Tryz.prog 28 [tx b,it n] (bl false)):Fits Tryz.prog 6 [t3 a b c,it n] (bl false):=by
 refine fW Tryz.func6 (by kernel_rfl) fun w00=>?_
 refine aB 28 [tx a,it n] (h1) (by kernel_rfl) Tryz.call28 ?_
 refine aB 28 [tx b,it n] (h2) (by kernel_rfl) Tryz.call28 ?_
 exact aS Tryz.func6 (by kernel_rfl)
theorem fewVecF3 (h1:Fits Tryz.prog 28 [tx a,it n] (bl true)) (h2:Fits Tryz.prog 28 [tx b,it n] (bl true)) (h3:Fits Tryz.prog 28 [tx c,it n] (bl false)):Fits Tryz.prog 6 [t3 a b c,it n] (bl false):=by
 refine fW Tryz.func6 (by kernel_rfl) fun w00=>?_
 refine aB 28 [tx a,it n] (h1) (by kernel_rfl) Tryz.call28 ?_
 refine aB 28 [tx b,it n] (h2) (by kernel_rfl) Tryz.call28 ?_
 refine aB 28 [tx c,it n] (h3) (by kernel_rfl) Tryz.call28 ?_
 exact aS Tryz.func6 (by kernel_rfl)
theorem checkRow3 {T:TypeId} (h1:Fits Tryz.prog 51 [tx a] (it 0)) (h2:Fits Tryz.prog 51 [tx b] (it 0)) (h3:Fits Tryz.prog 51 [tx c] (it 0)):Fits Tryz.prog 35 [.fv (.nsl 3 T [dG a,dG b,dG c])] (it 0):=by
 refine kgoS Tryz.func35 (by kernel_rfl) fun w00=>?_
 refine aB 51 [tx a] (h1) (by kernel_rfl) Tryz.call51 ?_
 refine aB 51 [tx b] (h2) (by kernel_rfl) Tryz.call51 ?_
 refine aB 51 [tx c] (h3) (by kernel_rfl) Tryz.call51 ?_
 exact aS Tryz.func35 (by kernel_rfl)
theorem checkVec3 (h1:Fits Tryz.prog 51 [tx a] (it 0)) (h2:Fits Tryz.prog 51 [tx b] (it 0)) (h3:Fits Tryz.prog 51 [tx c] (it 0)):Fits Tryz.prog 10 [t3 a b c] (it 0):=by
 refine fW Tryz.func10 (by kernel_rfl) fun w00=>?_
 refine aB 35 [.fv (.nsl 3 22 [dG a,dG b,dG c])] (checkRow3 h1 h2 h3) (by kernel_rfl) Tryz.call35 ?_
 exact aS Tryz.func10 (by kernel_rfl)
end
theorem originF:Fits Tryz.prog 141 ([]:List (AV Kn)) (.fv (.ag [.lit (.string ⟨#[48]⟩),.lit (.string ⟨#[48]⟩),.lit (.string ⟨#[48]⟩)])):=by
 refine fW Tryz.func141 (by kernel_rfl) fun w00=>?_
 exact aS Tryz.func141 (by kernel_rfl)
section
variable {a b c d e f:ByteArray} {x y z:ByteArray}
theorem addVecR (h1:Fits Tryz.prog 37 [tx a,tx d] (tx x)) (h2:Fits Tryz.prog 37 [tx b,tx e] (tx y)) (h3:Fits Tryz.prog 37 [tx c,tx f] (tx z)):Fits Tryz.prog 12 [t3 a b c,t3 d e f] (t3 x y z):=by
 refine fW Tryz.func12 (by kernel_rfl) fun w00=>?_
 refine aB 37 [tx a,tx d] (h1) (by kernel_rfl) Tryz.call37 ?_
 refine aB 37 [tx b,tx e] (h2) (by kernel_rfl) Tryz.call37 ?_
 refine aB 37 [tx c,tx f] (h3) (by kernel_rfl) Tryz.call37 ?_
 exact aS Tryz.func12 (by kernel_rfl)
end
theorem body_negate (q:Rat):bB (-q)=bB q:=by
 unfold bB
 rw [Rat.neg_den,Rat.neg_num,Int.natAbs_neg]
theorem zs_len {k:Nat} {q:Rat} (h:Zs k q):(writeB q).size≤2*k+4:=by
 have h1:=decB_size_le h.1
 have h2:=decB_size_le h.2
 have:=jH q
 have:=nX q.num
 split at * <;> omega
theorem negR {q:Rat} (hs:(writeB q).size≤1000000000):Fits Tryz.prog 258 [rS (writeB q)] (rS (writeB (-q))):=by
 by_cases h:q.num<0
 ·rw [eB (q := -q) (by rw [Rat.neg_num];omega),body_negate]
  have hg:=signFn h
  obtain ⟨f1,hc,f3,f4,f5⟩:=gU h
  generalize bB q=u at *
  generalize writeB q=s at *
  refine jV Tryz.func258 (by kernel_rfl) fun w00=>?_
  refine aM 144 [rS s] hg (by kernel_rfl) Tryz.call144 ?_
  refine rsl1 6 22 Tryz.underlying22 s u f1 f3 ?_
  exact dZ Tryz.func258 (by kernel_rfl)
 ·by_cases h0:q.num=0
  ·have e:-q=q:=by
    have:q=0:=Rat.num_eq_zero.1 h0
    rw [this]
    rfl
   rw [e]
   have hg:=signF0 h0
   generalize writeB q=s at *
   refine jV Tryz.func258 (by kernel_rfl) fun w00=>?_
   refine aM 144 [rS s] hg (by kernel_rfl) Tryz.call144 ?_
   refine aM 144 [rS s] hg (by kernel_rfl) Tryz.call144 ?_
   exact dZ Tryz.func258 (by kernel_rfl)
  ·rw [lB (q := -q) (by rw [Rat.neg_num];omega),body_negate,← eB h]
   have hg:=signFp (q:=q) (by omega)
   have hcat:(⟨#[45]⟩:ByteArray).size+(writeB q).size≤9223372036854775807:=by rw [size45];omega
   generalize writeB q=s at *
   refine jV Tryz.func258 (by kernel_rfl) fun w00=>?_
   refine aM 144 [rS s] hg (by kernel_rfl) Tryz.call144 ?_
   refine aM 144 [rS s] hg (by kernel_rfl) Tryz.call144 ?_
   refine bK (.binOp .add 22 (.const (.string ⟨#[45]⟩)) (.tmp 12) 22) (.const (.string ⟨#[45]⟩)) (.tmp 12) (.fv (.sc (.lit (.string ⟨#[45]⟩)))) (rS s) (rS (⟨#[45]⟩++s)) (by kernel_rfl) (by simp [Op.operands]) (by simp [Op.operands]) (fun ρ o β w ho hx hy=>⟨_,gZ ho (cG hx) (bC hy) hcat,dF⟩) ?_
   exact dZ Tryz.func258 (by kernel_rfl)
theorem zs_neg {k:Nat} {q:Rat} (h:Zs k q):Zs k (-q):=by
 unfold Zs
 rw [Rat.neg_den,Rat.neg_num,Int.natAbs_neg]
 exact h
theorem subR {p q:Rat} (hp:Zs 10000 p) (hq:Zs 10000 q):Fits Tryz.prog 237 [rS (writeB p),rS (writeB q)] (rS (writeB (p-q))):=by
 have h1:=negR (q:=q) (by have:=zs_len hq;omega)
 have h2:=refAddF hp (zs_neg hq)
 rw [← Rat.sub_eq_add_neg] at h2
 generalize writeB (p-q)=x at *
 generalize writeB (-q)=y at *
 generalize writeB p=a at *
 generalize writeB q=b at *
 refine jV Tryz.func237 (by kernel_rfl) fun w00=>?_
 refine aM 258 [rS b] h1 (by kernel_rfl) Tryz.call258 ?_
 refine aM 37 [rS a,rS y] h2 (by kernel_rfl) Tryz.call37 ?_
 exact dZ Tryz.func237 (by kernel_rfl)
section
variable {a b c d e f:ByteArray} {x y z u v:ByteArray}
theorem dotR (h1:Fits Tryz.prog 201 [tx a,tx d] (tx x)) (h2:Fits Tryz.prog 201 [tx b,tx e] (tx y)) (h3:Fits Tryz.prog 37 [tx x,tx y] (tx u)) (h4:Fits Tryz.prog 201 [tx c,tx f] (tx z)) (h5:Fits Tryz.prog 37 [tx u,tx z] (tx v)):Fits Tryz.prog 143 [t3 a b c,t3 d e f] (tx v):=by
 refine fW Tryz.func143 (by kernel_rfl) fun w00=>?_
 refine aB 201 [tx a,tx d] (h1) (by kernel_rfl) Tryz.call201 ?_
 refine aB 201 [tx b,tx e] (h2) (by kernel_rfl) Tryz.call201 ?_
 refine aB 37 [tx x,tx y] (h3) (by kernel_rfl) Tryz.call37 ?_
 refine aB 201 [tx c,tx f] (h4) (by kernel_rfl) Tryz.call201 ?_
 refine aB 37 [tx u,tx z] (h5) (by kernel_rfl) Tryz.call37 ?_
 exact aS Tryz.func143 (by kernel_rfl)
end
end Go.Proofs.YtgbcaflelmgbdaaGreatDoor.Ab
namespace Go.Proofs.YtgbcaflelmgbdaaGreatDoor
open Go.RowKit Pl
theorem gcd_tmod (x y:Int):Int.gcd y (x.tmod y)=Int.gcd x y:=by
 unfold Int.gcd
 rw [Int.natAbs_tmod,Nat.gcd_comm x.natAbs,Nat.gcd_rec y.natAbs x.natAbs,Nat.gcd_comm]
set_option maxHeartbeats 1000000 in
theorem intGcd_any (a b:Int) (w:World) (ha:-999999999≤a∧a≤999999999) (hb:-999999999≤b∧b≤999999999):Calls Tryz.prog 50 #[.int .i64 a,.int .i64 b] w fun e w'=>e = .returned (.int .i64 (Int.gcd a b:Nat))∧Below w.heap.size w w':=by
 have HA:=Lib.hid (And.intro ha hb)
 clear ha hb
 go_enter Tryz.func50,Tryz.ntmps50
 go_wp2
 go_loopw [0,1] (fun av bv wr => ∃ x y:Int,av = .int .i64 x∧bv = .int .i64 y∧Hid (Int.gcd x y=Int.gcd a b∧(-999999999≤x∧x≤999999999)∧(-999999999≤y∧y≤999999999))∧Below w.heap.size w wr) (fun _ bv _=>(intOf bv).natAbs)
 case atStart=>exact ⟨a,b,rfl,rfl,⟨rfl,HA.out⟩,Below.refl _ _⟩
 case round =>
  obtain ⟨x,y,rfl,rfl,hi,hbw⟩:=hrel
  by_cases h0:y=0
  ·subst h0
   have HR:=Lib.hid (show x.natAbs=Int.gcd a b by rw [← hi.out.1,Int.gcd_zero_right])
   obtain ⟨_,hx,_⟩:=hi.out
   clear hi
   go_wp2
   all_goals go_ret
   all_goals refine ⟨?_,hbw⟩
   all_goals rw [← HR.out]
   all_goals show Ending.returned (.int .i64 (max x (-x)))=_
   all_goals have e:max x (-x)=(x.natAbs:Int):=by rw [Int.max_def];split <;> omega
   all_goals rw [e]
  ·by_cases h1:y = -1
   ·subst h1
    obtain ⟨hg,hx,_⟩:=hi.out
    have HG:=Lib.hid (show Int.gcd (-1) 0=Int.gcd a b by rw [← hg,← gcd_tmod x (-1)];congr 1;rw [Int.tmod_neg,Int.tmod_one])
    clear hi hg
    go_wp2
    go_quiet (fail)
    have hb2:=bZ hbw nq
    clear hbw
    generalize wr.drewN nq=w2 at *
    go_wp2
    go_roundw
    case rel=>exact ⟨-1,0,rfl,by first|rfl|simp,⟨HG.out,by omega,by omega⟩,hb2⟩
    case measure=>simp [intOf]
   ·obtain ⟨r,hr⟩:∃ r,r=x.tmod y:=⟨_,rfl⟩
    have hlt:r.natAbs<y.natAbs:=by rw [hr,Int.natAbs_tmod];exact Nat.mod_lt _ (by omega)
    have HR:=Lib.hid (show (Int.gcd y r=Int.gcd a b∧(-999999999≤y∧y≤999999999)∧(-999999999≤r∧r≤999999999))∧r.natAbs<y.natAbs∧x.tmod y=r by
     obtain ⟨hg,hx,hy⟩:=hi.out
     exact ⟨⟨by rw [hr,gcd_tmod];exact hg,hy,by omega,by omega⟩,hlt,hr.symm⟩)
    have hz0:(y==0)=false:=by simp;omega
    have hz1:¬ y=0:=h0
    have hz3:(y == -1)=false:=by simp;omega
    clear hi hr hlt
    go_wp2
    go_quiet (fail)
    have hb2:=bZ hbw nq
    clear hbw
    generalize wr.drewN nq=w2 at *
    go_wp2
    go_roundw
    case rel =>
     obtain ⟨h1,h2,h3⟩:=HR.out
     exact ⟨y,r,rfl,by first|(rw [h3];done)|rfl,h1,hb2⟩
    case measure =>
     obtain ⟨h1,h2,h3⟩:=HR.out
     simp only [intOf]
     rw [h3]
     exact h2
end Go.Proofs.YtgbcaflelmgbdaaGreatDoor
namespace Go.Proofs.YtgbcaflelmgbdaaGreatDoor.Ab
open Go.RowKit Go.Proofs.YtgbcaflelmgbdaaGreatDoor Pl
theorem intGcdF {a b:Int} (ha:-999999999≤a∧a≤999999999) (hb:-999999999≤b∧b≤999999999):Fits Tryz.prog 50 [.fv (.sc (gM a)),.fv (.sc (gM b))] (.fv (.sc (gM (Int.gcd a b:Nat)))):=by
 intro β w vs hv
 obtain ⟨v,_,rfl,hv1,u,_,rfl,hv2,rfl⟩:=hv
 obtain rfl:=aR hv1
 obtain rfl:=aR hv2
 exact (intGcd_any a b w ha hb).mono fun e w' ⟨e1,e2⟩=>⟨_,e1,e2,bM⟩
theorem size_gcd {a b:Int} (ha:-999999999≤a∧a≤999999999) (hb:-999999999≤b∧b≤999999999):-999999999≤(Int.gcd a b:Int)∧(Int.gcd a b:Int)≤999999999:=by
 refine ⟨by omega,?_⟩
 by_cases h:a=0
 ·subst h
  rw [Int.gcd_zero_left]
  omega
 ·have:=Int.gcd_le_natAbs_left (a:=a) b h
  omega
end Go.Proofs.YtgbcaflelmgbdaaGreatDoor.Ab
namespace Go.Proofs.YtgbcaflelmgbdaaGreatDoor.Ab
open Go.RowKit Go.Proofs.YtgbcaflelmgbdaaGreatDoor
theorem equal3 {P:Program} {T e:TypeId} {x0 x1 x2 y0 y1 y2:Value} {r0 r1 r2:Bool} (d:Nat) (hT:P.underlying T=some (.array 3 e)) (he:P.cellsOf e=1) (ha:∀ w,(isAgg e).run P w = .ok false w) (hs:∀ w,(sizeOf e).run P w = .ok 1 w)
 (h0:∀ w,(Op.equalIn d e x0 y0).run P w = .ok r0 w) (h1:∀ w,(Op.equalIn d e x1 y1).run P w = .ok r1 w) (h2:∀ w,(Op.equalIn d e x2 y2).run P w = .ok r2 w) (w:World) :
 (Op.equalIn (d+1) T (.agg #[x0,x1,x2]) (.agg #[y0,y1,y2])).run P w = .ok (r0&&r1&&r2) w:=by
 rw [Op.equalIn]
 simp only [Sem.run_bind,run_underlying hT,Result.andThen_ok,hs]
 simp only [Std.Legacy.Range.forIn_eq_forIn_range',Std.Legacy.Range.size,Nat.sub_zero,Nat.add_sub_cancel,Nat.div_one,List.range'_succ,List.range'_zero,List.forIn_cons,List.forIn_nil]
 simp [go_sem,ha,hs,h0,h1,h2]
 cases r0 <;> cases r1 <;> cases r2 <;> simp
end Go.Proofs.YtgbcaflelmgbdaaGreatDoor.Ab
namespace Go.Proofs.YtgbcaflelmgbdaaGreatDoor.Ab
open Go.RowKit Go.Proofs.YtgbcaflelmgbdaaGreatDoor Pl
theorem jne_run {o:Oper} {ρ:Operand→Value} {w:World} {x y:Operand} {a b:Int} {r:Bool} {T T' : TypeId} (ho:o.op = .binOp .neq T x y T') (hx:ρ x = .int .i64 a) (hy:ρ y = .int .i64 b) (h:(!(a==b))=r) :
 (execOp ρ o).run Tryz.prog w = .ok (.value (.bool r)) w:=by
 simp only [execOp,ho,hx,hy]
 refine bH ?_
 rw [← h]
 exact bN (by kernel_rfl) w
theorem iss_run {o:Oper} {ρ:Operand→Value} {w:World} {x y:Operand} {a b:Int} {r:Bool} (ho:o.op = .binOp .lss 3 x y 3) (hx:ρ x = .int .i64 a) (hy:ρ y = .int .i64 b) (h:decide (a<b)=r) :
 (execOp ρ o).run Tryz.prog w = .ok (.value (.bool r)) w:=by
 simp only [execOp,ho,hx,hy]
 refine bH ?_
 rw [← h]
 exact bN (by kernel_rfl) w
theorem guard_eq {T:TypeId} {xs ys:Array Value} {x y:Operand} (h:Tryz.prog.eqGuardType Tryz.prog.depth T=false) (w:World):(eqGuard .eql T x y (.agg xs) (.agg ys)).run Tryz.prog w = .ok () w:=by
 simp [eqGuard,Sem.run_bind,run_program,h]
theorem guard_ne {T:TypeId} {xs ys:Array Value} {x y:Operand} (h:Tryz.prog.eqGuardType Tryz.prog.depth T=false) (w:World):(eqGuard .neq T x y (.agg xs) (.agg ys)).run Tryz.prog w = .ok () w:=by
 simp [eqGuard,Sem.run_bind,run_program,h]
theorem agg_eq {o:Oper} {ρ:Operand→Value} {w:World} {x y:Operand} {xs ys:Array Value} {T T' : TypeId} {r:Bool} (hg:Tryz.prog.eqGuardType Tryz.prog.depth T=false) (h:(Op.equal T (.agg xs) (.agg ys)).run Tryz.prog w = .ok r w) (ho:o.op = .binOp .eql T x y T') (hx:ρ x = .agg xs) (hy:ρ y = .agg ys) :
 (execOp ρ o).run Tryz.prog w = .ok (.value (.bool r)) w:=by
 simp only [execOp,ho,hx,hy]
 refine bH ?_
 simp only [Sem.run_bind,guard_eq hg,Result.andThen_ok]
 show (do pure (Value.bool (← Op.equal T (.agg xs) (.agg ys))):Sem Value).run Tryz.prog w=_
 rw [Sem.run_bind,h]
 rfl
theorem agg_ne {o:Oper} {ρ:Operand→Value} {w:World} {x y:Operand} {xs ys:Array Value} {T T' : TypeId} {r:Bool} (hg:Tryz.prog.eqGuardType Tryz.prog.depth T=false) (h:(Op.equal T (.agg xs) (.agg ys)).run Tryz.prog w = .ok r w) (ho:o.op = .binOp .neq T x y T') (hx:ρ x = .agg xs) (hy:ρ y = .agg ys) :
 (execOp ρ o).run Tryz.prog w = .ok (.value (.bool (!r))) w:=by
 simp only [execOp,ho,hx,hy]
 refine bH ?_
 simp only [Sem.run_bind,guard_ne hg,Result.andThen_ok]
 show (do pure (Value.bool (!(← Op.equal T (.agg xs) (.agg ys)))):Sem Value).run Tryz.prog w=_
 rw [Sem.run_bind,h]
 rfl
theorem equalZ (a b c x y z:Int) (w:World):(Op.equal 27 (.agg #[.int .i64 a,.int .i64 b,.int .i64 c]) (.agg #[.int .i64 x,.int .i64 y,.int .i64 z])).run Tryz.prog w = .ok (a==x&&b==y&&c==z) w :=
 equal3 9999 (e:=3) (by kernel_rfl) (by kernel_rfl) (fun w=>by kernel_rfl) (fun w=>by kernel_rfl) (fun w=>run_equalIn_int w _ _ _ .i64 _ _ (by kernel_rfl)) (fun w=>run_equalIn_int w _ _ _ .i64 _ _ (by kernel_rfl)) (fun w=>run_equalIn_int w _ _ _ .i64 _ _ (by kernel_rfl)) w
theorem equalT (a b c x y z:ByteArray) (w:World):(Op.equal 24 (.agg #[.string a,.string b,.string c]) (.agg #[.string x,.string y,.string z])).run Tryz.prog w = .ok (a.toList==x.toList&&b.toList==y.toList&&c.toList==z.toList) w :=
 equal3 9999 (e:=22) (by kernel_rfl) (by kernel_rfl) (fun w=>by kernel_rfl) (fun w=>by kernel_rfl) (fun w=>run_equalIn_string w _ _ _ _ (by kernel_rfl)) (fun w=>run_equalIn_string w _ _ _ _ (by kernel_rfl)) (fun w=>run_equalIn_string w _ _ _ _ (by kernel_rfl)) w
abbrev i3 (a b c:Int):AV Kn := .fv (.ag [gM a,gM b,gM c])
theorem i3_is {a b c:Int} {β:List Nat} {v:Value} {w:World} (h:(i3 a b c).holds β v w):v = .agg #[.int .i64 a,.int .i64 b,.int .i64 c]:=by
 obtain ⟨cs,rfl,x1,r1,rfl,h1,x2,r2,rfl,h2,x3,r3,rfl,h3,e⟩:=h
 rw [show r3 = [] from e,show x1=_ from h1,show x2=_ from h2,show x3=_ from h3]
 rfl
theorem s3_is {a b c:ByteArray} {β:List Nat} {v:Value} {w:World} (h:(.fv (.ag [dG a,dG b,dG c]):AV Kn).holds β v w):v = .agg #[.string a,.string b,.string c]:=by
 obtain ⟨cs,rfl,x1,r1,rfl,h1,x2,r2,rfl,h2,x3,r3,rfl,h3,e⟩:=h
 rw [show r3 = [] from e,show x1=_ from h1,show x2=_ from h2,show x3=_ from h3]
 rfl
theorem l3_is {a b c:Value} {β:List Nat} {v:Value} {w:World} (h:(.fv (.ag [.lit a,.lit b,.lit c]):AV Kn).holds β v w):v = .agg #[a,b,c]:=by
 obtain ⟨cs,rfl,x1,r1,rfl,h1,x2,r2,rfl,h2,x3,r3,rfl,h3,e⟩:=h
 rw [show r3 = [] from e,h1.1,h2.1,h3.1]
 rfl
section
variable {f:FuncId} {w00:World} {Out:Value→World→Prop} {c:Cfg Kn}
theorem klt (x y:Operand) (a b:Int) (r:Bool) (Y:AV Kn) (hY:∀ β v w,Y.holds β v w→v = .int .i64 b) (h:decide (a<b)=r) (hg:Ok Tryz.prog f w00 Out (dH Tryz.prog 1000 (c.give (bl r))))
 (hc:(c.op.map fun o=>o.op,c.okT (bl r),c.ev x,c.ev y)=(some (.binOp .lss 3 x y 3),true,.fv (.sc (gM a)),Y):=by kernel_rfl):Ok Tryz.prog f w00 Out c :=
 eJ (.binOp .lss 3 x y 3) x y _ _ (bl r) hc (by simp [Op.operands]) (by simp [Op.operands]) (fun ρ o β w ho hx hy=>⟨_,iss_run ho (aR hx) (hY _ _ _ hy) h,bA rfl⟩) hg
theorem kgg (x y:Operand) (a b:Int) (r:Bool) (Y:AV Kn) (hY:∀ β v w,Y.holds β v w→v = .int .i64 b) (h:decide (b<a)=r) (hg:Ok Tryz.prog f w00 Out (dH Tryz.prog 1000 (c.give (bl r))))
 (hc:(c.op.map fun o=>o.op,c.okT (bl r),c.ev x,c.ev y)=(some (.binOp .gtr 3 x y 3),true,.fv (.sc (gM a)),Y):=by kernel_rfl):Ok Tryz.prog f w00 Out c :=
 eJ (.binOp .gtr 3 x y 3) x y _ _ (bl r) hc (by simp [Op.operands]) (by simp [Op.operands]) (fun ρ o β w ho hx hy=>⟨_,gt_run ho (aR hx) (hY _ _ _ hy) h,bA rfl⟩) hg
theorem kne (x y:Operand) (a b:Int) (r:Bool) (Y:AV Kn) (hY:∀ β v w,Y.holds β v w→v = .int .i64 b) (h:(!(a==b))=r) (hg:Ok Tryz.prog f w00 Out (dH Tryz.prog 1000 (c.give (bl r))))
 (hc:(c.op.map fun o=>o.op,c.okT (bl r),c.ev x,c.ev y)=(some (.binOp .neq 3 x y 3),true,.fv (.sc (gM a)),Y):=by kernel_rfl):Ok Tryz.prog f w00 Out c :=
 eJ (.binOp .neq 3 x y 3) x y _ _ (bl r) hc (by simp [Op.operands]) (by simp [Op.operands]) (fun ρ o β w ho hx hy=>⟨_,jne_run ho (aR hx) (hY _ _ _ hy) h,bA rfl⟩) hg
theorem bG {b:Int} (β:List Nat) (v:Value) (w:World) (h:(it b).holds β v w):v = .int .i64 b:=aO h
theorem kz3 (x y:Operand) (a b d:Int) (r:Bool) (h:(a==0&&b==0&&d==0)=r) (hg:Ok Tryz.prog f w00 Out (dH Tryz.prog 1000 (c.give (bl r))))
 (hc:(c.op.map fun o=>o.op,c.okT (bl r),c.ev x,c.ev y)=(some (.binOp .eql 27 x y 27),true,i3 a b d,iv 0 0 0):=by kernel_rfl):Ok Tryz.prog f w00 Out c :=
 eJ (.binOp .eql 27 x y 27) x y _ _ (bl r) hc (by simp [Op.operands]) (by simp [Op.operands]) (fun ρ o β w ho hx hy=>⟨_,agg_eq (by kernel_rfl) (h▸equalZ a b d 0 0 0 w) ho (i3_is hx) (l3_is hy),bA rfl⟩) hg
theorem kv3 (x y:Operand) (a b d:ByteArray) (hg:Ok Tryz.prog f w00 Out (dH Tryz.prog 1000 (c.give (bl false))))
 (hc:(c.op.map fun o=>o.op,c.okT (bl false),c.ev x,c.ev y)=(some (.binOp .neq 24 x y 24),true,.fv (.ag [dG a,dG b,dG d]),.fv (.ag [dG a,dG b,dG d])):=by kernel_rfl):Ok Tryz.prog f w00 Out c :=
 eJ (.binOp .neq 24 x y 24) x y _ _ (bl false) hc (by simp [Op.operands]) (by simp [Op.operands]) (fun ρ o β w ho hx hy=>⟨_,by
  have e:=equalT a b d a b d w
  simp only [beq_self_eq_true,Bool.and_self] at e
  exact agg_ne (by kernel_rfl) e ho (s3_is hx) (s3_is hy),bA rfl⟩) hg
theorem kneg (t:Tmp) (a:Int) (ha:M64 a) (ha2:M64 (-a)) (hg:Ok Tryz.prog f w00 Out (dH Tryz.prog 1000 (c.give (.fv (.sc (gM (-a)))))))
 (hc:(c.op.map fun o=>o.op,c.okT (.fv (.sc (gM (-a)))),c.ev (.tmp t),c.ev (.tmp t))=(some (.unOp .neg 3 (.tmp t)),true,.fv (.sc (gM a)),.fv (.sc (gM a))):=by kernel_rfl):Ok Tryz.prog f w00 Out c :=
 eJ (.unOp .neg 3 (.tmp t)) (.tmp t) (.tmp t) _ _ (.fv (.sc (gM (-a)))) hc (by simp [Op.operands]) (by simp [Op.operands]) (fun ρ o β w ho hx hy=>⟨_,by
  simp only [execOp,ho,aR hx]
  refine bH ?_
  have e:IntKind.i64.wrap (-a) = -a:=by rw [IntWalk.i64_left,IntWalk.wrap64_in _ ⟨by have:=ha2.1;omega,by have:=ha2.2;omega⟩]
  simp [go_sem,e],bM⟩) hg
theorem kabs (t u:Tmp) (a:Int) (hg:Ok Tryz.prog f w00 Out (dH Tryz.prog 1000 (c.give (.fv (.sc (gM (a.natAbs:Int)))))))
 (hc:(c.op.map fun o=>o.op,c.okT (.fv (.sc (gM (a.natAbs:Int)))),c.ev (.tmp t),c.ev (.tmp u))=(some (.call ⟨.builtin .max,#[.tmp t,.tmp u],#[3,3]⟩),true,.fv (.sc (gM a)),.fv (.sc (gM (-a)))):=by kernel_rfl):Ok Tryz.prog f w00 Out c :=
 eJ (.call ⟨.builtin .max,#[.tmp t,.tmp u],#[3,3]⟩) (.tmp t) (.tmp u) _ _ (.fv (.sc (gM (a.natAbs:Int)))) hc (by simp [Op.operands,Call.operands]) (by simp [Op.operands,Call.operands]) (fun ρ o β w ho hx hy=>⟨_,by
  have e:max a (-a)=(a.natAbs:Int):=by rw [Int.max_def];split <;> omega
  rw [← e]
  simp only [execOp,ho]
  refine bH ?_
  simp [go_sem,aR hx,aR hy],bM⟩) hg
theorem kcvu (t:Tmp) (a:Nat) (ha:a<9223372036854775808) (hg:Ok Tryz.prog f w00 Out (dH Tryz.prog 1000 (c.give (.fv (.sc (.lit (.int .u64 (a:Int))))))))
 (hc:(c.op.map fun o=>o.op,c.okT (.fv (.sc (.lit (.int .u64 (a:Int))))),c.ev (.tmp t),c.ev (.tmp t))=(some (.convert 3 160 (.tmp t)),true,.fv (.sc (gM (a:Int))),.fv (.sc (gM (a:Int)))):=by kernel_rfl):Ok Tryz.prog f w00 Out c :=
 eJ (.convert 3 160 (.tmp t)) (.tmp t) (.tmp t) _ _ (.fv (.sc (.lit (.int .u64 (a:Int))))) hc (by simp [Op.operands]) (by simp [Op.operands]) (fun ρ o β w ho hx hy=>⟨_,by
  simp only [execOp,ho,aR hx]
  refine bH ?_
  have e:IntKind.u64.wrap (a:Int)=a:=by simp [IntKind.wrap,IntKind.bits,IntKind.signed];omega
  simp [go_sem,e],bA rfl⟩) hg
end
theorem cutPrefixNo {s:ByteArray} (h:Lib.hasPrefix s.data.toList [45]=false):Fits Tryz.prog 54 [tx s,lt ⟨#[45]⟩] (.tup [.sc (dG s),.sc (.lit (.bool false))]):=by
 intro β w vs hv
 obtain ⟨v,u,rfl,h1,h2⟩:=eM hv
 rw [aR h1,aO h2]
 have es:(⟨(Lib.trimPrefix s.data.toList [45]).toArray⟩:ByteArray)=s:=ba_ext (by unfold Lib.trimPrefix;rw [h];simp)
 refine (Tryz.strings_CutPrefix s ⟨#[45]⟩ w).mono fun e w' ⟨e1,e2⟩=>⟨_,e1,by rw [e2];exact Below.refl _ _,?_⟩
 rw [show (⟨#[45]⟩:ByteArray).data.toList = [45] from rfl,es,h]
 exact ⟨[.string s,.bool false],rfl,_,_,rfl,bM (β:=β),_,_,rfl,⟨rfl,rfl⟩,rfl⟩
theorem ascii_two:∀ (j:Nat) (b:UInt8),(⟨#[47,46]⟩:ByteArray).data.toList[j]?=some b→b.toNat<128:=by
 intro j b h
 have:=List.mem_of_getElem? h
 simp at this
 rcases this with rfl|rfl <;> decide
theorem indexAnyF {s:ByteArray} {k:Int} (hs:s.size<4294967281) (ha:∀ (j:Nat) (b:UInt8),s.data.toList[j]?=some b→b.toNat<128) (h:Lib.indexAny s.data.toList [47,46]=k):Fits Tryz.prog 118 [tx s,lt ⟨#[47,46]⟩] (.fv (.sc (gM k))):=by
 intro β w vs hv
 obtain ⟨v,u,rfl,h1,h2⟩:=eM hv
 rw [aR h1,aO h2]
 refine (Tryz.strings_IndexAny_laid s ⟨#[47,46]⟩ w hs (by decide) ha ascii_two).mono fun e w' ⟨e1,e2⟩=>⟨_,e1,e2,?_⟩
 rw [show (⟨#[47,46]⟩:ByteArray).data.toList = [47,46] from rfl,h]
 exact bM
theorem repeatF {c:Nat} {z:ByteArray} (h2:2≤c) (hc:c≤100000) (hz:(⟨(Lib.repeatL [48] c).toArray⟩:ByteArray)=z):Fits Tryz.prog 120 [lt ⟨#[48]⟩,.fv (.sc (gM c))] (tx z):=by
 intro β w vs hv
 obtain ⟨v,u,rfl,h1,h3⟩:=eM hv
 rw [aO h1,aR h3]
 have hsz:(⟨#[48]⟩:ByteArray).size=1:=rfl
 refine (Tryz.strings_Repeat_main ⟨#[48]⟩ c w h2 (by omega) (by rw [hsz];omega) (by rw [hsz];omega)).mono fun e w' ⟨e1,e2⟩=>⟨_,e1,e2,?_⟩
 rw [show (⟨#[48]⟩:ByteArray).data.toList = [48] from rfl,hz]
 exact bM
section
variable {s a b z:ByteArray} {k:Nat}
theorem partsDot (hi:Fits Tryz.prog 118 [tx s,lt ⟨#[47,46]⟩] (.fv (.sc (gM k)))) (hk:k<s.size) (hs:s.size≤10000) (ha:s.extract 0 k=a) (hb:s.extract (k+1) s.size=b) (da:AllDig (aC a)) (da0:0<a.size) (db:AllDig (aC b)) (db0:0<b.size)
 (hdot:s[k]?=some 46) (hr:Fits Tryz.prog 120 [lt ⟨#[48]⟩,.fv (.sc (gM b.size))] (tx z)) (hz:z.size≤10000):Fits Tryz.prog 55 [tx s] (.tup [.sc (dG (a++b)),.sc (dG (⟨#[49]⟩++z)),.sc z0]):=by
 have hasz:a.size≤s.size:=by rw [← ha,ByteArray.size_extract];omega
 have hbsz:b.size≤s.size:=by rw [← hb,ByteArray.size_extract];omega
 refine fW Tryz.func55 (by kernel_rfl) fun w00=>?_
 refine aB 118 [tx s,lt ⟨#[47,46]⟩] (hi) (by kernel_rfl) Tryz.call118 ?_
 refine eJ (.binOp .lss 3 (.tmp 10) (.const (.int .i64 0)) 3) (.tmp 10) (.const (.int .i64 0)) (.fv (.sc (gM k))) (it 0) (bl false) (by kernel_rfl) (by simp [Op.operands]) (by simp [Op.operands]) (fun ρ o β w ho hx hy=>⟨_,lss_run ho (aR hx) (aO hy) (by rw [decide_eq_false_iff_not];omega),bA rfl⟩) ?_
 refine eJ (.slice 9 (.tmp 16) none (some (.tmp 17)) none) (.tmp 16) (.tmp 17) (tx s) (.fv (.sc (gM k))) (tx a) (by kernel_rfl) (by simp [Op.operands]) (by simp [Op.operands]) (fun ρ o β w ho hx hy=>?_) ?_
 ·have:=nR (w:=w) ho Tryz.underlying9 (aR hx) (aR hy) (by omega)
  rw [ha] at this
  exact ⟨_,this,bM⟩
 refine eJ (.binOp .add 3 (.tmp 20) (.const (.int .i64 1)) 3) (.tmp 20) (.const (.int .i64 1)) (.fv (.sc (gM k))) (it 1) (.fv (.sc (gM ((k+1:Nat):Int)))) (by kernel_rfl) (by simp [Op.operands]) (by simp [Op.operands]) (fun ρ o β w ho hx hy=>⟨_,add1_run ho (aR hx) (aO hy) (by omega),bM⟩) ?_
 refine eJ (.slice 9 (.tmp 19) (some (.tmp 21)) none none) (.tmp 19) (.tmp 21) (tx s) (.fv (.sc (gM ((k+1:Nat):Int)))) (tx b) (by kernel_rfl) (by simp [Op.operands]) (by simp [Op.operands]) (fun ρ o β w ho hx hy=>?_) ?_
 ·have:=nS (w:=w) ho Tryz.underlying9 (aR hx) (aR hy) (by omega)
  rw [hb] at this
  exact ⟨_,this,bM⟩
 refine aB 119 [tx a] (isDigitsF da da0) (by kernel_rfl) Tryz.call119 ?_
 refine aB 119 [tx b] (isDigitsF db db0) (by kernel_rfl) Tryz.call119 ?_
 refine eJ (.index 9 (.tmp 33) (.tmp 34)) (.tmp 33) (.tmp 34) (tx s) (.fv (.sc (gM k))) (.fv (.sc (.lit (.int .u8 46)))) (by kernel_rfl) (by simp [Op.operands]) (by simp [Op.operands]) (fun ρ o β w ho hx hy=>⟨_,index_run ho Tryz.underlying9 (aR hx) (aR hy) hdot,bA rfl⟩) ?_
 refine eJ (.binOp .add 9 (.tmp 37) (.tmp 38) 9) (.tmp 37) (.tmp 38) (tx a) (tx b) (tx (a++b)) (by kernel_rfl) (by simp [Op.operands]) (by simp [Op.operands]) (fun ρ o β w ho hx hy=>⟨_,gZ ho (aR hx) (aR hy) (by omega),bM⟩) ?_
 refine klen 40 b (by kernel_rfl) ?_
 refine aB 120 [lt ⟨#[48]⟩,.fv (.sc (gM b.size))] (hr) (by kernel_rfl) Tryz.call120 ?_
 refine eJ (.binOp .add 9 (.const (.string ⟨#[49]⟩)) (.tmp 42) 9) (.const (.string ⟨#[49]⟩)) (.tmp 42) (lt ⟨#[49]⟩) (tx z) (tx (⟨#[49]⟩++z)) (by kernel_rfl) (by simp [Op.operands]) (by simp [Op.operands]) (fun ρ o β w ho hx hy=>⟨_,gZ ho (aO hx) (aR hy) (by have:(⟨#[49]⟩:ByteArray).size=1:=rfl;omega),bM⟩) ?_
 exact aS Tryz.func55 (by kernel_rfl)
theorem parseF' {n d:Nat} (hs:s.size≤4096) (hp:Lib.hasPrefix s.data.toList [45]=false) (hpt:Fits Tryz.prog 55 [tx s] (.tup [.sc (dG (decB n)),.sc (dG (decB d)),.sc z0])) (hn:(decB n).size≤100000) (hd:(decB d).size≤100000) (ln:Lv 40 n) (ld:Lv 40 d) (d0:0<d)
 (lq:Lf 20 (mkRat (sg false n) d)) (w1:(decB (mkRat (sg false n) d).num.natAbs).size≤600) (w2:(decB (mkRat (sg false n) d).den).size≤600):FitsW Tryz.prog Gl 17 [tx s] (.tup [.sc (dG (writeB (mkRat (sg false n) d))),.sc z0]):=by
 refine dO Tryz.func17 (by kernel_rfl) fun w00 hG=>?_;have hI:=bD hG
 refine klen 9 s (by kernel_rfl) ?_
 refine kgt 10 s.size 4096 false (by rw [decide_eq_false_iff_not];omega) (by kernel_rfl) ?_
 refine aB 54 [tx s,lt ⟨#[45]⟩] (cutPrefixNo hp) (by kernel_rfl) Tryz.call54 ?_
 refine aB 55 [tx s] (hpt) (by kernel_rfl) Tryz.call55 ?_
 refine aB 57 [tx (decB n)] (dJ hn) (by kernel_rfl) Tryz.call57 ?_
 refine aB 57 [tx (decB d)] (dJ hd) (by kernel_rfl) Tryz.call57 ?_
 refine aB 56 [bl false,nt n,nt d] (nN ln ld d0) (by kernel_rfl) Tryz.call56 ?_
 refine aB 58 [fra (mkRat (sg false n) d)] (jA) (by kernel_rfl) Tryz.call58 ?_
 refine aL hI 59 [num (mkRat (sg false n) d)] (writeF lq w1 w2) (by kernel_rfl) Tryz.call59 ?_
 exact aS Tryz.func17 (by kernel_rfl)
end
end Go.Proofs.YtgbcaflelmgbdaaGreatDoor.Ab
namespace Go.Proofs.YtgbcaflelmgbdaaGreatDoor.Fr
open Go.RowKit Go.Shelf
attribute [local go_sem] Oper.semAt_some
def axV (x1 x2 x3 y1 y2 y3 z1 z2 z3:ByteArray):Fin 3→Value
 | 0 => .agg #[.string x1,.string x2,.string x3]
 | 1 => .agg #[.string y1,.string y2,.string y3]
 | 2 => .agg #[.string z1,.string z2,.string z3]
def axE (x1 x2 x3 y1 y2 y3 z1 z2 z3:ByteArray) (i:Fin 3):Array Value := #[.int .i64 ((i.val:Nat):Int),axV x1 x2 x3 y1 y2 y3 z1 z2 z3 i]
theorem ix0 (w:World) (x1 x2 x3 y1 y2 y3 z1 z2 z3:ByteArray):(Sem.run Tryz.prog (Instr.index 191 (.agg #[.string x1,.string x2,.string x3,.string y1,.string y2,.string y3,.string z1,.string z2,.string z3]) (.int .i64 0)) w) = .ok (.agg #[.string x1,.string x2,.string x3]) w:=by
 kernel_rfl
theorem ix1 (w:World) (x1 x2 x3 y1 y2 y3 z1 z2 z3:ByteArray):(Sem.run Tryz.prog (Instr.index 191 (.agg #[.string x1,.string x2,.string x3,.string y1,.string y2,.string y3,.string z1,.string z2,.string z3]) (.int .i64 1)) w) = .ok (.agg #[.string y1,.string y2,.string y3]) w:=by
 kernel_rfl
theorem ix2 (w:World) (x1 x2 x3 y1 y2 y3 z1 z2 z3:ByteArray):(Sem.run Tryz.prog (Instr.index 191 (.agg #[.string x1,.string x2,.string x3,.string y1,.string y2,.string y3,.string z1,.string z2,.string z3]) (.int .i64 2)) w) = .ok (.agg #[.string z1,.string z2,.string z3]) w:=by
 kernel_rfl
set_option maxRecDepth 100000 in
set_option maxHeartbeats 2000000 in
theorem axes1_in (F:Fence) (n:Nat) (h8:F.fn 146) (hro:F.round=none) (hn:1≤n) (l Bf n₀:Nat) (o1 o2 o3 x1 x2 x3 y1 y2 y3 z1 z2 z3:ByteArray) (J Jx:List (Fin 3)→World→Prop)
 (hY:∀ pre x W,J pre W→pre.length<3→YieldAt F (n-1) Tryz.prog l (axE x1 x2 x3 y1 y2 y3 z1 z2 z3 x) W fun e W' =>
  (e = .returned (.bool true)∧J (pre ++ [x]) W'∧Below n₀ W W')∨(e = .returned (.bool false)∧Jx (pre ++ [x]) W'))
 (W:World) (hJ:AbidesFrom W.heap.size J) (hn0:n₀≤W.heap.size) (hB:W.heap[Bf]?=some (.cells #[.string o1,.string o2,.string o3,.string x1,.string x2,.string x3,.string y1,.string y2,.string y3,.string z1,.string z2,.string z3] 26 (0,0))) (h0:J [] W) :
 CallsIn F n Tryz.prog 146 #[.func (.yield l) #[] #[],.pointer (some ⟨Bf,0,none⟩)] W fun e W'=>(∃ v,e = .returned v) ∧
  ((∃ ys,ys = [0,1,2]∧J ys W')∨(∃ pre,True∧Jx pre W')):=by
 refine callsIn_of_wp Tryz.func146 rfl h8 ?_ hro
 simp only [Tryz.ntmps146,List.size_toArray,List.length_cons,List.length_nil,Nat.reduceAdd,Nat.reduceSub,Array.replicate_succ,Array.replicate_zero,List.push_toArray,List.append_toArray,List.nil_append,List.cons_append]
 have c3:W.cell? ⟨Bf,3,none⟩=some (.string x1):=by simp [World.cell?,hB]
 have c4:W.cell? ⟨Bf,4,none⟩=some (.string x2):=by simp [World.cell?,hB]
 have c5:W.cell? ⟨Bf,5,none⟩=some (.string x3):=by simp [World.cell?,hB]
 have c6:W.cell? ⟨Bf,6,none⟩=some (.string y1):=by simp [World.cell?,hB]
 have c7:W.cell? ⟨Bf,7,none⟩=some (.string y2):=by simp [World.cell?,hB]
 have c8:W.cell? ⟨Bf,8,none⟩=some (.string y3):=by simp [World.cell?,hB]
 have c9:W.cell? ⟨Bf,9,none⟩=some (.string z1):=by simp [World.cell?,hB]
 have c10:W.cell? ⟨Bf,10,none⟩=some (.string z2):=by simp [World.cell?,hB]
 have c11:W.cell? ⟨Bf,11,none⟩=some (.string z3):=by simp [World.cell?,hB]
 clear hB
 gi_wp2
 gi_loopw [12] (fun i wr=>(i = .int .i64 0∧J [] wr∨i = .int .i64 1∧J [0] wr∨i = .int .i64 2∧J [0,1] wr∨i = .int .i64 3∧J [0,1,2] wr)∧n₀≤wr.heap.size) (fun i _=>3-(intOf i).toNat)
 case atStart=>exact ⟨.inl ⟨rfl,h0⟩,hn0⟩
 case round =>
  obtain ⟨hc,hnr⟩:=hrel
  rcases hc with ⟨rfl,hJs⟩|⟨rfl,hJs⟩|⟨rfl,hJs⟩|⟨rfl,hJs⟩
  ·have hix:=ix0 wr x1 x2 x3 y1 y2 y3 z1 z2 z3
   have hJa:=hJ [] wr (wr.alloc (.cells #[.string x1,.string x2,.string x3] 24)) none hJs (World.grownBy_alloc _ _ none) (fun r e=>by cases e)
   obtain ⟨fn,tmps,assign,body,hy,hR⟩:=hY [] 0 _ hJa (by simp)
   change (Sem.run Tryz.prog (Instr.yield l #[.int .i64 0,.agg #[.string x1,.string x2,.string x3]]) _)=_ at hy
   gi_wp2
   refine hR.mono ?_
   rintro e W3 (⟨rfl,hJ3,hk3⟩|⟨rfl,hJx3⟩)
   ·have hs3:n₀≤W3.heap.size:=by have:=hk3.size;simp at this;omega
    gi_wp2
    go_roundw
    case rel=>exact ⟨.inr (.inl ⟨rfl,hJ3⟩),hs3⟩
    case measure=>simp [intOf]
   ·gi_wp2
    refine bodyPost_ret (results_none rfl _ _ _) rfl ?_
    exact ⟨⟨_,rfl⟩,.inr ⟨_,trivial,hJx3⟩⟩
  ·have hix:=ix1 wr x1 x2 x3 y1 y2 y3 z1 z2 z3
   have hJa:=hJ [0] wr (wr.alloc (.cells #[.string y1,.string y2,.string y3] 24)) none hJs (World.grownBy_alloc _ _ none) (fun r e=>by cases e)
   obtain ⟨fn,tmps,assign,body,hy,hR⟩:=hY [0] 1 _ hJa (by simp)
   change (Sem.run Tryz.prog (Instr.yield l #[.int .i64 1,.agg #[.string y1,.string y2,.string y3]]) _)=_ at hy
   gi_wp2
   refine hR.mono ?_
   rintro e W3 (⟨rfl,hJ3,hk3⟩|⟨rfl,hJx3⟩)
   ·have hs3:n₀≤W3.heap.size:=by have:=hk3.size;simp at this;omega
    gi_wp2
    go_roundw
    case rel=>exact ⟨.inr (.inr (.inl ⟨rfl,hJ3⟩)),hs3⟩
    case measure=>simp [intOf]
   ·gi_wp2
    refine bodyPost_ret (results_none rfl _ _ _) rfl ?_
    exact ⟨⟨_,rfl⟩,.inr ⟨_,trivial,hJx3⟩⟩
  ·have hix:=ix2 wr x1 x2 x3 y1 y2 y3 z1 z2 z3
   have hJa:=hJ [0,1] wr (wr.alloc (.cells #[.string z1,.string z2,.string z3] 24)) none hJs (World.grownBy_alloc _ _ none) (fun r e=>by cases e)
   obtain ⟨fn,tmps,assign,body,hy,hR⟩:=hY [0,1] 2 _ hJa (by simp)
   change (Sem.run Tryz.prog (Instr.yield l #[.int .i64 2,.agg #[.string z1,.string z2,.string z3]]) _)=_ at hy
   gi_wp2
   refine hR.mono ?_
   rintro e W3 (⟨rfl,hJ3,hk3⟩|⟨rfl,hJx3⟩)
   ·have hs3:n₀≤W3.heap.size:=by have:=hk3.size;simp at this;omega
    gi_wp2
    go_roundw
    case rel=>exact ⟨.inr (.inr (.inr ⟨rfl,hJ3⟩)),hs3⟩
    case measure=>simp [intOf]
   ·gi_wp2
    refine bodyPost_ret (results_none rfl _ _ _) rfl ?_
    exact ⟨⟨_,rfl⟩,.inr ⟨_,trivial,hJx3⟩⟩
  ·gi_wp2
   go_end0
   exact ⟨⟨_,rfl⟩,.inl ⟨_,rfl,hJs⟩⟩
theorem axes_stops (F:Fence) (n:Nat) (h8:F.fn 146) (hro:F.round=none) (hn:1≤n) (Bf n₀:Nat) (o1 o2 o3 x1 x2 x3 y1 y2 y3 z1 z2 z3:ByteArray) (w:World) (hn0:n₀≤w.heap.size)
 (hB:w.heap[Bf]?=some (.cells #[.string o1,.string o2,.string o3,.string x1,.string x2,.string x3,.string y1,.string y2,.string y3,.string z1,.string z2,.string z3] 26 (0,0))) :
 SeqStopsK F n Tryz.prog 146 #[.pointer (some ⟨Bf,0,none⟩)] (axE x1 x2 x3 y1 y2 y3 z1 z2 z3) (Below n₀) (fun ys=>ys = [0,1,2]) (fun _=>True) 3 w:=fun l J Jx W hW hJ _ hY h0 =>
 axes1_in F n h8 hro hn l Bf n₀ o1 o2 o3 x1 x2 x3 y1 y2 y3 z1 z2 z3 J Jx hY W hJ (Nat.le_trans hn0 hW.size) ((hW.block Bf (by rcases Nat.lt_or_ge Bf w.heap.size with h|h;exact h;rw [Array.getElem?_eq_none h] at hB;cases hB)).trans hB) h0
set_option maxHeartbeats 1000000 in
theorem axes_any (o1 o2 o3 x1 x2 x3 y1 y2 y3 z1 z2 z3:ByteArray) (w:World):Calls Tryz.prog 89 #[.agg #[.string o1,.string o2,.string o3,.string x1,.string x2,.string x3,.string y1,.string y2,.string y3,.string z1,.string z2,.string z3]] w fun e w' =>
 e = .returned (.func (.func 146) #[] #[.pointer (some ⟨w.heap.size,0,none⟩)])∧w'=w.alloc (.cells #[.string o1,.string o2,.string o3,.string x1,.string x2,.string x3,.string y1,.string y2,.string y3,.string z1,.string z2,.string z3] 26 (0,0)):=by
 refine (callsIn_wide (n:=3)).1 ?_
 refine callsIn_of_wp Tryz.func89 rfl trivial ?_ rfl
 simp only [Tryz.ntmps89,List.size_toArray,List.length_cons,List.length_nil,Nat.reduceAdd,Nat.reduceSub,Array.replicate_succ,Array.replicate_zero,List.push_toArray,List.append_toArray,List.nil_append,List.cons_append]
 gi_wp2
 refine bodyPost_ret (results_tmp rfl _ _ _) rfl ?_
 exact ⟨rfl,rfl⟩
end Go.Proofs.YtgbcaflelmgbdaaGreatDoor.Fr
namespace Go.Proofs.YtgbcaflelmgbdaaGreatDoor.Fr
open Go.RowKit Go.Shelf Go.Proofs.YtgbcaflelmgbdaaGreatDoor Go.Proofs.YtgbcaflelmgbdaaGreatDoor.Ab Pl
structure C9 where
 n1:Int
 d1:Int
 p1:Option Addr
 n2:Int
 d2:Int
 p2:Option Addr
 n3:Int
 d3:Int
 p3:Option Addr
def C9.cells (k:C9):List Value := [.int .i64 k.n1,.int .i64 k.d1,.pointer k.p1,.int .i64 k.n2,.int .i64 k.d2,.pointer k.p2,.int .i64 k.n3,.int .i64 k.d3,.pointer k.p3]
def C9.val (k:C9):Value := .agg #[.int .i64 k.n1,.int .i64 k.d1,.pointer k.p1,.int .i64 k.n2,.int .i64 k.d2,.pointer k.p2,.int .i64 k.n3,.int .i64 k.d3,.pointer k.p3]
def C9.zero:C9:=⟨0,0,none,0,0,none,0,0,none⟩
theorem vc9 {w:World} {v:Value} {a b c:Rat} (h:Vc w v a b c):∃ k:C9,v=k.val∧Vc w k.val a b c:=by
 obtain ⟨n1,d1,p1,n2,d2,p2,n3,d3,p3,rfl,h1,h2,h3⟩:=h
 exact ⟨⟨n1,d1,p1,n2,d2,p2,n3,d3,p3⟩,rfl,n1,d1,p1,n2,d2,p2,n3,d3,p3,rfl,h1,h2,h3⟩
theorem vc_cells {β:List Nat} {w:World} {k:C9} {a b c:Rat} (h:Vc w k.val a b c):holdsL β [nb a,nb b,nb c] k.cells w:=by
 obtain ⟨cs,e,hl⟩:=(vc_holds (β:=β)).2 h
 injection e with e
 have e:=congrArg Array.toList e
 have e:k.cells=cs:=e
 rw [e]
 exact hl
def eV (o x y z:C9):List Value:=o.cells++x.cells++y.cells++z.cells
theorem kC {a b c:Rat} (h:mH a b c) (w:World) (hG:Gl w):Calls Tryz.prog 31 #[.agg #[.string (writeB a),.string (writeB b),.string (writeB c)]] w fun e w' => ∃ k:C9,e = .returned (.tuple #[k.val,.int .i64 0])∧Vc w' k.val a b c∧Below w.heap.size w w':=by
 refine (gG h [] w [.agg #[.string (writeB a),.string (writeB b),.string (writeB c)]] hG ⟨_,_,rfl,⟨[.string (writeB a),.string (writeB b),.string (writeB c)],rfl,[.string (writeB a)],_,rfl,rfl,[.string (writeB b)],_,rfl,rfl,[.string (writeB c)],_,rfl,rfl,rfl⟩,rfl⟩).mono ?_
 rintro e w' ⟨v,e1,e2,vs,rfl,u,r,rfl,h1,u2,r2,rfl,h2,h3⟩
 obtain ⟨k,rfl,h4⟩:=vc9 (vc_holds.1 h1)
 have h5:[u2] = [.int .i64 0]:=h2.1
 injection h5 with h5
 rw [show r2 = [] from h3,h5] at e1
 exact ⟨k,e1,h4,e2⟩
theorem first_any (w:World) (g:Nat) (T:TypeId) (hh:w.heap[g]?=some (.cells #[.int .i64 0,.int .i64 0] T (0,0))):Calls Tryz.prog 66 #[.slice (some ⟨g,0,none⟩) 2 2] w fun e w'=>e = .returned (.int .i64 0)∧Below w.heap.size w w':=by
 refine (gF (T:=T) [] w [.slice (some ⟨g,0,none⟩) 2 2] ⟨_,_,rfl,⟨g,[.int .i64 0,.int .i64 0],rfl,hh,[.int .i64 0],_,rfl,⟨rfl,rfl⟩,[.int .i64 0],_,rfl,⟨rfl,rfl⟩,rfl⟩,rfl⟩).mono ?_
 rintro e w' ⟨v,e1,e2,h1⟩
 have h5:[v] = [.int .i64 0]:=h1.1
 injection h5 with h5
 exact ⟨by rw [e1,h5],e2⟩
section
variable {o1 o2 o3 x1 x2 x3 y1 y2 y3 z1 z2 z3:Rat}
theorem fr_holds {β:List Nat} {w:World} {o x y z:C9} (ho:Vc w o.val o1 o2 o3) (hx:Vc w x.val x1 x2 x3) (hy:Vc w y.val y1 y2 y3) (hz:Vc w z.val z1 z2 z3) :
 (lP o1 o2 o3 x1 x2 x3 y1 y2 y3 z1 z2 z3).holds β (.agg (eV o x y z).toArray) w :=
 ⟨eV o x y z,rfl,(((vc_cells ho).append (vc_cells hx)).append (vc_cells hy)).append (vc_cells hz)⟩
theorem check_any {w:World} {o x y z:C9} (ho:Vc w o.val o1 o2 o3) (hx:Vc w x.val x1 x2 x3) (hy:Vc w y.val y1 y2 y3) (hz:Vc w z.val z1 z2 z3) (l:Lm 25 x1 x2 x3 y1 y2 y3 z1 z2 z3) (h:Ax x1 x2 x3 y1 y2 y3 z1 z2 z3) :
 Calls Tryz.prog 90 #[.agg (eV o x y z).toArray] w fun e w'=>e = .returned (.int .i64 0)∧Below w.heap.size w w':=by
 refine (checkF (o1:=o1) (o2:=o2) (o3:=o3) l h [] w [.agg (eV o x y z).toArray] ⟨_,_,rfl,fr_holds ho hx hy hz,rfl⟩).mono ?_
 rintro e w' ⟨v,e1,e2,h1⟩
 have h5:[v] = [.int .i64 0]:=h1.1
 injection h5 with h5
 exact ⟨by rw [e1,h5],e2⟩
end
end Go.Proofs.YtgbcaflelmgbdaaGreatDoor.Fr
