/- Parts of the proof, joined. -/
import Derived.Test.YtbhcckhbbclemaaGreatDoorJ34
import Derived.Test.YtbhcckhbbclemaaGreatDoorJ31
import Derived.Test.YtbhcckhbbclemaaGreatDoorJ26
import Derived.Test.YtbhcckhbbclemaaGreatDoorJ6
import Derived.Laws.Tables
import Derived.Laws.StructEq
import Derived.Test.YtbhcckhbbclemaaGreatDoorJ24
set_option linter.unusedSimpArgs false
set_option linter.unusedVariables false
namespace Go.Proofs.YtbhcckhbbclemaaGreatDoor.Ab
open Go.RowKit Go.Proofs.YtbhcckhbbclemaaGreatDoor Pl
section
variable {o1 o2 o3 x1 x2 x3 y1 y2 y3 z1 z2 z3:Rat} {n1 n2 n3 k1 k2 k3:Int} {d e:Rat}
variable {q1 q2 q3 r1 r2 r3 s1 s2 s3 t1 t2 t3:Rat}
abbrev mlt (a b c x1 x2 x3:Rat):Rat:=dt a b c x1 x2 x3/dt x1 x2 x3 x1 x2 x3
theorem apiInverseF (h:Fv o1 o2 o3 x1 x2 x3 y1 y2 y3 z1 z2 z3) (h0:Sq0 x1 x2 x3 y1 y2 y3 z1 z2 z3)
 (eq1:mlt (((0:Int):Rat)-o1) (((0:Int):Rat)-o2) (((0:Int):Rat)-o3) x1 x2 x3=q1) (eq2:mlt (((0:Int):Rat)-o1) (((0:Int):Rat)-o2) (((0:Int):Rat)-o3) y1 y2 y3=q2) (eq3:mlt (((0:Int):Rat)-o1) (((0:Int):Rat)-o2) (((0:Int):Rat)-o3) z1 z2 z3=q3)
 (er1:mlt ((1:Int):Rat) ((0:Int):Rat) ((0:Int):Rat) x1 x2 x3=r1) (er2:mlt ((1:Int):Rat) ((0:Int):Rat) ((0:Int):Rat) y1 y2 y3=r2) (er3:mlt ((1:Int):Rat) ((0:Int):Rat) ((0:Int):Rat) z1 z2 z3=r3)
 (es1:mlt ((0:Int):Rat) ((1:Int):Rat) ((0:Int):Rat) x1 x2 x3=s1) (es2:mlt ((0:Int):Rat) ((1:Int):Rat) ((0:Int):Rat) y1 y2 y3=s2) (es3:mlt ((0:Int):Rat) ((1:Int):Rat) ((0:Int):Rat) z1 z2 z3=s3)
 (et1:mlt ((0:Int):Rat) ((0:Int):Rat) ((1:Int):Rat) x1 x2 x3=t1) (et2:mlt ((0:Int):Rat) ((0:Int):Rat) ((1:Int):Rat) y1 y2 y3=t2) (et3:mlt ((0:Int):Rat) ((0:Int):Rat) ((1:Int):Rat) z1 z2 z3=t3)
 (hr:Wf q1 q2 q3 r1 r2 r3 s1 s2 s3 t1 t2 t3) (hxy:dt r1 r2 r3 s1 s2 s3=0) (hyz:dt s1 s2 s3 t1 t2 t3=0) (hzx:dt t1 t2 t3 r1 r2 r3=0) :
 FitsW Tryz.prog Gl 11 [frS o1 o2 o3 x1 x2 x3 y1 y2 y3 z1 z2 z3] (okFS q1 q2 q3 r1 r2 r3 s1 s2 s3 t1 t2 t3):=by
 have i0:M64 0:=by constructor <;> omega
 have l0:∀ {k:Nat},Lf k ((0:Int):Rat):=Lf.int (Lv.one _ (by rw [W64_eq];decide))
 have l1:∀ {k:Nat},Lf k ((1:Int):Rat):=Lf.int (Lv.one _ (by rw [W64_eq];decide))
 have lm:=h.w.lm.mono (l:=31) (by decide)
 have hl:Fits Tryz.prog 45 [frm o1 o2 o3 x1 x2 x3 y1 y2 y3 z1 z2 z3,vc (0:Int) (0:Int) (0:Int)] (vc q1 q2 q3):=by
  rw [← eq1,← eq2,← eq3]
  exact localF lm ⟨l0,l0,l0⟩ ((w3lf h.w.o).mono (by decide)) h0
 have hx:Fits Tryz.prog 46 [frm o1 o2 o3 x1 x2 x3 y1 y2 y3 z1 z2 z3,vc (1:Int) (0:Int) (0:Int)] (vc r1 r2 r3):=by
  rw [← er1,← er2,← er3]
  exact multiplesF lm ⟨l1,l0,l0⟩ h0
 have hy:Fits Tryz.prog 46 [frm o1 o2 o3 x1 x2 x3 y1 y2 y3 z1 z2 z3,vc (0:Int) (1:Int) (0:Int)] (vc s1 s2 s3):=by
  rw [← es1,← es2,← es3]
  exact multiplesF lm ⟨l0,l1,l0⟩ h0
 have hz:Fits Tryz.prog 46 [frm o1 o2 o3 x1 x2 x3 y1 y2 y3 z1 z2 z3,vc (0:Int) (0:Int) (1:Int)] (vc t1 t2 t3):=by
  rw [← et1,← et2,← et3]
  exact multiplesF lm ⟨l0,l0,l1⟩ h0
 refine kgoW Tryz.func11 (by kernel_rfl) fun w00 hG=>?_;have hI:=keepGl hG
 refine kcallW hI 44 [frS o1 o2 o3 x1 x2 x3 y1 y2 y3 z1 z2 z3] (h.r) (by kernel_rfl) Tryz.call44 ?_
 refine kcall 36 [iv 0 0 0] (integersF i0 i0 i0) (by kernel_rfl) Tryz.call36 ?_
 refine kcall 45 [frm o1 o2 o3 x1 x2 x3 y1 y2 y3 z1 z2 z3,vc (0:Int) (0:Int) (0:Int)] (hl) (by kernel_rfl) Tryz.call45 ?_
 refine kcall 38 [] (unitsF) (by kernel_rfl) Tryz.call38 ?_
 refine kcall 37 [.fv (.clo 46 [(true,[nb o1,nb o2,nb o3,nb x1,nb x2,nb x3,nb y1,nb y2,nb y3,nb z1,nb z2,nb z3])] []),mt (1:Int) (0:Int) (0:Int) (0:Int) (1:Int) (0:Int) (0:Int) (0:Int) (1:Int)] (eachVVc Tryz.call46 hx hy hz) (by kernel_rfl) Tryz.call37 ?_
 refine kcallW hI 47 [frm q1 q2 q3 r1 r2 r3 s1 s2 s3 t1 t2 t3] (frWriteOrthogonalF hr hxy hyz hzx) (by kernel_rfl) Tryz.call47 ?_
 exact kret Tryz.func11 (by kernel_rfl)
end
theorem isS_lit {β:List Nat} {cs:List Value} {w:World} {b:ByteArray}:(isS b).holds β cs w↔(Seg.lit (.string b):Seg Kn).holds β cs w:=⟨fun h=>⟨h,rfl⟩,fun h=>h.1⟩
inductive LitL:List (Seg Kn)→List (Seg Kn)→Prop where
 | nil:LitL [] []
 | txt {b:ByteArray} {l m}:LitL l m→LitL (isS b::l) (.lit (.string b)::m)
 | same {s:Seg Kn} {l m}:LitL l m→LitL (s::l) (s::m)
theorem LitL.to {β:List Nat} {w:World} {l m:List (Seg Kn)} (h:LitL l m):∀ {cs:List Value},holdsL β l cs w↔holdsL β m cs w:=by
 induction h with
 | nil=>intro cs;exact Iff.rfl
 | txt _ ih =>
   intro cs
   constructor
   ·rintro ⟨a,b,e,h1,h2⟩;exact ⟨a,b,e,isS_lit.1 h1,ih.1 h2⟩
   ·rintro ⟨a,b,e,h1,h2⟩;exact ⟨a,b,e,isS_lit.2 h1,ih.2 h2⟩
 | same _ ih =>
   intro cs
   constructor
   ·rintro ⟨a,b,e,h1,h2⟩;exact ⟨a,b,e,h1,ih.1 h2⟩
   ·rintro ⟨a,b,e,h1,h2⟩;exact ⟨a,b,e,h1,ih.2 h2⟩
theorem ag_lit {β:List Nat} {v:Value} {w:World} {l m:List (Seg Kn)} (h:LitL l m):(AV.fv (.ag l)).holds β v w↔(AV.fv (.ag m)).holds β v w:=by
 constructor
 ·rintro ⟨cs,e,k⟩;exact ⟨cs,e,h.to.1 k⟩
 ·rintro ⟨cs,e,k⟩;exact ⟨cs,e,h.to.2 k⟩
theorem sc_lit {β:List Nat} {v:Value} {w:World} {b:ByteArray}:(AV.fv (.sc (isS b)):AV Kn).holds β v w↔(AV.fv (.sc (.lit (.string b))):AV Kn).holds β v w:=isS_lit (β:=β) (cs := [v])
theorem FitsW.args {P:Program} {I:World→Prop} {f:FuncId} {l l' : List (AV Kn)} {x:AV Kn} (h:FitsW P I f l x) (hl:∀ β vs w,holdsA β l' vs w→holdsA β l vs w):FitsW P I f l' x:=fun β w vs hI hv=>h β w vs hI (hl β vs w hv)
theorem FitsW.res {P:Program} {I:World→Prop} {f:FuncId} {l:List (AV Kn)} {x y:AV Kn} (h:FitsW P I f l x) (hx:∀ β v w,x.holds β v w→y.holds β v w):FitsW P I f l y:=fun β w vs hI hv =>
 (h β w vs hI hv).mono fun e w' ⟨v,e1,e2,e3⟩=>⟨v,e1,e2,hx β v w' e3⟩
theorem dec_two {n:Nat} (h1:10≤n) (h2:n<100):Lib.decDigits n = [UInt8.ofNat (48+n/10),UInt8.ofNat (48+n%10)]:=by
 rw [dec_large (by omega),dec_small (by omega)]
 rfl
theorem decB_small {n:Nat} (h:n<10):decB n=⟨#[UInt8.ofNat (48+n)]⟩:=by unfold decB;rw [dec_small h]
theorem decB_two {n:Nat} (h1:10≤n) (h2:n<100):decB n=⟨#[UInt8.ofNat (48+n/10),UInt8.ofNat (48+n%10)]⟩:=by unfold decB;rw [dec_two h1 h2]
theorem write_int {z:Int} {b:ByteArray} (hz:¬ z<0) (h:decB z.natAbs=b):writeB (z:Rat)=b:=by
 rw [← textB_write,textB,if_neg hz,h]
theorem write_neg_int {z:Int} {b:ByteArray} (hz:z<0) (h:decB z.natAbs=b):writeB (z:Rat)=⟨#[45]⟩++b:=by
 rw [← textB_write,textB,if_pos hz,h]
theorem w0:writeB ((0:Int):Rat)=⟨#[48]⟩:=write_int (by omega) (decB_small (n:=0) (by omega))
theorem w1:writeB ((1:Int):Rat)=⟨#[49]⟩:=write_int (by omega) (decB_small (n:=1) (by omega))
theorem slash_write (q:Rat):slashB (writeB q)=(textB q.num).size:=by
 by_cases h:q.den=1
 ·rw [write_one h,slash_one]
 ·rw [write_parts h,slash_two]
theorem num_cut (q:Rat):(writeB q).extract 0 (slashB (writeB q))=textB q.num:=by
 rw [slash_write]
 by_cases h:q.den=1
 ·rw [write_one h,ext_all]
 ·rw [write_parts h,ext_lo]
theorem den_cut {q:Rat} (h:q.den≠1):(writeB q).extract (slashB (writeB q)+1) (writeB q).size=decB q.den:=by
 rw [slash_write,write_parts h]
 exact ext_hi _ _
theorem write_len (q:Rat):(writeB q).size=(textB q.num).size+if q.den=1 then 0 else 1+(decB q.den).size:=by
 by_cases h:q.den=1
 ·rw [write_one h,if_pos h];rfl
 ·rw [write_parts h,if_neg h,ByteArray.size_append,ByteArray.size_append,size47]
theorem numF {q:Rat} (hs:(writeB q).size≤1000000000):Fits Tryz.prog 92 [rS (writeB q)] (rS (textB q.num)):=by
 have hc:=num_cut q
 generalize writeB q=s at *
 refine rgo Tryz.func92 (by kernel_rfl) fun w00=>?_
 refine rcall 110 [rS s] (slashF (by omega)) (by kernel_rfl) Tryz.call110 ?_
 refine rshi 3 5 22 Tryz.underlying22 s (slashB s) (textB q.num) (slashB_le _) hc ?_
 exact rret Tryz.func92 (by kernel_rfl)
theorem denF1 {q:Rat} (hs:(writeB q).size≤1000000000) (h:q.den=1):Fits Tryz.prog 93 [rS (writeB q)] (rS (decB q.den)):=by
 have hl:=write_len q
 have hk:=slash_write q
 rw [if_pos h] at hl
 have e:decB q.den=⟨#[49]⟩:=by rw [h,dec1]
 rw [e]
 generalize writeB q=s at *
 have key:Fits Tryz.prog 93 [rS s] (.fv (.sc (.lit (.string ⟨#[49]⟩)))):=by
  refine rgo Tryz.func93 (by kernel_rfl) fun w00=>?_
  refine rcall 110 [rS s] (slashF (by omega)) (by kernel_rfl) Tryz.call110 ?_
  refine rlen 7 22 Tryz.underlying22 s ?_
  refine rop2 (.binOp .eql 3 (.tmp 6) (.tmp 8) 3) (.tmp 6) (.tmp 8) (rI (slashB s:Nat)) (rI (s.size:Nat)) (rl true) (by kernel_rfl) (by simp [Op.operands]) (by simp [Op.operands]) (fun ρ o β w ho hx hy=>⟨.bool true,ieq_run ho (r_is hx) (r_is hy) (by simp;omega),rlit rfl⟩) ?_
  exact rret Tryz.func93 (by kernel_rfl)
 exact rres key fun β v w h=>h.1
theorem denF2 {q:Rat} (hs:(writeB q).size≤1000000000) (h:q.den≠1):Fits Tryz.prog 93 [rS (writeB q)] (rS (decB q.den)):=by
 have hl:=write_len q
 have hk:=slash_write q
 rw [if_neg h] at hl
 have hc:=den_cut h
 generalize decB q.den=d at *
 generalize writeB q=s at *
 refine rgo Tryz.func93 (by kernel_rfl) fun w00=>?_
 refine rcall 110 [rS s] (slashF (by omega)) (by kernel_rfl) Tryz.call110 ?_
 refine rlen 7 22 Tryz.underlying22 s ?_
 refine rop2 (.binOp .eql 3 (.tmp 6) (.tmp 8) 3) (.tmp 6) (.tmp 8) (rI (slashB s:Nat)) (rI (s.size:Nat)) (rl false) (by kernel_rfl) (by simp [Op.operands]) (by simp [Op.operands]) (fun ρ o β w ho hx hy=>⟨.bool false,ieq_run ho (r_is hx) (r_is hy) (by simp;omega),rlit rfl⟩) ?_
 refine radd 11 (slashB s) (by omega) ?_
 refine rslo 10 12 22 Tryz.underlying22 s (slashB s+1) d (by omega) hc ?_
 exact rret Tryz.func93 (by kernel_rfl)
theorem denOfF {q:Rat} (hs:(writeB q).size≤1000000000):Fits Tryz.prog 93 [rS (writeB q)] (rS (decB q.den)):=by
 by_cases h:q.den=1
 ·exact denF1 hs h
 ·exact denF2 hs h
theorem dec0_ne {n:Nat} (h:n≠0):decB n≠zeroT:=fun e=>h (decB_inj (e.trans dec0.symm))
theorem body_ne_zero {q:Rat} (h:q.num≠0):bodyB q≠zeroT:=by
 by_cases hd:q.den=1
 ·rw [body_one hd,textB_nat]
  exact dec0_ne (by omega)
 ·intro e
  have hl:=body_len q
  rw [if_neg hd,e] at hl
  have:zeroT.size=1:=rfl
  have:=decB_pos q.num.natAbs
  omega
theorem write_ne_zero {q:Rat} (h:q.num≠0):writeB q≠zeroT:=by
 by_cases hn:q.num<0
 ·obtain ⟨f1,⟨h0,hc⟩,f3,f4,f5⟩:=neg_facts hn
  intro e
  have h1:=(strip_write q).1
  rw [e,decide_eq_true hn] at h1
  exact absurd h1 (by decide)
 ·rw [write_pos hn]
  exact body_ne_zero h
theorem signF0 {q:Rat} (h:q.num=0):Fits Tryz.prog 48 [rS (writeB q)] (.fv (.sc (.lit (.int .i64 0)))):=by
 have e:((writeB q).toList==(⟨#[48]⟩:ByteArray).toList)=true:=by
  have hd:q.den=1:=by have:=q.reduced;rw [h] at this;simpa using this
  rw [write_one hd,h]
  have:textB 0=zeroT:=by unfold textB;rw [if_neg (by omega)];exact dec0
  rw [this]
  exact beq_self_eq_true zeroT.toList
 generalize writeB q=s at *
 refine rgo Tryz.func48 (by kernel_rfl) fun w00=>?_
 refine rseq 3 22 s ⟨#[48]⟩ true e ?_
 exact rret Tryz.func48 (by kernel_rfl)
theorem signFn {q:Rat} (h:q.num<0):Fits Tryz.prog 48 [rS (writeB q)] (.fv (.sc (.lit (.int .i64 (-1))))):=by
 have e:=ne_list (write_ne_zero (q:=q) (by omega))
 obtain ⟨f1,hc,f3,f4,f5⟩:=neg_facts h
 have h0:decide ((0:Int)<((writeB q).size:Nat))=true:=by rw [decide_eq_true_iff];omega
 generalize writeB q=s at *
 refine rgo Tryz.func48 (by kernel_rfl) fun w00=>?_
 refine rseq 3 22 s ⟨#[48]⟩ false e ?_
 refine rlen 5 22 Tryz.underlying22 s ?_
 refine rgt 6 0 (s.size:Nat) true h0 ?_
 refine ridnR 9 s hc ?_
 exact rret Tryz.func48 (by kernel_rfl)
theorem signFp {q:Rat} (h:0<q.num):Fits Tryz.prog 48 [rS (writeB q)] (.fv (.sc (.lit (.int .i64 1)))):=by
 have e:=ne_list (write_ne_zero (q:=q) (by omega))
 obtain ⟨c,hc,hc45⟩:=body_head q
 rw [← write_pos (by omega)] at hc
 have h0:decide ((0:Int)<((writeB q).size:Nat))=true:=by rw [decide_eq_true_iff];have:=hc.1;omega
 generalize writeB q=s at *
 refine rgo Tryz.func48 (by kernel_rfl) fun w00=>?_
 refine rseq 3 22 s ⟨#[48]⟩ false e ?_
 refine rlen 5 22 Tryz.underlying22 s ?_
 refine rgt 6 0 (s.size:Nat) true h0 ?_
 refine ridpR 9 s c hc ?_
 refine rueq 10 c hc45 ?_
 exact rret Tryz.func48 (by kernel_rfl)
theorem absFn {q:Rat} (h:q.num<0) (hs:(writeB q).size≤1000000000):Fits Tryz.prog 91 [rS (writeB q)] (rS (bodyB q)):=by
 have hg:=signFn h
 obtain ⟨f1,hc,f3,f4,f5⟩:=neg_facts h
 generalize bodyB q=u at *
 generalize writeB q=s at *
 refine rgo Tryz.func91 (by kernel_rfl) fun w00=>?_
 refine rcall 48 [rS s] hg (by kernel_rfl) Tryz.call48 ?_
 refine rsl1 6 22 Tryz.underlying22 s u f1 f3 ?_
 exact rret Tryz.func91 (by kernel_rfl)
theorem absFp {q:Rat} (h:¬ q.num<0):Fits Tryz.prog 91 [rS (writeB q)] (rS (bodyB q)):=by
 rw [← write_pos h]
 by_cases h0:q.num=0
 ·have hg:=signF0 h0
  generalize writeB q=s at *
  refine rgo Tryz.func91 (by kernel_rfl) fun w00=>?_
  refine rcall 48 [rS s] hg (by kernel_rfl) Tryz.call48 ?_
  exact rret Tryz.func91 (by kernel_rfl)
 ·have hg:=signFp (q:=q) (by omega)
  generalize writeB q=s at *
  refine rgo Tryz.func91 (by kernel_rfl) fun w00=>?_
  refine rcall 48 [rS s] hg (by kernel_rfl) Tryz.call48 ?_
  exact rret Tryz.func91 (by kernel_rfl)
theorem absOfF {q:Rat} (hs:(writeB q).size≤1000000000):Fits Tryz.prog 91 [rS (writeB q)] (rS (bodyB q)):=by
 by_cases h:q.num<0
 ·exact absFn h hs
 ·exact absFp h
theorem absTF {z:Int} (hs:(textB z).size≤1000000000):Fits Tryz.prog 91 [rS (textB z)] (rS (decB z.natAbs)):=by
 have h:=absOfF (q:=(z:Rat)) (by rw [← textB_write];exact hs)
 have e:bodyB (z:Rat)=decB z.natAbs:=by rw [body_one rfl,textB_nat];rfl
 rw [← textB_write,e] at h
 exact h
def Fw (k:Nat) (q:Rat):Prop:=(decB q.num.natAbs).size≤k∧(decB q.den).size≤k
theorem text_len (z:Int):(textB z).size≤(decB z.natAbs).size+1:=by
 unfold textB
 split
 ·rw [ByteArray.size_append,size45];omega
 ·omega
theorem fw_len {k:Nat} {q:Rat} (h:Fw k q):(writeB q).size≤2*k+2:=by
 have h1:=write_len q
 have h2:=text_len q.num
 have h3:=h.1
 have h4:=h.2
 split at h1 <;> omega
theorem few3_long {s:ByteArray} (h:decide (((s.size:Nat):Int)≤8)=false):Fits Tryz.prog 28 [rS s,.fv (.sc (.lit (.int .i64 3)))] (rl false):=by
 refine rgo Tryz.func28 (by kernel_rfl) fun w00=>?_
 refine rlen 5 22 Tryz.underlying22 s ?_
 refine rleq 6 9 (s.size:Nat) 8 false h ?_
 exact rret Tryz.func28 (by kernel_rfl)
theorem few3_bad {s:ByteArray} {z:Int} (h:decide (((s.size:Nat):Int)≤8)=true) (hk:Fits Tryz.prog 90 [rS s] (rI z)) (hz:z≠0):Fits Tryz.prog 28 [rS s,.fv (.sc (.lit (.int .i64 3)))] (rl false):=by
 refine rgo Tryz.func28 (by kernel_rfl) fun w00=>?_
 refine rlen 5 22 Tryz.underlying22 s ?_
 refine rleq 6 9 (s.size:Nat) 8 true h ?_
 refine rcall 90 [rS s] hk (by kernel_rfl) Tryz.call90 ?_
 refine rop2 (.binOp .eql 3 (.tmp 13) (.const (.int .i64 0)) 3) (.tmp 13) (.const (.int .i64 0)) (rI z) (.fv (.sc (.lit (.int .i64 0)))) (rl false) (by kernel_rfl) (by simp [Op.operands]) (by simp [Op.operands]) (fun ρ o β w ho hx hy=>⟨.bool false,ieq_run ho (r_is hx) (r_lit hy) (by simpa using hz),rlit rfl⟩) ?_
 exact rret Tryz.func28 (by kernel_rfl)
theorem few3_num {s u a:ByteArray} {z:Int} (h:decide (((s.size:Nat):Int)≤8)=true) (hk:Fits Tryz.prog 90 [rS s] (rI z)) (hz:z=0) (h1:Fits Tryz.prog 92 [rS s] (rS u)) (h2:Fits Tryz.prog 91 [rS u] (rS a)) (h3:decide (((a.size:Nat):Int)≤3)=false):Fits Tryz.prog 28 [rS s,.fv (.sc (.lit (.int .i64 3)))] (rl false):=by
 refine rgo Tryz.func28 (by kernel_rfl) fun w00=>?_
 refine rlen 5 22 Tryz.underlying22 s ?_
 refine rleq 6 9 (s.size:Nat) 8 true h ?_
 refine rcall 90 [rS s] hk (by kernel_rfl) Tryz.call90 ?_
 refine rop2 (.binOp .eql 3 (.tmp 13) (.const (.int .i64 0)) 3) (.tmp 13) (.const (.int .i64 0)) (rI z) (.fv (.sc (.lit (.int .i64 0)))) (rl true) (by kernel_rfl) (by simp [Op.operands]) (by simp [Op.operands]) (fun ρ o β w ho hx hy=>⟨.bool true,ieq_run ho (r_is hx) (r_lit hy) (by rw [hz];rfl),rlit rfl⟩) ?_
 refine rcall 92 [rS s] h1 (by kernel_rfl) Tryz.call92 ?_
 refine rcall 91 [rS u] h2 (by kernel_rfl) Tryz.call91 ?_
 refine rlen 19 22 Tryz.underlying22 a ?_
 refine rleq 20 21 (a.size:Nat) 3 false h3 ?_
 exact rret Tryz.func28 (by kernel_rfl)
theorem few3_denf {s u a d:ByteArray} {z:Int} (h:decide (((s.size:Nat):Int)≤8)=true) (hk:Fits Tryz.prog 90 [rS s] (rI z)) (hz:z=0) (h1:Fits Tryz.prog 92 [rS s] (rS u)) (h2:Fits Tryz.prog 91 [rS u] (rS a)) (h3:decide (((a.size:Nat):Int)≤3)=true) (h4:Fits Tryz.prog 93 [rS s] (rS d)) (h5:decide (((d.size:Nat):Int)≤3)=false):Fits Tryz.prog 28 [rS s,.fv (.sc (.lit (.int .i64 3)))] (rl false):=by
 refine rgo Tryz.func28 (by kernel_rfl) fun w00=>?_
 refine rlen 5 22 Tryz.underlying22 s ?_
 refine rleq 6 9 (s.size:Nat) 8 true h ?_
 refine rcall 90 [rS s] hk (by kernel_rfl) Tryz.call90 ?_
 refine rop2 (.binOp .eql 3 (.tmp 13) (.const (.int .i64 0)) 3) (.tmp 13) (.const (.int .i64 0)) (rI z) (.fv (.sc (.lit (.int .i64 0)))) (rl true) (by kernel_rfl) (by simp [Op.operands]) (by simp [Op.operands]) (fun ρ o β w ho hx hy=>⟨.bool true,ieq_run ho (r_is hx) (r_lit hy) (by rw [hz];rfl),rlit rfl⟩) ?_
 refine rcall 92 [rS s] h1 (by kernel_rfl) Tryz.call92 ?_
 refine rcall 91 [rS u] h2 (by kernel_rfl) Tryz.call91 ?_
 refine rlen 19 22 Tryz.underlying22 a ?_
 refine rleq 20 21 (a.size:Nat) 3 true h3 ?_
 refine rcall 93 [rS s] h4 (by kernel_rfl) Tryz.call93 ?_
 refine rlen 26 22 Tryz.underlying22 d ?_
 refine rleq 27 28 (d.size:Nat) 3 false h5 ?_
 exact rret Tryz.func28 (by kernel_rfl)
theorem few3_dent {s u a d:ByteArray} {z:Int} (h:decide (((s.size:Nat):Int)≤8)=true) (hk:Fits Tryz.prog 90 [rS s] (rI z)) (hz:z=0) (h1:Fits Tryz.prog 92 [rS s] (rS u)) (h2:Fits Tryz.prog 91 [rS u] (rS a)) (h3:decide (((a.size:Nat):Int)≤3)=true) (h4:Fits Tryz.prog 93 [rS s] (rS d)) (h5:decide (((d.size:Nat):Int)≤3)=true):Fits Tryz.prog 28 [rS s,.fv (.sc (.lit (.int .i64 3)))] (rl true):=by
 refine rgo Tryz.func28 (by kernel_rfl) fun w00=>?_
 refine rlen 5 22 Tryz.underlying22 s ?_
 refine rleq 6 9 (s.size:Nat) 8 true h ?_
 refine rcall 90 [rS s] hk (by kernel_rfl) Tryz.call90 ?_
 refine rop2 (.binOp .eql 3 (.tmp 13) (.const (.int .i64 0)) 3) (.tmp 13) (.const (.int .i64 0)) (rI z) (.fv (.sc (.lit (.int .i64 0)))) (rl true) (by kernel_rfl) (by simp [Op.operands]) (by simp [Op.operands]) (fun ρ o β w ho hx hy=>⟨.bool true,ieq_run ho (r_is hx) (r_lit hy) (by rw [hz];rfl),rlit rfl⟩) ?_
 refine rcall 92 [rS s] h1 (by kernel_rfl) Tryz.call92 ?_
 refine rcall 91 [rS u] h2 (by kernel_rfl) Tryz.call91 ?_
 refine rlen 19 22 Tryz.underlying22 a ?_
 refine rleq 20 21 (a.size:Nat) 3 true h3 ?_
 refine rcall 93 [rS s] h4 (by kernel_rfl) Tryz.call93 ?_
 refine rlen 26 22 Tryz.underlying22 d ?_
 refine rleq 27 28 (d.size:Nat) 3 true h5 ?_
 exact rret Tryz.func28 (by kernel_rfl)
theorem few3Yes {q:Rat} (h:Fw 3 q):Fits Tryz.prog 28 [rS (writeB q),.fv (.sc (.lit (.int .i64 3)))] (rl true):=by
 have hl:=fw_len h
 have ht:=text_len q.num
 have h1:=h.1
 have h2:=h.2
 exact few3_dent (by rw [decide_eq_true_iff];omega) (checkAnyF (by omega)) (check_write (by omega) (by omega)) (numF (by omega)) (absTF (by omega)) (by rw [decide_eq_true_iff];omega) (denOfF (by omega)) (by rw [decide_eq_true_iff];omega)
theorem few3No {s:ByteArray} (h:¬ ∃ q,s=writeB q∧Fw 3 q):Fits Tryz.prog 28 [rS s,.fv (.sc (.lit (.int .i64 3)))] (rl false):=by
 by_cases hl:s.size≤8
 ·have hl' : decide (((s.size:Nat):Int)≤8)=true:=by rw [decide_eq_true_iff];omega
  have hk:=checkAnyF (s:=s) (by omega)
  by_cases hz:checkB s=0
  ·obtain ⟨q,rfl,_,_⟩:=check_zero hz
   have ht:=text_len q.num
   have hw:=write_len q
   by_cases h3:(decB q.num.natAbs).size≤3
   ·exact few3_denf hl' hk hz (numF (by omega)) (absTF (by split at hw <;> omega)) (by rw [decide_eq_true_iff];omega) (denOfF (by omega)) (by rw [decide_eq_false_iff_not];intro h4;exact h ⟨q,rfl,h3,by omega⟩)
   ·exact few3_num hl' hk hz (numF (by omega)) (absTF (by split at hw <;> omega)) (by rw [decide_eq_false_iff_not];omega)
  ·exact few3_bad hl' hk hz
 ·exact few3_long (by rw [decide_eq_false_iff_not];omega)
theorem kn_I {f:FuncId} {s:ByteArray} {z:Int} (h:Fits Tryz.prog f [rS s] (rI z)):Fits Tryz.prog f [tx s] (.fv (.sc (isI z))):=by
 intro β w vs hv
 obtain ⟨v,rfl,h1⟩:=args1 hv
 rw [hold_is h1]
 exact (h β w [.string s] ⟨_,_,rfl,is_r,rfl⟩).mono fun e w' ⟨v,e1,e2,e3⟩=>⟨v,e1,e2,by rw [r_is e3];exact is_hold⟩
theorem kn_S {f:FuncId} {s t u:ByteArray} (h:Fits Tryz.prog f [rS s,rS t] (rS u)):Fits Tryz.prog f [tx s,tx t] (tx u):=by
 intro β w vs hv
 obtain ⟨v,v2,rfl,h1,h2⟩:=args2 hv
 rw [hold_is h1,hold_is h2]
 exact (h β w [.string s,.string t] ⟨_,_,rfl,is_r,_,_,rfl,is_r,rfl⟩).mono fun e w' ⟨v,e1,e2,e3⟩=>⟨v,e1,e2,by rw [r_is e3];exact is_hold⟩
theorem kn_F {f:FuncId} {s:ByteArray} {n:Int} {b:Bool} (h:Fits Tryz.prog f [rS s,.fv (.sc (.lit (.int .i64 n)))] (rl b)):Fits Tryz.prog f [tx s,it n] (bl b):=by
 intro β w vs hv
 obtain ⟨v,v2,rfl,h1,h2⟩:=args2 hv
 have e2:[v2] = [.int .i64 n]:=h2.1
 injection e2 with e2
 rw [hold_is h1,e2]
 exact (h β w [.string s,.int .i64 n] ⟨_,_,rfl,is_r,_,_,rfl,rlit rfl,rfl⟩).mono fun e w' ⟨v,e1,e2,e3⟩=>⟨v,e1,e2,by rw [r_lit e3];exact lit_hold rfl⟩
abbrev t3 (a b c:ByteArray):AV Kn := .fv (.ag [isS a,isS b,isS c])
theorem chkF {q:Rat} (h1:(decB q.num.natAbs).size≤600) (h2:(decB q.den).size≤600):Fits Tryz.prog 90 [tx (writeB q)] (it 0):=by
 have hw:=write_len q
 have ht:=text_len q.num
 have h:=kn_I (checkAnyF (s:=writeB q) (by split at hw <;> omega))
 rw [check_write h1 h2] at h
 intro β w vs hv
 exact (h β w vs hv).mono fun e w' ⟨v,e1,e2,e3⟩=>⟨v,e1,e2,by rw [hold_is e3];exact lit_hold rfl⟩
section
variable {a b c:ByteArray} {n:Int}
theorem fewVecT (h1:Fits Tryz.prog 28 [tx a,it n] (bl true)) (h2:Fits Tryz.prog 28 [tx b,it n] (bl true)) (h3:Fits Tryz.prog 28 [tx c,it n] (bl true)):Fits Tryz.prog 6 [t3 a b c,it n] (bl true):=by
 refine kgo Tryz.func6 (by kernel_rfl) fun w00=>?_
 refine kcall 28 [tx a,it n] (h1) (by kernel_rfl) Tryz.call28 ?_
 refine kcall 28 [tx b,it n] (h2) (by kernel_rfl) Tryz.call28 ?_
 refine kcall 28 [tx c,it n] (h3) (by kernel_rfl) Tryz.call28 ?_
 exact kret Tryz.func6 (by kernel_rfl)
theorem fewVecF1 (h1:Fits Tryz.prog 28 [tx a,it n] (bl false)):Fits Tryz.prog 6 [t3 a b c,it n] (bl false):=by
 refine kgo Tryz.func6 (by kernel_rfl) fun w00=>?_
 refine kcall 28 [tx a,it n] (h1) (by kernel_rfl) Tryz.call28 ?_
 exact kret Tryz.func6 (by kernel_rfl)
theorem fewVecF2 (h1:Fits Tryz.prog 28 [tx a,it n] (bl true)) (h2:Fits Tryz.prog 28 [tx b,it n] (bl false)):Fits Tryz.prog 6 [t3 a b c,it n] (bl false):=by
 refine kgo Tryz.func6 (by kernel_rfl) fun w00=>?_
 refine kcall 28 [tx a,it n] (h1) (by kernel_rfl) Tryz.call28 ?_
 refine kcall 28 [tx b,it n] (h2) (by kernel_rfl) Tryz.call28 ?_
 exact kret Tryz.func6 (by kernel_rfl)
theorem fewVecF3 (h1:Fits Tryz.prog 28 [tx a,it n] (bl true)) (h2:Fits Tryz.prog 28 [tx b,it n] (bl true)) (h3:Fits Tryz.prog 28 [tx c,it n] (bl false)):Fits Tryz.prog 6 [t3 a b c,it n] (bl false):=by
 refine kgo Tryz.func6 (by kernel_rfl) fun w00=>?_
 refine kcall 28 [tx a,it n] (h1) (by kernel_rfl) Tryz.call28 ?_
 refine kcall 28 [tx b,it n] (h2) (by kernel_rfl) Tryz.call28 ?_
 refine kcall 28 [tx c,it n] (h3) (by kernel_rfl) Tryz.call28 ?_
 exact kret Tryz.func6 (by kernel_rfl)
theorem checkRow3 {T:TypeId} (h1:Fits Tryz.prog 90 [tx a] (it 0)) (h2:Fits Tryz.prog 90 [tx b] (it 0)) (h3:Fits Tryz.prog 90 [tx c] (it 0)):Fits Tryz.prog 59 [.fv (.nsl 3 T [isS a,isS b,isS c])] (it 0):=by
 refine kgoS Tryz.func59 (by kernel_rfl) fun w00=>?_
 refine kcall 90 [tx a] (h1) (by kernel_rfl) Tryz.call90 ?_
 refine kcall 90 [tx b] (h2) (by kernel_rfl) Tryz.call90 ?_
 refine kcall 90 [tx c] (h3) (by kernel_rfl) Tryz.call90 ?_
 exact kret Tryz.func59 (by kernel_rfl)
theorem checkVec3 (h1:Fits Tryz.prog 90 [tx a] (it 0)) (h2:Fits Tryz.prog 90 [tx b] (it 0)) (h3:Fits Tryz.prog 90 [tx c] (it 0)):Fits Tryz.prog 16 [t3 a b c] (it 0):=by
 refine kgo Tryz.func16 (by kernel_rfl) fun w00=>?_
 refine kcall 59 [.fv (.nsl 3 22 [isS a,isS b,isS c])] (checkRow3 h1 h2 h3) (by kernel_rfl) Tryz.call59 ?_
 exact kret Tryz.func16 (by kernel_rfl)
end
theorem originF:Fits Tryz.prog 102 ([]:List (AV Kn)) (.fv (.ag [.lit (.string ⟨#[48]⟩),.lit (.string ⟨#[48]⟩),.lit (.string ⟨#[48]⟩)])):=by
 refine kgo Tryz.func102 (by kernel_rfl) fun w00=>?_
 exact kret Tryz.func102 (by kernel_rfl)
theorem body_negate (q:Rat):bodyB (-q)=bodyB q:=by
 unfold bodyB
 rw [Rat.neg_den,Rat.neg_num,Int.natAbs_neg]
theorem zs_len {k:Nat} {q:Rat} (h:Zs k q):(writeB q).size≤2*k+4:=by
 have h1:=decB_size_le h.1
 have h2:=decB_size_le h.2
 have:=write_len q
 have:=text_len q.num
 split at * <;> omega
theorem negR {q:Rat} (hs:(writeB q).size≤1000000000):Fits Tryz.prog 12 [rS (writeB q)] (rS (writeB (-q))):=by
 by_cases h:q.num<0
 ·rw [write_pos (q := -q) (by rw [Rat.neg_num];omega),body_negate]
  have hg:=signFn h
  obtain ⟨f1,hc,f3,f4,f5⟩:=neg_facts h
  generalize bodyB q=u at *
  generalize writeB q=s at *
  refine rgo Tryz.func12 (by kernel_rfl) fun w00=>?_
  refine rcall 48 [rS s] hg (by kernel_rfl) Tryz.call48 ?_
  refine rsl1 6 22 Tryz.underlying22 s u f1 f3 ?_
  exact rret Tryz.func12 (by kernel_rfl)
 ·by_cases h0:q.num=0
  ·have e:-q=q:=by
    have:q=0:=Rat.num_eq_zero.1 h0
    rw [this]
    rfl
   rw [e]
   have hg:=signF0 h0
   generalize writeB q=s at *
   refine rgo Tryz.func12 (by kernel_rfl) fun w00=>?_
   refine rcall 48 [rS s] hg (by kernel_rfl) Tryz.call48 ?_
   refine rcall 48 [rS s] hg (by kernel_rfl) Tryz.call48 ?_
   exact rret Tryz.func12 (by kernel_rfl)
  ·rw [write_neg (q := -q) (by rw [Rat.neg_num];omega),body_negate,← write_pos h]
   have hg:=signFp (q:=q) (by omega)
   have hcat:(⟨#[45]⟩:ByteArray).size+(writeB q).size≤9223372036854775807:=by rw [size45];omega
   generalize writeB q=s at *
   refine rgo Tryz.func12 (by kernel_rfl) fun w00=>?_
   refine rcall 48 [rS s] hg (by kernel_rfl) Tryz.call48 ?_
   refine rcall 48 [rS s] hg (by kernel_rfl) Tryz.call48 ?_
   refine rop2 (.binOp .add 22 (.const (.string ⟨#[45]⟩)) (.tmp 12) 22) (.const (.string ⟨#[45]⟩)) (.tmp 12) (.fv (.sc (.lit (.string ⟨#[45]⟩)))) (rS s) (rS (⟨#[45]⟩++s)) (by kernel_rfl) (by simp [Op.operands]) (by simp [Op.operands]) (fun ρ o β w ho hx hy=>⟨_,cat_run ho (r_lit hx) (r_is hy) hcat,is_r⟩) ?_
   exact rret Tryz.func12 (by kernel_rfl)
theorem zs_neg {k:Nat} {q:Rat} (h:Zs k q):Zs k (-q):=by
 unfold Zs
 rw [Rat.neg_den,Rat.neg_num,Int.natAbs_neg]
 exact h
theorem subR {p q:Rat} (hp:Zs 10000 p) (hq:Zs 10000 q):Fits Tryz.prog 211 [rS (writeB p),rS (writeB q)] (rS (writeB (p-q))):=by
 have h1:=negR (q:=q) (by have:=zs_len hq;omega)
 have h2:=refAddF hp (zs_neg hq)
 rw [← Rat.sub_eq_add_neg] at h2
 generalize writeB (p-q)=x at *
 generalize writeB (-q)=y at *
 generalize writeB p=a at *
 generalize writeB q=b at *
 refine rgo Tryz.func211 (by kernel_rfl) fun w00=>?_
 refine rcall 12 [rS b] h1 (by kernel_rfl) Tryz.call12 ?_
 refine rcall 60 [rS a,rS y] h2 (by kernel_rfl) Tryz.call60 ?_
 exact rret Tryz.func211 (by kernel_rfl)
section
variable {a b c d e f:ByteArray} {x y z u v:ByteArray}
theorem dotR (h1:Fits Tryz.prog 13 [tx a,tx d] (tx x)) (h2:Fits Tryz.prog 13 [tx b,tx e] (tx y)) (h3:Fits Tryz.prog 60 [tx x,tx y] (tx u)) (h4:Fits Tryz.prog 13 [tx c,tx f] (tx z)) (h5:Fits Tryz.prog 60 [tx u,tx z] (tx v)):Fits Tryz.prog 17 [t3 a b c,t3 d e f] (tx v):=by
 refine kgo Tryz.func17 (by kernel_rfl) fun w00=>?_
 refine kcall 13 [tx a,tx d] (h1) (by kernel_rfl) Tryz.call13 ?_
 refine kcall 13 [tx b,tx e] (h2) (by kernel_rfl) Tryz.call13 ?_
 refine kcall 60 [tx x,tx y] (h3) (by kernel_rfl) Tryz.call60 ?_
 refine kcall 13 [tx c,tx f] (h4) (by kernel_rfl) Tryz.call13 ?_
 refine kcall 60 [tx u,tx z] (h5) (by kernel_rfl) Tryz.call60 ?_
 exact kret Tryz.func17 (by kernel_rfl)
theorem squareR (h:Fits Tryz.prog 17 [t3 a b c,t3 a b c] (tx v)):Fits Tryz.prog 42 [t3 a b c] (tx v):=by
 refine kgo Tryz.func42 (by kernel_rfl) fun w00=>?_
 refine kcall 17 [t3 a b c,t3 a b c] (h) (by kernel_rfl) Tryz.call17 ?_
 exact kret Tryz.func42 (by kernel_rfl)
end
end Go.Proofs.YtbhcckhbbclemaaGreatDoor.Ab
namespace Go.Proofs.YtbhcckhbbclemaaGreatDoor
open Go.RowKit Pl
end Go.Proofs.YtbhcckhbbclemaaGreatDoor
namespace Go.Proofs.YtbhcckhbbclemaaGreatDoor.Ab
open Go.RowKit Go.Proofs.YtbhcckhbbclemaaGreatDoor Pl
end Go.Proofs.YtbhcckhbbclemaaGreatDoor.Ab
namespace Go.Proofs.YtbhcckhbbclemaaGreatDoor.Ab
open Go.RowKit Go.Proofs.YtbhcckhbbclemaaGreatDoor
theorem equal3 {P:Program} {T e:TypeId} {x0 x1 x2 y0 y1 y2:Value} {r0 r1 r2:Bool} (d:Nat) (hT:P.underlying T=some (.array 3 e)) (he:P.cellsOf e=1) (ha:∀ w,(isAgg e).run P w = .ok false w) (hs:∀ w,(sizeOf e).run P w = .ok 1 w)
 (h0:∀ w,(Op.equalIn d e x0 y0).run P w = .ok r0 w) (h1:∀ w,(Op.equalIn d e x1 y1).run P w = .ok r1 w) (h2:∀ w,(Op.equalIn d e x2 y2).run P w = .ok r2 w) (w:World) :
 (Op.equalIn (d+1) T (.agg #[x0,x1,x2]) (.agg #[y0,y1,y2])).run P w = .ok (r0&&r1&&r2) w:=by
 rw [Op.equalIn]
 simp only [Sem.run_bind,run_underlying hT,Result.andThen_ok,hs]
 simp only [Std.Legacy.Range.forIn_eq_forIn_range',Std.Legacy.Range.size,Nat.sub_zero,Nat.add_sub_cancel,Nat.div_one,List.range'_succ,List.range'_zero,List.forIn_cons,List.forIn_nil]
 simp [go_sem,ha,hs,h0,h1,h2]
 cases r0 <;> cases r1 <;> cases r2 <;> simp
theorem equal4 {P:Program} {T e:TypeId} {x0 x1 x2 x3 y0 y1 y2 y3:Value} {r0 r1 r2 r3:Bool} (d:Nat) (hT:P.underlying T=some (.array 4 e)) (he:P.cellsOf e=1) (ha:∀ w,(isAgg e).run P w = .ok false w) (hs:∀ w,(sizeOf e).run P w = .ok 1 w)
 (h0:∀ w,(Op.equalIn d e x0 y0).run P w = .ok r0 w) (h1:∀ w,(Op.equalIn d e x1 y1).run P w = .ok r1 w) (h2:∀ w,(Op.equalIn d e x2 y2).run P w = .ok r2 w) (h3:∀ w,(Op.equalIn d e x3 y3).run P w = .ok r3 w) (w:World) :
 (Op.equalIn (d+1) T (.agg #[x0,x1,x2,x3]) (.agg #[y0,y1,y2,y3])).run P w = .ok (r0&&r1&&r2&&r3) w:=by
 rw [Op.equalIn]
 simp only [Sem.run_bind,run_underlying hT,Result.andThen_ok,hs]
 simp only [Std.Legacy.Range.forIn_eq_forIn_range',Std.Legacy.Range.size,Nat.sub_zero,Nat.add_sub_cancel,Nat.div_one,List.range'_succ,List.range'_zero,List.forIn_cons,List.forIn_nil]
 simp [go_sem,ha,hs,h0,h1,h2,h3]
 cases r0 <;> cases r1 <;> cases r2 <;> cases r3 <;> simp
end Go.Proofs.YtbhcckhbbclemaaGreatDoor.Ab
namespace Go.Proofs.YtbhcckhbbclemaaGreatDoor.Ab
open Go.RowKit Go.Proofs.YtbhcckhbbclemaaGreatDoor Pl
theorem guard_eq {T:TypeId} {xs ys:Array Value} {x y:Operand} (h:Tryz.prog.eqGuardType Tryz.prog.depth T=false) (w:World):(eqGuard .eql T x y (.agg xs) (.agg ys)).run Tryz.prog w = .ok () w:=by
 simp [eqGuard,Sem.run_bind,run_program,h]
theorem guard_ne {T:TypeId} {xs ys:Array Value} {x y:Operand} (h:Tryz.prog.eqGuardType Tryz.prog.depth T=false) (w:World):(eqGuard .neq T x y (.agg xs) (.agg ys)).run Tryz.prog w = .ok () w:=by
 simp [eqGuard,Sem.run_bind,run_program,h]
theorem agg_eq {o:Oper} {ρ:Operand→Value} {w:World} {x y:Operand} {xs ys:Array Value} {T T' : TypeId} {r:Bool} (hg:Tryz.prog.eqGuardType Tryz.prog.depth T=false) (h:(Op.equal T (.agg xs) (.agg ys)).run Tryz.prog w = .ok r w) (ho:o.op = .binOp .eql T x y T') (hx:ρ x = .agg xs) (hy:ρ y = .agg ys) :
 (execOp ρ o).run Tryz.prog w = .ok (.value (.bool r)) w:=by
 simp only [execOp,ho,hx,hy]
 refine run_v ?_
 simp only [Sem.run_bind,guard_eq hg,Result.andThen_ok]
 show (do pure (Value.bool (← Op.equal T (.agg xs) (.agg ys))):Sem Value).run Tryz.prog w=_
 rw [Sem.run_bind,h]
 rfl
theorem agg_ne {o:Oper} {ρ:Operand→Value} {w:World} {x y:Operand} {xs ys:Array Value} {T T' : TypeId} {r:Bool} (hg:Tryz.prog.eqGuardType Tryz.prog.depth T=false) (h:(Op.equal T (.agg xs) (.agg ys)).run Tryz.prog w = .ok r w) (ho:o.op = .binOp .neq T x y T') (hx:ρ x = .agg xs) (hy:ρ y = .agg ys) :
 (execOp ρ o).run Tryz.prog w = .ok (.value (.bool (!r))) w:=by
 simp only [execOp,ho,hx,hy]
 refine run_v ?_
 simp only [Sem.run_bind,guard_ne hg,Result.andThen_ok]
 show (do pure (Value.bool (!(← Op.equal T (.agg xs) (.agg ys)))):Sem Value).run Tryz.prog w=_
 rw [Sem.run_bind,h]
 rfl
theorem equalT (a b c x y z:ByteArray) (w:World):(Op.equal 25 (.agg #[.string a,.string b,.string c]) (.agg #[.string x,.string y,.string z])).run Tryz.prog w = .ok (a.toList==x.toList&&b.toList==y.toList&&c.toList==z.toList) w :=
 equal3 9999 (e:=22) (by kernel_rfl) (by kernel_rfl) (fun w=>by kernel_rfl) (fun w=>by kernel_rfl) (fun w=>run_equalIn_string w _ _ _ _ (by kernel_rfl)) (fun w=>run_equalIn_string w _ _ _ _ (by kernel_rfl)) (fun w=>run_equalIn_string w _ _ _ _ (by kernel_rfl)) w
theorem s3_is {a b c:ByteArray} {β:List Nat} {v:Value} {w:World} (h:(.fv (.ag [isS a,isS b,isS c]):AV Kn).holds β v w):v = .agg #[.string a,.string b,.string c]:=by
 obtain ⟨cs,rfl,x1,r1,rfl,h1,x2,r2,rfl,h2,x3,r3,rfl,h3,e⟩:=h
 rw [show r3 = [] from e,show x1=_ from h1,show x2=_ from h2,show x3=_ from h3]
 rfl
theorem l3_is {a b c:Value} {β:List Nat} {v:Value} {w:World} (h:(.fv (.ag [.lit a,.lit b,.lit c]):AV Kn).holds β v w):v = .agg #[a,b,c]:=by
 obtain ⟨cs,rfl,x1,r1,rfl,h1,x2,r2,rfl,h2,x3,r3,rfl,h3,e⟩:=h
 rw [show r3 = [] from e,h1.1,h2.1,h3.1]
 rfl
section
variable {f:FuncId} {w00:World} {Out:Value→World→Prop} {c:Cfg Kn}
theorem kv3 (x y:Operand) (a b d:ByteArray) (hg:Ok Tryz.prog f w00 Out (runA Tryz.prog 1000 (c.give (bl false))))
 (hc:(c.op.map fun o=>o.op,c.okT (bl false),c.ev x,c.ev y)=(some (.binOp .neq 25 x y 25),true,.fv (.ag [isS a,isS b,isS d]),.fv (.ag [isS a,isS b,isS d])):=by kernel_rfl):Ok Tryz.prog f w00 Out c :=
 kop2 (.binOp .neq 25 x y 25) x y _ _ (bl false) hc (by simp [Op.operands]) (by simp [Op.operands]) (fun ρ o β w ho hx hy=>⟨_,by
  have e:=equalT a b d a b d w
  simp only [beq_self_eq_true,Bool.and_self] at e
  exact agg_ne (by kernel_rfl) e ho (s3_is hx) (s3_is hy),lit_hold rfl⟩) hg
theorem ktx (x y:Tmp) (s:ByteArray) (hg:Ok Tryz.prog f w00 Out (runA Tryz.prog 1000 (c.give (bl true))))
 (hc:(c.op.map fun o=>o.op,c.okT (bl true),c.ev (.tmp x),c.ev (.tmp y))=(some (.binOp .eql 22 (.tmp x) (.tmp y) 22),true,tx s,tx s):=by kernel_rfl):Ok Tryz.prog f w00 Out c :=
 kop2 (.binOp .eql 22 (.tmp x) (.tmp y) 22) (.tmp x) (.tmp y) _ _ (bl true) hc (by simp [Op.operands]) (by simp [Op.operands]) (fun ρ o β w ho hx hy=>⟨_,seq_run ho (hold_is hx) (hold_is hy) (beq_self_eq_true _),lit_hold rfl⟩) hg
end
end Go.Proofs.YtbhcckhbbclemaaGreatDoor.Ab
