/- Parts of the proof, joined. -/
import Derived.Test.YtbkfbobdmojgnaaGreatDoorJ26
import Derived.Test.YtbkfbobdmojgnaaGreatDoorJ31
import Derived.Test.YtbkfbobdmojgnaaGreatDoorJ34
import Derived.Test.YtbkfbobdmojgnaaGreatDoorJ7
import Derived.Laws.Tables
import Derived.Laws.StructEq
set_option linter.unusedSimpArgs false
set_option linter.unusedVariables false
namespace Go.Proofs.YtbkfbobdmojgnaaGreatDoor.Ab
open Go.RowKit Go.Proofs.YtbkfbobdmojgnaaGreatDoor Pl
section
variable {z1 z2 z3:Int} {d p1 p2 p3 m1 m2 m3 e:Rat} {k1 k2 k3:Int}
theorem lw_hv (h:Hv z1 z2 z3 d) (k:Wr3 p1 p2 p3):Lf 20 (wayR z1 z2 z3 d p1 p2 p3):=lf_way (lf_sz h.s1) (lf_sz h.s2) (lf_sz h.s3) (h.d.lf.mono (by decide)) (k.1.lf.mono (by decide)) (k.2.1.lf.mono (by decide)) (k.2.2.lf.mono (by decide)) (by decide)
theorem apiProjectF (h:Hv z1 z2 z3 d) (k:Wr3 p1 p2 p3) (h0:dt (z1:Rat) z2 z3 z1 z2 z3≠0)
 (e1:p1+wayR z1 z2 z3 d p1 p2 p3*z1=m1) (e2:p2+wayR z1 z2 z3 d p1 p2 p3*z2=m2) (e3:p3+wayR z1 z2 z3 d p1 p2 p3*z3=m3) (hr:Wr3 m1 m2 m3) :
 FitsW Tryz.prog Gl 30 [hS z1 z2 z3 d,vS p1 p2 p3] (okVS m1 m2 m3):=by
 have lw:=lw_hv h k
 have lm:∀ {z:Int},Sz z→Lf 36 (wayR z1 z2 z3 d p1 p2 p3*z):=fun hz=>Lf.muln (n:=36) (lw.mono (by decide)) (lf_sz hz) (by decide)
 have hp:Fits Tryz.prog 91 [vc p1 p2 p3,vc (wayR z1 z2 z3 d p1 p2 p3*z1) (wayR z1 z2 z3 d p1 p2 p3*z2) (wayR z1 z2 z3 d p1 p2 p3*z3)] (vc m1 m2 m3):=by
  rw [← e1,← e2,← e3]
  exact vplusF (k.1.lf.mono (by decide)) (k.2.1.lf.mono (by decide)) (k.2.2.lf.mono (by decide)) (lm h.s1) (lm h.s2) (lm h.s3)
 refine kgoW Tryz.func30 (by kernel_rfl) fun w00 hG=>?_;have hI:=keepGl hG
 refine kcallW hI 85 [fnv 82,hS z1 z2 z3 d,fnv 60,vS p1 p2 p3] (readHV h k) (by kernel_rfl) Tryz.call85 ?_
 refine kcall 92 [hf z1 z2 z3 d,vc p1 p2 p3] (toPlaneF (lf_sz h.s1) (lf_sz h.s2) (lf_sz h.s3) (h.d.lf.mono (by decide)) (k.1.lf.mono (by decide)) (k.2.1.lf.mono (by decide)) (k.2.2.lf.mono (by decide)) h0) (by kernel_rfl) Tryz.call92 ?_
 refine kcall 91 [vc p1 p2 p3,vc (wayR z1 z2 z3 d p1 p2 p3*z1) (wayR z1 z2 z3 d p1 p2 p3*z2) (wayR z1 z2 z3 d p1 p2 p3*z3)] (hp) (by kernel_rfl) Tryz.call91 ?_
 refine kcallW hI 76 [vc m1 m2 m3] (writeVec3 hr) (by kernel_rfl) Tryz.call76 ?_
 exact kret Tryz.func30 (by kernel_rfl)
theorem apiDistanceF (h:Hv z1 z2 z3 d) (k:Wr3 p1 p2 p3) (h0:dt (z1:Rat) z2 z3 z1 z2 z3≠0)
 (e1:dt (wayR z1 z2 z3 d p1 p2 p3*z1) (wayR z1 z2 z3 d p1 p2 p3*z2) (wayR z1 z2 z3 d p1 p2 p3*z3) (wayR z1 z2 z3 d p1 p2 p3*z1) (wayR z1 z2 z3 d p1 p2 p3*z2) (wayR z1 z2 z3 d p1 p2 p3*z3)=e) (hr:Wr e) :
 FitsW Tryz.prog Gl 31 [hS z1 z2 z3 d,vS p1 p2 p3] (okS e):=by
 have lw:=lw_hv h k
 have lm:∀ {z:Int},Sz z→Lf 31 (wayR z1 z2 z3 d p1 p2 p3*z):=fun hz=>Lf.muln (n:=31) (lw.mono (by decide)) (lf_sz hz) (by decide)
 have hs:Fits Tryz.prog 63 [vc (wayR z1 z2 z3 d p1 p2 p3*z1) (wayR z1 z2 z3 d p1 p2 p3*z2) (wayR z1 z2 z3 d p1 p2 p3*z3)] (num e):=by
  rw [← e1]
  exact squareF (lm h.s1) (lm h.s2) (lm h.s3)
 refine kgoW Tryz.func31 (by kernel_rfl) fun w00 hG=>?_;have hI:=keepGl hG
 refine kcallW hI 85 [fnv 82,hS z1 z2 z3 d,fnv 60,vS p1 p2 p3] (readHV h k) (by kernel_rfl) Tryz.call85 ?_
 refine kcall 92 [hf z1 z2 z3 d,vc p1 p2 p3] (toPlaneF (lf_sz h.s1) (lf_sz h.s2) (lf_sz h.s3) (h.d.lf.mono (by decide)) (k.1.lf.mono (by decide)) (k.2.1.lf.mono (by decide)) (k.2.2.lf.mono (by decide)) h0) (by kernel_rfl) Tryz.call92 ?_
 refine kcall 63 [vc (wayR z1 z2 z3 d p1 p2 p3*z1) (wayR z1 z2 z3 d p1 p2 p3*z2) (wayR z1 z2 z3 d p1 p2 p3*z3)] (hs) (by kernel_rfl) Tryz.call63 ?_
 refine kcallW hI 62 [num e] (writeF (hr.lf.mono (by decide)) hr.n hr.d) (by kernel_rfl) Tryz.call62 ?_
 exact kret Tryz.func31 (by kernel_rfl)
end
theorem isS_lit {β:List Nat} {cs:List Value} {w:World} {b:ByteArray}:(isS b).holds β cs w↔(Seg.lit (.string b):Seg Kn).holds β cs w:=⟨fun h=>⟨h,rfl⟩,fun h=>h.1⟩
inductive LitL:List (Seg Kn)→List (Seg Kn)→Prop where
 | nil:LitL [] []
 | txt {b:ByteArray} {l m}:LitL l m→LitL (isS b::l) (.lit (.string b)::m)
 | same {s:Seg Kn} {l m}:LitL l m→LitL (s::l) (s::m)
theorem LitL.to {β:List Nat} {w:World} {l m:List (Seg Kn)} (h:LitL l m):∀ {cs:List Value},holdsL β l cs w↔holdsL β m cs w:=by
 induction h with
 | nil=>intro cs;exact Iff.rfl
 | txt _ ih =>
   intro cs
   constructor
   ·rintro ⟨a,b,e,h1,h2⟩;exact ⟨a,b,e,isS_lit.1 h1,ih.1 h2⟩
   ·rintro ⟨a,b,e,h1,h2⟩;exact ⟨a,b,e,isS_lit.2 h1,ih.2 h2⟩
 | same _ ih =>
   intro cs
   constructor
   ·rintro ⟨a,b,e,h1,h2⟩;exact ⟨a,b,e,h1,ih.1 h2⟩
   ·rintro ⟨a,b,e,h1,h2⟩;exact ⟨a,b,e,h1,ih.2 h2⟩
theorem ag_lit {β:List Nat} {v:Value} {w:World} {l m:List (Seg Kn)} (h:LitL l m):(AV.fv (.ag l)).holds β v w↔(AV.fv (.ag m)).holds β v w:=by
 constructor
 ·rintro ⟨cs,e,k⟩;exact ⟨cs,e,h.to.1 k⟩
 ·rintro ⟨cs,e,k⟩;exact ⟨cs,e,h.to.2 k⟩
theorem sc_lit {β:List Nat} {v:Value} {w:World} {b:ByteArray}:(AV.fv (.sc (isS b)):AV Kn).holds β v w↔(AV.fv (.sc (.lit (.string b))):AV Kn).holds β v w:=isS_lit (β:=β) (cs := [v])
theorem FitsW.args {P:Program} {I:World→Prop} {f:FuncId} {l l' : List (AV Kn)} {x:AV Kn} (h:FitsW P I f l x) (hl:∀ β vs w,holdsA β l' vs w→holdsA β l vs w):FitsW P I f l' x:=fun β w vs hI hv=>h β w vs hI (hl β vs w hv)
theorem FitsW.res {P:Program} {I:World→Prop} {f:FuncId} {l:List (AV Kn)} {x y:AV Kn} (h:FitsW P I f l x) (hx:∀ β v w,x.holds β v w→y.holds β v w):FitsW P I f l y:=fun β w vs hI hv =>
 (h β w vs hI hv).mono fun e w' ⟨v,e1,e2,e3⟩=>⟨v,e1,e2,hx β v w' e3⟩
theorem dec_two {n:Nat} (h1:10≤n) (h2:n<100):Lib.decDigits n = [UInt8.ofNat (48+n/10),UInt8.ofNat (48+n%10)]:=by
 rw [dec_large (by omega),dec_small (by omega)]
 rfl
theorem decB_small {n:Nat} (h:n<10):decB n=⟨#[UInt8.ofNat (48+n)]⟩:=by unfold decB;rw [dec_small h]
theorem decB_two {n:Nat} (h1:10≤n) (h2:n<100):decB n=⟨#[UInt8.ofNat (48+n/10),UInt8.ofNat (48+n%10)]⟩:=by unfold decB;rw [dec_two h1 h2]
theorem write_int {z:Int} {b:ByteArray} (hz:¬ z<0) (h:decB z.natAbs=b):writeB (z:Rat)=b:=by
 rw [← textB_write,textB,if_neg hz,h]
theorem write_neg_int {z:Int} {b:ByteArray} (hz:z<0) (h:decB z.natAbs=b):writeB (z:Rat)=⟨#[45]⟩++b:=by
 rw [← textB_write,textB,if_pos hz,h]
theorem w0:writeB ((0:Int):Rat)=⟨#[48]⟩:=write_int (by omega) (decB_small (n:=0) (by omega))
theorem w1:writeB ((1:Int):Rat)=⟨#[49]⟩:=write_int (by omega) (decB_small (n:=1) (by omega))
theorem slash_write (q:Rat):slashB (writeB q)=(textB q.num).size:=by
 by_cases h:q.den=1
 ·rw [write_one h,slash_one]
 ·rw [write_parts h,slash_two]
theorem num_cut (q:Rat):(writeB q).extract 0 (slashB (writeB q))=textB q.num:=by
 rw [slash_write]
 by_cases h:q.den=1
 ·rw [write_one h,ext_all]
 ·rw [write_parts h,ext_lo]
theorem den_cut {q:Rat} (h:q.den≠1):(writeB q).extract (slashB (writeB q)+1) (writeB q).size=decB q.den:=by
 rw [slash_write,write_parts h]
 exact ext_hi _ _
theorem write_len (q:Rat):(writeB q).size=(textB q.num).size+if q.den=1 then 0 else 1+(decB q.den).size:=by
 by_cases h:q.den=1
 ·rw [write_one h,if_pos h];rfl
 ·rw [write_parts h,if_neg h,ByteArray.size_append,ByteArray.size_append,size47]
theorem numF {q:Rat} (hs:(writeB q).size≤1000000000):Fits Tryz.prog 55 [rS (writeB q)] (rS (textB q.num)):=by
 have hc:=num_cut q
 generalize writeB q=s at *
 refine rgo Tryz.func55 (by kernel_rfl) fun w00=>?_
 refine rcall 64 [rS s] (slashF (by omega)) (by kernel_rfl) Tryz.call64 ?_
 refine rshi 3 5 22 Tryz.underlying22 s (slashB s) (textB q.num) (slashB_le _) hc ?_
 exact rret Tryz.func55 (by kernel_rfl)
theorem denF1 {q:Rat} (hs:(writeB q).size≤1000000000) (h:q.den=1):Fits Tryz.prog 56 [rS (writeB q)] (rS (decB q.den)):=by
 have hl:=write_len q
 have hk:=slash_write q
 rw [if_pos h] at hl
 have e:decB q.den=⟨#[49]⟩:=by rw [h,dec1]
 rw [e]
 generalize writeB q=s at *
 have key:Fits Tryz.prog 56 [rS s] (.fv (.sc (.lit (.string ⟨#[49]⟩)))):=by
  refine rgo Tryz.func56 (by kernel_rfl) fun w00=>?_
  refine rcall 64 [rS s] (slashF (by omega)) (by kernel_rfl) Tryz.call64 ?_
  refine rlen 7 22 Tryz.underlying22 s ?_
  refine rop2 (.binOp .eql 3 (.tmp 6) (.tmp 8) 3) (.tmp 6) (.tmp 8) (rI (slashB s:Nat)) (rI (s.size:Nat)) (rl true) (by kernel_rfl) (by simp [Op.operands]) (by simp [Op.operands]) (fun ρ o β w ho hx hy=>⟨.bool true,ieq_run ho (r_is hx) (r_is hy) (by simp;omega),rlit rfl⟩) ?_
  exact rret Tryz.func56 (by kernel_rfl)
 exact rres key fun β v w h=>h.1
theorem denF2 {q:Rat} (hs:(writeB q).size≤1000000000) (h:q.den≠1):Fits Tryz.prog 56 [rS (writeB q)] (rS (decB q.den)):=by
 have hl:=write_len q
 have hk:=slash_write q
 rw [if_neg h] at hl
 have hc:=den_cut h
 generalize decB q.den=d at *
 generalize writeB q=s at *
 refine rgo Tryz.func56 (by kernel_rfl) fun w00=>?_
 refine rcall 64 [rS s] (slashF (by omega)) (by kernel_rfl) Tryz.call64 ?_
 refine rlen 7 22 Tryz.underlying22 s ?_
 refine rop2 (.binOp .eql 3 (.tmp 6) (.tmp 8) 3) (.tmp 6) (.tmp 8) (rI (slashB s:Nat)) (rI (s.size:Nat)) (rl false) (by kernel_rfl) (by simp [Op.operands]) (by simp [Op.operands]) (fun ρ o β w ho hx hy=>⟨.bool false,ieq_run ho (r_is hx) (r_is hy) (by simp;omega),rlit rfl⟩) ?_
 refine radd 11 (slashB s) (by omega) ?_
 refine rslo 10 12 22 Tryz.underlying22 s (slashB s+1) d (by omega) hc ?_
 exact rret Tryz.func56 (by kernel_rfl)
theorem denOfF {q:Rat} (hs:(writeB q).size≤1000000000):Fits Tryz.prog 56 [rS (writeB q)] (rS (decB q.den)):=by
 by_cases h:q.den=1
 ·exact denF1 hs h
 ·exact denF2 hs h
theorem dec0_ne {n:Nat} (h:n≠0):decB n≠zeroT:=fun e=>h (decB_inj (e.trans dec0.symm))
theorem body_ne_zero {q:Rat} (h:q.num≠0):bodyB q≠zeroT:=by
 by_cases hd:q.den=1
 ·rw [body_one hd,textB_nat]
  exact dec0_ne (by omega)
 ·intro e
  have hl:=body_len q
  rw [if_neg hd,e] at hl
  have:zeroT.size=1:=rfl
  have:=decB_pos q.num.natAbs
  omega
theorem write_ne_zero {q:Rat} (h:q.num≠0):writeB q≠zeroT:=by
 by_cases hn:q.num<0
 ·obtain ⟨f1,⟨h0,hc⟩,f3,f4,f5⟩:=neg_facts hn
  intro e
  have h1:=(strip_write q).1
  rw [e,decide_eq_true hn] at h1
  exact absurd h1 (by decide)
 ·rw [write_pos hn]
  exact body_ne_zero h
theorem signF0 {q:Rat} (h:q.num=0):Fits Tryz.prog 117 [rS (writeB q)] (.fv (.sc (.lit (.int .i64 0)))):=by
 have e:((writeB q).toList==(⟨#[48]⟩:ByteArray).toList)=true:=by
  have hd:q.den=1:=by have:=q.reduced;rw [h] at this;simpa using this
  rw [write_one hd,h]
  have:textB 0=zeroT:=by unfold textB;rw [if_neg (by omega)];exact dec0
  rw [this]
  exact beq_self_eq_true zeroT.toList
 generalize writeB q=s at *
 refine rgo Tryz.func117 (by kernel_rfl) fun w00=>?_
 refine rseq 3 22 s ⟨#[48]⟩ true e ?_
 exact rret Tryz.func117 (by kernel_rfl)
theorem signFn {q:Rat} (h:q.num<0):Fits Tryz.prog 117 [rS (writeB q)] (.fv (.sc (.lit (.int .i64 (-1))))):=by
 have e:=ne_list (write_ne_zero (q:=q) (by omega))
 obtain ⟨f1,hc,f3,f4,f5⟩:=neg_facts h
 have h0:decide ((0:Int)<((writeB q).size:Nat))=true:=by rw [decide_eq_true_iff];omega
 generalize writeB q=s at *
 refine rgo Tryz.func117 (by kernel_rfl) fun w00=>?_
 refine rseq 3 22 s ⟨#[48]⟩ false e ?_
 refine rlen 5 22 Tryz.underlying22 s ?_
 refine rgt 6 0 (s.size:Nat) true h0 ?_
 refine ridnR 9 s hc ?_
 exact rret Tryz.func117 (by kernel_rfl)
theorem signFp {q:Rat} (h:0<q.num):Fits Tryz.prog 117 [rS (writeB q)] (.fv (.sc (.lit (.int .i64 1)))):=by
 have e:=ne_list (write_ne_zero (q:=q) (by omega))
 obtain ⟨c,hc,hc45⟩:=body_head q
 rw [← write_pos (by omega)] at hc
 have h0:decide ((0:Int)<((writeB q).size:Nat))=true:=by rw [decide_eq_true_iff];have:=hc.1;omega
 generalize writeB q=s at *
 refine rgo Tryz.func117 (by kernel_rfl) fun w00=>?_
 refine rseq 3 22 s ⟨#[48]⟩ false e ?_
 refine rlen 5 22 Tryz.underlying22 s ?_
 refine rgt 6 0 (s.size:Nat) true h0 ?_
 refine ridpR 9 s c hc ?_
 refine rueq 10 c hc45 ?_
 exact rret Tryz.func117 (by kernel_rfl)
theorem absFn {q:Rat} (h:q.num<0) (hs:(writeB q).size≤1000000000):Fits Tryz.prog 54 [rS (writeB q)] (rS (bodyB q)):=by
 have hg:=signFn h
 obtain ⟨f1,hc,f3,f4,f5⟩:=neg_facts h
 generalize bodyB q=u at *
 generalize writeB q=s at *
 refine rgo Tryz.func54 (by kernel_rfl) fun w00=>?_
 refine rcall 117 [rS s] hg (by kernel_rfl) Tryz.call117 ?_
 refine rsl1 6 22 Tryz.underlying22 s u f1 f3 ?_
 exact rret Tryz.func54 (by kernel_rfl)
theorem absFp {q:Rat} (h:¬ q.num<0):Fits Tryz.prog 54 [rS (writeB q)] (rS (bodyB q)):=by
 rw [← write_pos h]
 by_cases h0:q.num=0
 ·have hg:=signF0 h0
  generalize writeB q=s at *
  refine rgo Tryz.func54 (by kernel_rfl) fun w00=>?_
  refine rcall 117 [rS s] hg (by kernel_rfl) Tryz.call117 ?_
  exact rret Tryz.func54 (by kernel_rfl)
 ·have hg:=signFp (q:=q) (by omega)
  generalize writeB q=s at *
  refine rgo Tryz.func54 (by kernel_rfl) fun w00=>?_
  refine rcall 117 [rS s] hg (by kernel_rfl) Tryz.call117 ?_
  exact rret Tryz.func54 (by kernel_rfl)
theorem absOfF {q:Rat} (hs:(writeB q).size≤1000000000):Fits Tryz.prog 54 [rS (writeB q)] (rS (bodyB q)):=by
 by_cases h:q.num<0
 ·exact absFn h hs
 ·exact absFp h
theorem absTF {z:Int} (hs:(textB z).size≤1000000000):Fits Tryz.prog 54 [rS (textB z)] (rS (decB z.natAbs)):=by
 have h:=absOfF (q:=(z:Rat)) (by rw [← textB_write];exact hs)
 have e:bodyB (z:Rat)=decB z.natAbs:=by rw [body_one rfl,textB_nat];rfl
 rw [← textB_write,e] at h
 exact h
def Fw (k:Nat) (q:Rat):Prop:=(decB q.num.natAbs).size≤k∧(decB q.den).size≤k
theorem text_len (z:Int):(textB z).size≤(decB z.natAbs).size+1:=by
 unfold textB
 split
 ·rw [ByteArray.size_append,size45];omega
 ·omega
theorem fw_len {k:Nat} {q:Rat} (h:Fw k q):(writeB q).size≤2*k+2:=by
 have h1:=write_len q
 have h2:=text_len q.num
 have h3:=h.1
 have h4:=h.2
 split at h1 <;> omega
theorem few6_long {s:ByteArray} (h:decide (((s.size:Nat):Int)≤14)=false):Fits Tryz.prog 10 [rS s,.fv (.sc (.lit (.int .i64 6)))] (rl false):=by
 refine rgo Tryz.func10 (by kernel_rfl) fun w00=>?_
 refine rlen 5 22 Tryz.underlying22 s ?_
 refine rleq 6 9 (s.size:Nat) 14 false h ?_
 exact rret Tryz.func10 (by kernel_rfl)
theorem few6_bad {s:ByteArray} {z:Int} (h:decide (((s.size:Nat):Int)≤14)=true) (hk:Fits Tryz.prog 16 [rS s] (rI z)) (hz:z≠0):Fits Tryz.prog 10 [rS s,.fv (.sc (.lit (.int .i64 6)))] (rl false):=by
 refine rgo Tryz.func10 (by kernel_rfl) fun w00=>?_
 refine rlen 5 22 Tryz.underlying22 s ?_
 refine rleq 6 9 (s.size:Nat) 14 true h ?_
 refine rcall 16 [rS s] hk (by kernel_rfl) Tryz.call16 ?_
 refine rop2 (.binOp .eql 3 (.tmp 13) (.const (.int .i64 0)) 3) (.tmp 13) (.const (.int .i64 0)) (rI z) (.fv (.sc (.lit (.int .i64 0)))) (rl false) (by kernel_rfl) (by simp [Op.operands]) (by simp [Op.operands]) (fun ρ o β w ho hx hy=>⟨.bool false,ieq_run ho (r_is hx) (r_lit hy) (by simpa using hz),rlit rfl⟩) ?_
 exact rret Tryz.func10 (by kernel_rfl)
theorem few6_num {s u a:ByteArray} {z:Int} (h:decide (((s.size:Nat):Int)≤14)=true) (hk:Fits Tryz.prog 16 [rS s] (rI z)) (hz:z=0) (h1:Fits Tryz.prog 55 [rS s] (rS u)) (h2:Fits Tryz.prog 54 [rS u] (rS a)) (h3:decide (((a.size:Nat):Int)≤6)=false):Fits Tryz.prog 10 [rS s,.fv (.sc (.lit (.int .i64 6)))] (rl false):=by
 refine rgo Tryz.func10 (by kernel_rfl) fun w00=>?_
 refine rlen 5 22 Tryz.underlying22 s ?_
 refine rleq 6 9 (s.size:Nat) 14 true h ?_
 refine rcall 16 [rS s] hk (by kernel_rfl) Tryz.call16 ?_
 refine rop2 (.binOp .eql 3 (.tmp 13) (.const (.int .i64 0)) 3) (.tmp 13) (.const (.int .i64 0)) (rI z) (.fv (.sc (.lit (.int .i64 0)))) (rl true) (by kernel_rfl) (by simp [Op.operands]) (by simp [Op.operands]) (fun ρ o β w ho hx hy=>⟨.bool true,ieq_run ho (r_is hx) (r_lit hy) (by rw [hz];rfl),rlit rfl⟩) ?_
 refine rcall 55 [rS s] h1 (by kernel_rfl) Tryz.call55 ?_
 refine rcall 54 [rS u] h2 (by kernel_rfl) Tryz.call54 ?_
 refine rlen 19 22 Tryz.underlying22 a ?_
 refine rleq 20 21 (a.size:Nat) 6 false h3 ?_
 exact rret Tryz.func10 (by kernel_rfl)
theorem few6_denf {s u a d:ByteArray} {z:Int} (h:decide (((s.size:Nat):Int)≤14)=true) (hk:Fits Tryz.prog 16 [rS s] (rI z)) (hz:z=0) (h1:Fits Tryz.prog 55 [rS s] (rS u)) (h2:Fits Tryz.prog 54 [rS u] (rS a)) (h3:decide (((a.size:Nat):Int)≤6)=true) (h4:Fits Tryz.prog 56 [rS s] (rS d)) (h5:decide (((d.size:Nat):Int)≤6)=false):Fits Tryz.prog 10 [rS s,.fv (.sc (.lit (.int .i64 6)))] (rl false):=by
 refine rgo Tryz.func10 (by kernel_rfl) fun w00=>?_
 refine rlen 5 22 Tryz.underlying22 s ?_
 refine rleq 6 9 (s.size:Nat) 14 true h ?_
 refine rcall 16 [rS s] hk (by kernel_rfl) Tryz.call16 ?_
 refine rop2 (.binOp .eql 3 (.tmp 13) (.const (.int .i64 0)) 3) (.tmp 13) (.const (.int .i64 0)) (rI z) (.fv (.sc (.lit (.int .i64 0)))) (rl true) (by kernel_rfl) (by simp [Op.operands]) (by simp [Op.operands]) (fun ρ o β w ho hx hy=>⟨.bool true,ieq_run ho (r_is hx) (r_lit hy) (by rw [hz];rfl),rlit rfl⟩) ?_
 refine rcall 55 [rS s] h1 (by kernel_rfl) Tryz.call55 ?_
 refine rcall 54 [rS u] h2 (by kernel_rfl) Tryz.call54 ?_
 refine rlen 19 22 Tryz.underlying22 a ?_
 refine rleq 20 21 (a.size:Nat) 6 true h3 ?_
 refine rcall 56 [rS s] h4 (by kernel_rfl) Tryz.call56 ?_
 refine rlen 26 22 Tryz.underlying22 d ?_
 refine rleq 27 28 (d.size:Nat) 6 false h5 ?_
 exact rret Tryz.func10 (by kernel_rfl)
theorem few6_dent {s u a d:ByteArray} {z:Int} (h:decide (((s.size:Nat):Int)≤14)=true) (hk:Fits Tryz.prog 16 [rS s] (rI z)) (hz:z=0) (h1:Fits Tryz.prog 55 [rS s] (rS u)) (h2:Fits Tryz.prog 54 [rS u] (rS a)) (h3:decide (((a.size:Nat):Int)≤6)=true) (h4:Fits Tryz.prog 56 [rS s] (rS d)) (h5:decide (((d.size:Nat):Int)≤6)=true):Fits Tryz.prog 10 [rS s,.fv (.sc (.lit (.int .i64 6)))] (rl true):=by
 refine rgo Tryz.func10 (by kernel_rfl) fun w00=>?_
 refine rlen 5 22 Tryz.underlying22 s ?_
 refine rleq 6 9 (s.size:Nat) 14 true h ?_
 refine rcall 16 [rS s] hk (by kernel_rfl) Tryz.call16 ?_
 refine rop2 (.binOp .eql 3 (.tmp 13) (.const (.int .i64 0)) 3) (.tmp 13) (.const (.int .i64 0)) (rI z) (.fv (.sc (.lit (.int .i64 0)))) (rl true) (by kernel_rfl) (by simp [Op.operands]) (by simp [Op.operands]) (fun ρ o β w ho hx hy=>⟨.bool true,ieq_run ho (r_is hx) (r_lit hy) (by rw [hz];rfl),rlit rfl⟩) ?_
 refine rcall 55 [rS s] h1 (by kernel_rfl) Tryz.call55 ?_
 refine rcall 54 [rS u] h2 (by kernel_rfl) Tryz.call54 ?_
 refine rlen 19 22 Tryz.underlying22 a ?_
 refine rleq 20 21 (a.size:Nat) 6 true h3 ?_
 refine rcall 56 [rS s] h4 (by kernel_rfl) Tryz.call56 ?_
 refine rlen 26 22 Tryz.underlying22 d ?_
 refine rleq 27 28 (d.size:Nat) 6 true h5 ?_
 exact rret Tryz.func10 (by kernel_rfl)
theorem few6Yes {q:Rat} (h:Fw 6 q):Fits Tryz.prog 10 [rS (writeB q),.fv (.sc (.lit (.int .i64 6)))] (rl true):=by
 have hl:=fw_len h
 have ht:=text_len q.num
 have h1:=h.1
 have h2:=h.2
 exact few6_dent (by rw [decide_eq_true_iff];omega) (checkAnyF (by omega)) (check_write (by omega) (by omega)) (numF (by omega)) (absTF (by omega)) (by rw [decide_eq_true_iff];omega) (denOfF (by omega)) (by rw [decide_eq_true_iff];omega)
theorem few6No {s:ByteArray} (h:¬ ∃ q,s=writeB q∧Fw 6 q):Fits Tryz.prog 10 [rS s,.fv (.sc (.lit (.int .i64 6)))] (rl false):=by
 by_cases hl:s.size≤14
 ·have hl' : decide (((s.size:Nat):Int)≤14)=true:=by rw [decide_eq_true_iff];omega
  have hk:=checkAnyF (s:=s) (by omega)
  by_cases hz:checkB s=0
  ·obtain ⟨q,rfl,_,_⟩:=check_zero hz
   have ht:=text_len q.num
   have hw:=write_len q
   by_cases h3:(decB q.num.natAbs).size≤6
   ·exact few6_denf hl' hk hz (numF (by omega)) (absTF (by split at hw <;> omega)) (by rw [decide_eq_true_iff];omega) (denOfF (by omega)) (by rw [decide_eq_false_iff_not];intro h4;exact h ⟨q,rfl,h3,by omega⟩)
   ·exact few6_num hl' hk hz (numF (by omega)) (absTF (by split at hw <;> omega)) (by rw [decide_eq_false_iff_not];omega)
  ·exact few6_bad hl' hk hz
 ·exact few6_long (by rw [decide_eq_false_iff_not];omega)
theorem kn_I {f:FuncId} {s:ByteArray} {z:Int} (h:Fits Tryz.prog f [rS s] (rI z)):Fits Tryz.prog f [tx s] (.fv (.sc (isI z))):=by
 intro β w vs hv
 obtain ⟨v,rfl,h1⟩:=args1 hv
 rw [hold_is h1]
 exact (h β w [.string s] ⟨_,_,rfl,is_r,rfl⟩).mono fun e w' ⟨v,e1,e2,e3⟩=>⟨v,e1,e2,by rw [r_is e3];exact is_hold⟩
theorem kn_S {f:FuncId} {s t u:ByteArray} (h:Fits Tryz.prog f [rS s,rS t] (rS u)):Fits Tryz.prog f [tx s,tx t] (tx u):=by
 intro β w vs hv
 obtain ⟨v,v2,rfl,h1,h2⟩:=args2 hv
 rw [hold_is h1,hold_is h2]
 exact (h β w [.string s,.string t] ⟨_,_,rfl,is_r,_,_,rfl,is_r,rfl⟩).mono fun e w' ⟨v,e1,e2,e3⟩=>⟨v,e1,e2,by rw [r_is e3];exact is_hold⟩
theorem kn_F {f:FuncId} {s:ByteArray} {n:Int} {b:Bool} (h:Fits Tryz.prog f [rS s,.fv (.sc (.lit (.int .i64 n)))] (rl b)):Fits Tryz.prog f [tx s,it n] (bl b):=by
 intro β w vs hv
 obtain ⟨v,v2,rfl,h1,h2⟩:=args2 hv
 have e2:[v2] = [.int .i64 n]:=h2.1
 injection e2 with e2
 rw [hold_is h1,e2]
 exact (h β w [.string s,.int .i64 n] ⟨_,_,rfl,is_r,_,_,rfl,rlit rfl,rfl⟩).mono fun e w' ⟨v,e1,e2,e3⟩=>⟨v,e1,e2,by rw [r_lit e3];exact lit_hold rfl⟩
abbrev t3 (a b c:ByteArray):AV Kn := .fv (.ag [isS a,isS b,isS c])
theorem chkF {q:Rat} (h1:(decB q.num.natAbs).size≤600) (h2:(decB q.den).size≤600):Fits Tryz.prog 16 [tx (writeB q)] (it 0):=by
 have hw:=write_len q
 have ht:=text_len q.num
 have h:=kn_I (checkAnyF (s:=writeB q) (by split at hw <;> omega))
 rw [check_write h1 h2] at h
 intro β w vs hv
 exact (h β w vs hv).mono fun e w' ⟨v,e1,e2,e3⟩=>⟨v,e1,e2,by rw [hold_is e3];exact lit_hold rfl⟩
section
variable {a b c:ByteArray} {n:Int}
theorem fewVecT (h1:Fits Tryz.prog 10 [tx a,it n] (bl true)) (h2:Fits Tryz.prog 10 [tx b,it n] (bl true)) (h3:Fits Tryz.prog 10 [tx c,it n] (bl true)):Fits Tryz.prog 9 [t3 a b c,it n] (bl true):=by
 refine kgo Tryz.func9 (by kernel_rfl) fun w00=>?_
 refine kcall 10 [tx a,it n] (h1) (by kernel_rfl) Tryz.call10 ?_
 refine kcall 10 [tx b,it n] (h2) (by kernel_rfl) Tryz.call10 ?_
 refine kcall 10 [tx c,it n] (h3) (by kernel_rfl) Tryz.call10 ?_
 exact kret Tryz.func9 (by kernel_rfl)
theorem fewVecF1 (h1:Fits Tryz.prog 10 [tx a,it n] (bl false)):Fits Tryz.prog 9 [t3 a b c,it n] (bl false):=by
 refine kgo Tryz.func9 (by kernel_rfl) fun w00=>?_
 refine kcall 10 [tx a,it n] (h1) (by kernel_rfl) Tryz.call10 ?_
 exact kret Tryz.func9 (by kernel_rfl)
theorem fewVecF2 (h1:Fits Tryz.prog 10 [tx a,it n] (bl true)) (h2:Fits Tryz.prog 10 [tx b,it n] (bl false)):Fits Tryz.prog 9 [t3 a b c,it n] (bl false):=by
 refine kgo Tryz.func9 (by kernel_rfl) fun w00=>?_
 refine kcall 10 [tx a,it n] (h1) (by kernel_rfl) Tryz.call10 ?_
 refine kcall 10 [tx b,it n] (h2) (by kernel_rfl) Tryz.call10 ?_
 exact kret Tryz.func9 (by kernel_rfl)
theorem fewVecF3 (h1:Fits Tryz.prog 10 [tx a,it n] (bl true)) (h2:Fits Tryz.prog 10 [tx b,it n] (bl true)) (h3:Fits Tryz.prog 10 [tx c,it n] (bl false)):Fits Tryz.prog 9 [t3 a b c,it n] (bl false):=by
 refine kgo Tryz.func9 (by kernel_rfl) fun w00=>?_
 refine kcall 10 [tx a,it n] (h1) (by kernel_rfl) Tryz.call10 ?_
 refine kcall 10 [tx b,it n] (h2) (by kernel_rfl) Tryz.call10 ?_
 refine kcall 10 [tx c,it n] (h3) (by kernel_rfl) Tryz.call10 ?_
 exact kret Tryz.func9 (by kernel_rfl)
theorem checkRow3 {T:TypeId} (h1:Fits Tryz.prog 16 [tx a] (it 0)) (h2:Fits Tryz.prog 16 [tx b] (it 0)) (h3:Fits Tryz.prog 16 [tx c] (it 0)):Fits Tryz.prog 15 [.fv (.nsl 3 T [isS a,isS b,isS c])] (it 0):=by
 refine kgoS Tryz.func15 (by kernel_rfl) fun w00=>?_
 refine kcall 16 [tx a] (h1) (by kernel_rfl) Tryz.call16 ?_
 refine kcall 16 [tx b] (h2) (by kernel_rfl) Tryz.call16 ?_
 refine kcall 16 [tx c] (h3) (by kernel_rfl) Tryz.call16 ?_
 exact kret Tryz.func15 (by kernel_rfl)
theorem checkVec3 (h1:Fits Tryz.prog 16 [tx a] (it 0)) (h2:Fits Tryz.prog 16 [tx b] (it 0)) (h3:Fits Tryz.prog 16 [tx c] (it 0)):Fits Tryz.prog 14 [t3 a b c] (it 0):=by
 refine kgo Tryz.func14 (by kernel_rfl) fun w00=>?_
 refine kcall 15 [.fv (.nsl 3 22 [isS a,isS b,isS c])] (checkRow3 h1 h2 h3) (by kernel_rfl) Tryz.call15 ?_
 exact kret Tryz.func14 (by kernel_rfl)
end
theorem body_negate (q:Rat):bodyB (-q)=bodyB q:=by
 unfold bodyB
 rw [Rat.neg_den,Rat.neg_num,Int.natAbs_neg]
theorem zs_len {k:Nat} {q:Rat} (h:Zs k q):(writeB q).size≤2*k+4:=by
 have h1:=decB_size_le h.1
 have h2:=decB_size_le h.2
 have:=write_len q
 have:=text_len q.num
 split at * <;> omega
theorem negR {q:Rat} (hs:(writeB q).size≤1000000000):Fits Tryz.prog 47 [rS (writeB q)] (rS (writeB (-q))):=by
 by_cases h:q.num<0
 ·rw [write_pos (q := -q) (by rw [Rat.neg_num];omega),body_negate]
  have hg:=signFn h
  obtain ⟨f1,hc,f3,f4,f5⟩:=neg_facts h
  generalize bodyB q=u at *
  generalize writeB q=s at *
  refine rgo Tryz.func47 (by kernel_rfl) fun w00=>?_
  refine rcall 117 [rS s] hg (by kernel_rfl) Tryz.call117 ?_
  refine rsl1 6 22 Tryz.underlying22 s u f1 f3 ?_
  exact rret Tryz.func47 (by kernel_rfl)
 ·by_cases h0:q.num=0
  ·have e:-q=q:=by
    have:q=0:=Rat.num_eq_zero.1 h0
    rw [this]
    rfl
   rw [e]
   have hg:=signF0 h0
   generalize writeB q=s at *
   refine rgo Tryz.func47 (by kernel_rfl) fun w00=>?_
   refine rcall 117 [rS s] hg (by kernel_rfl) Tryz.call117 ?_
   refine rcall 117 [rS s] hg (by kernel_rfl) Tryz.call117 ?_
   exact rret Tryz.func47 (by kernel_rfl)
  ·rw [write_neg (q := -q) (by rw [Rat.neg_num];omega),body_negate,← write_pos h]
   have hg:=signFp (q:=q) (by omega)
   have hcat:(⟨#[45]⟩:ByteArray).size+(writeB q).size≤9223372036854775807:=by rw [size45];omega
   generalize writeB q=s at *
   refine rgo Tryz.func47 (by kernel_rfl) fun w00=>?_
   refine rcall 117 [rS s] hg (by kernel_rfl) Tryz.call117 ?_
   refine rcall 117 [rS s] hg (by kernel_rfl) Tryz.call117 ?_
   refine rop2 (.binOp .add 22 (.const (.string ⟨#[45]⟩)) (.tmp 12) 22) (.const (.string ⟨#[45]⟩)) (.tmp 12) (.fv (.sc (.lit (.string ⟨#[45]⟩)))) (rS s) (rS (⟨#[45]⟩++s)) (by kernel_rfl) (by simp [Op.operands]) (by simp [Op.operands]) (fun ρ o β w ho hx hy=>⟨_,cat_run ho (r_lit hx) (r_is hy) hcat,is_r⟩) ?_
   exact rret Tryz.func47 (by kernel_rfl)
theorem zs_neg {k:Nat} {q:Rat} (h:Zs k q):Zs k (-q):=by
 unfold Zs
 rw [Rat.neg_den,Rat.neg_num,Int.natAbs_neg]
 exact h
theorem subR {p q:Rat} (hp:Zs 10000 p) (hq:Zs 10000 q):Fits Tryz.prog 95 [rS (writeB p),rS (writeB q)] (rS (writeB (p-q))):=by
 have h1:=negR (q:=q) (by have:=zs_len hq;omega)
 have h2:=refAddF hp (zs_neg hq)
 rw [← Rat.sub_eq_add_neg] at h2
 generalize writeB (p-q)=x at *
 generalize writeB (-q)=y at *
 generalize writeB p=a at *
 generalize writeB q=b at *
 refine rgo Tryz.func95 (by kernel_rfl) fun w00=>?_
 refine rcall 47 [rS b] h1 (by kernel_rfl) Tryz.call47 ?_
 refine rcall 19 [rS a,rS y] h2 (by kernel_rfl) Tryz.call19 ?_
 exact rret Tryz.func95 (by kernel_rfl)
section
variable {a b c d e f:ByteArray} {x y z u v:ByteArray}
theorem subVecR (h1:Fits Tryz.prog 95 [tx a,tx d] (tx x)) (h2:Fits Tryz.prog 95 [tx b,tx e] (tx y)) (h3:Fits Tryz.prog 95 [tx c,tx f] (tx z)):Fits Tryz.prog 35 [t3 a b c,t3 d e f] (t3 x y z):=by
 refine kgo Tryz.func35 (by kernel_rfl) fun w00=>?_
 refine kcall 95 [tx a,tx d] (h1) (by kernel_rfl) Tryz.call95 ?_
 refine kcall 95 [tx b,tx e] (h2) (by kernel_rfl) Tryz.call95 ?_
 refine kcall 95 [tx c,tx f] (h3) (by kernel_rfl) Tryz.call95 ?_
 exact kret Tryz.func35 (by kernel_rfl)
theorem dotR (h1:Fits Tryz.prog 20 [tx a,tx d] (tx x)) (h2:Fits Tryz.prog 20 [tx b,tx e] (tx y)) (h3:Fits Tryz.prog 19 [tx x,tx y] (tx u)) (h4:Fits Tryz.prog 20 [tx c,tx f] (tx z)) (h5:Fits Tryz.prog 19 [tx u,tx z] (tx v)):Fits Tryz.prog 49 [t3 a b c,t3 d e f] (tx v):=by
 refine kgo Tryz.func49 (by kernel_rfl) fun w00=>?_
 refine kcall 20 [tx a,tx d] (h1) (by kernel_rfl) Tryz.call20 ?_
 refine kcall 20 [tx b,tx e] (h2) (by kernel_rfl) Tryz.call20 ?_
 refine kcall 19 [tx x,tx y] (h3) (by kernel_rfl) Tryz.call19 ?_
 refine kcall 20 [tx c,tx f] (h4) (by kernel_rfl) Tryz.call20 ?_
 refine kcall 19 [tx u,tx z] (h5) (by kernel_rfl) Tryz.call19 ?_
 exact kret Tryz.func49 (by kernel_rfl)
theorem squareR (h:Fits Tryz.prog 49 [t3 a b c,t3 a b c] (tx v)):Fits Tryz.prog 34 [t3 a b c] (tx v):=by
 refine kgo Tryz.func34 (by kernel_rfl) fun w00=>?_
 refine kcall 49 [t3 a b c,t3 a b c] (h) (by kernel_rfl) Tryz.call49 ?_
 exact kret Tryz.func34 (by kernel_rfl)
end
end Go.Proofs.YtbkfbobdmojgnaaGreatDoor.Ab
namespace Go.Proofs.YtbkfbobdmojgnaaGreatDoor
open Go.RowKit Pl
theorem gcd_tmod (x y:Int):Int.gcd y (x.tmod y)=Int.gcd x y:=by
 unfold Int.gcd
 rw [Int.natAbs_tmod,Nat.gcd_comm x.natAbs,Nat.gcd_rec y.natAbs x.natAbs,Nat.gcd_comm]
set_option maxHeartbeats 1000000 in
theorem intGcd_any (a b:Int) (w:World) (ha:-999999999≤a∧a≤999999999) (hb:-999999999≤b∧b≤999999999):Calls Tryz.prog 84 #[.int .i64 a,.int .i64 b] w fun e w'=>e = .returned (.int .i64 (Int.gcd a b:Nat))∧Below w.heap.size w w':=by
 have HA:=Lib.hid (And.intro ha hb)
 clear ha hb
 go_enter Tryz.func84,Tryz.ntmps84
 go_wp2
 go_loopw [0,1] (fun av bv wr => ∃ x y:Int,av = .int .i64 x∧bv = .int .i64 y∧Hid (Int.gcd x y=Int.gcd a b∧(-999999999≤x∧x≤999999999)∧(-999999999≤y∧y≤999999999))∧Below w.heap.size w wr) (fun _ bv _=>(intOf bv).natAbs)
 case atStart=>exact ⟨a,b,rfl,rfl,⟨rfl,HA.out⟩,Below.refl _ _⟩
 case round =>
  obtain ⟨x,y,rfl,rfl,hi,hbw⟩:=hrel
  by_cases h0:y=0
  ·subst h0
   have HR:=Lib.hid (show x.natAbs=Int.gcd a b by rw [← hi.out.1,Int.gcd_zero_right])
   obtain ⟨_,hx,_⟩:=hi.out
   clear hi
   go_wp2
   all_goals go_ret
   all_goals refine ⟨?_,hbw⟩
   all_goals rw [← HR.out]
   all_goals show Ending.returned (.int .i64 (max x (-x)))=_
   all_goals have e:max x (-x)=(x.natAbs:Int):=by rw [Int.max_def];split <;> omega
   all_goals rw [e]
  ·by_cases h1:y = -1
   ·subst h1
    obtain ⟨hg,hx,_⟩:=hi.out
    have HG:=Lib.hid (show Int.gcd (-1) 0=Int.gcd a b by rw [← hg,← gcd_tmod x (-1)];congr 1;rw [Int.tmod_neg,Int.tmod_one])
    clear hi hg
    go_wp2
    go_quiet (fail)
    have hb2:=drewN0 hbw nq
    clear hbw
    generalize wr.drewN nq=w2 at *
    go_wp2
    go_roundw
    case rel=>exact ⟨-1,0,rfl,by first|rfl|simp,⟨HG.out,by omega,by omega⟩,hb2⟩
    case measure=>simp [intOf]
   ·obtain ⟨r,hr⟩:∃ r,r=x.tmod y:=⟨_,rfl⟩
    have hlt:r.natAbs<y.natAbs:=by rw [hr,Int.natAbs_tmod];exact Nat.mod_lt _ (by omega)
    have HR:=Lib.hid (show (Int.gcd y r=Int.gcd a b∧(-999999999≤y∧y≤999999999)∧(-999999999≤r∧r≤999999999))∧r.natAbs<y.natAbs∧x.tmod y=r by
     obtain ⟨hg,hx,hy⟩:=hi.out
     exact ⟨⟨by rw [hr,gcd_tmod];exact hg,hy,by omega,by omega⟩,hlt,hr.symm⟩)
    have hz0:(y==0)=false:=by simp;omega
    have hz1:¬ y=0:=h0
    have hz3:(y == -1)=false:=by simp;omega
    clear hi hr hlt
    go_wp2
    go_quiet (fail)
    have hb2:=drewN0 hbw nq
    clear hbw
    generalize wr.drewN nq=w2 at *
    go_wp2
    go_roundw
    case rel =>
     obtain ⟨h1,h2,h3⟩:=HR.out
     exact ⟨y,r,rfl,by first|(rw [h3];done)|rfl,h1,hb2⟩
    case measure =>
     obtain ⟨h1,h2,h3⟩:=HR.out
     simp only [intOf]
     rw [h3]
     exact h2
end Go.Proofs.YtbkfbobdmojgnaaGreatDoor
namespace Go.Proofs.YtbkfbobdmojgnaaGreatDoor.Ab
open Go.RowKit Go.Proofs.YtbkfbobdmojgnaaGreatDoor Pl
theorem intGcdF {a b:Int} (ha:-999999999≤a∧a≤999999999) (hb:-999999999≤b∧b≤999999999):Fits Tryz.prog 84 [.fv (.sc (isI a)),.fv (.sc (isI b))] (.fv (.sc (isI (Int.gcd a b:Nat)))):=by
 intro β w vs hv
 obtain ⟨v,_,rfl,hv1,u,_,rfl,hv2,rfl⟩:=hv
 obtain rfl:=hold_is hv1
 obtain rfl:=hold_is hv2
 exact (intGcd_any a b w ha hb).mono fun e w' ⟨e1,e2⟩=>⟨_,e1,e2,is_hold⟩
theorem size_gcd {a b:Int} (ha:-999999999≤a∧a≤999999999) (hb:-999999999≤b∧b≤999999999):-999999999≤(Int.gcd a b:Int)∧(Int.gcd a b:Int)≤999999999:=by
 refine ⟨by omega,?_⟩
 by_cases h:a=0
 ·subst h
  rw [Int.gcd_zero_left]
  omega
 ·have:=Int.gcd_le_natAbs_left (a:=a) b h
  omega
end Go.Proofs.YtbkfbobdmojgnaaGreatDoor.Ab
namespace Go.Proofs.YtbkfbobdmojgnaaGreatDoor.Ab
open Go.RowKit Go.Proofs.YtbkfbobdmojgnaaGreatDoor
theorem equal3 {P:Program} {T e:TypeId} {x0 x1 x2 y0 y1 y2:Value} {r0 r1 r2:Bool} (hT:P.underlying T=some (.array 3 e)) (he:P.cellsOf e=1) (ha:∀ w,(isAgg e).run P w = .ok false w) (hs:∀ w,(sizeOf e).run P w = .ok 1 w)
 (h0:∀ w,(Op.equalIn 9999 e x0 y0).run P w = .ok r0 w) (h1:∀ w,(Op.equalIn 9999 e x1 y1).run P w = .ok r1 w) (h2:∀ w,(Op.equalIn 9999 e x2 y2).run P w = .ok r2 w) (w:World) :
 (Op.equal T (.agg #[x0,x1,x2]) (.agg #[y0,y1,y2])).run P w = .ok (r0&&r1&&r2) w:=by
 unfold Op.equal Op.maxDepth
 rw [show (10000:Nat)=9999+1 from rfl,Op.equalIn]
 simp only [Sem.run_bind,run_underlying hT,Result.andThen_ok,hs]
 simp only [Std.Legacy.Range.forIn_eq_forIn_range',Std.Legacy.Range.size,Nat.sub_zero,Nat.add_sub_cancel,Nat.div_one,List.range'_succ,List.range'_zero,List.forIn_cons,List.forIn_nil]
 simp [go_sem,ha,hs,h0,h1,h2]
 cases r0 <;> cases r1 <;> cases r2 <;> simp
end Go.Proofs.YtbkfbobdmojgnaaGreatDoor.Ab
