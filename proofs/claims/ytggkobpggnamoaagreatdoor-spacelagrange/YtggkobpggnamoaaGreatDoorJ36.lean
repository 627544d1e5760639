/- Parts of the proof, joined. -/
import Derived.Test.YtggkobpggnamoaaGreatDoorJ35
set_option linter.unusedSimpArgs false
set_option linter.unusedVariables false
namespace Go.Proofs.YtggkobpggnamoaaGreatDoor.Ab
open Go.RowKit Go.Proofs.YtggkobpggnamoaaGreatDoor Pl
theorem sub1_run {o:Oper} {ρ:Operand→Value} {w:World} {x y:Operand} {a:Nat} (ho:o.op = .binOp .sub 3 x y 3) (hx:ρ x = .int .i64 (a:Int)) (hy:ρ y = .int .i64 1) (ha:a<4611686018427387904) :
 (execOp ρ o).run Tryz.prog w = .ok (.value (.int .i64 ((a:Int)-1))) w:=by
 simp only [execOp,ho,hx,hy]
 refine run_v ?_
 have e:IntKind.i64.wrap ((a:Int)-1)=(a:Int)-1:=by
  rw [IntWalk.i64_left,IntWalk.wrap64_in _ ⟨by omega,by omega⟩]
 simp [go_sem,e]
theorem ine_run {o:Oper} {ρ:Operand→Value} {w:World} {x y:Operand} {a b:Int} {r:Bool} (ho:o.op = .binOp .neq 3 x y 3) (hx:ρ x = .int .i64 a) (hy:ρ y = .int .i64 b) (h:(a != b)=r) :
 (execOp ρ o).run Tryz.prog w = .ok (.value (.bool r)) w:=by
 simp only [execOp,ho,hx,hy]
 refine run_v ?_
 rw [← h]
 exact evalP_run (by kernel_rfl) w
section
variable {s t a d:ByteArray} {c k n m g:Nat}
theorem check_empty (h0:decide ((0:Int)<(s.size:Nat))=false) (hsl:Fits Tryz.prog 42 [rS s] (rI (0:Int))) (ha:s.extract 0 0=a) (fa:Fits Tryz.prog 43 [rS a] (rl false)):Fits Tryz.prog 12 [rS s] (.fv (.sc (.lit (.int .i64 1)))):=by
 refine rgo Tryz.func12 (by kernel_rfl) fun w00=>?_
 refine rlen 9 9 Tryz.underlying9 s ?_
 refine rgt 10 0 (s.size:Nat) false h0 ?_
 refine rcall 42 [rS s] hsl (by kernel_rfl) Tryz.call42 ?_
 refine rop2 (.slice 9 (.tmp 21) none (some (.tmp 22)) none) (.tmp 21) (.tmp 22) (rS s) (rI (0:Int)) (rS a) (by kernel_rfl) (by simp [Op.operands]) (by simp [Op.operands]) (fun ρ o β w ho hx hy=>?_) ?_
 ·have:=slice_hi (k:=0) (w:=w) ho Tryz.underlying9 (r_is hx) (r_is hy) (Nat.zero_le _)
  rw [ha] at this
  exact ⟨_,this,is_r⟩
 refine rcall 43 [rS a] fa (by kernel_rfl) Tryz.call43 ?_
 exact rret Tryz.func12 (by kernel_rfl)
theorem check_An (h0:decide ((0:Int)<(s.size:Nat))=true) (hc:∃ h:0<s.size,(s[0]'h).toNat=45) (h1:1≤s.size) (hext:s.extract 1 s.size=t) (hts:t.size≤1000000000) (hk:k≤t.size) (hsl:Fits Tryz.prog 42 [rS t] (rI (k:Int))) (ha:t.extract 0 k=a) (fa:Fits Tryz.prog 43 [rS a] (rl false)):Fits Tryz.prog 12 [rS s] (.fv (.sc (.lit (.int .i64 1)))):=by
 refine rgo Tryz.func12 (by kernel_rfl) fun w00=>?_
 refine rlen 9 9 Tryz.underlying9 s ?_
 refine rgt 10 0 (s.size:Nat) true h0 ?_
 refine ridn 13 s hc ?_
 refine rsl1 17 9 Tryz.underlying9 s t h1 hext ?_
 refine rcall 42 [rS t] hsl (by kernel_rfl) Tryz.call42 ?_
 refine rshi 21 22 9 Tryz.underlying9 t (k) a hk ha ?_
 refine rcall 43 [rS a] fa (by kernel_rfl) Tryz.call43 ?_
 exact rret Tryz.func12 (by kernel_rfl)
theorem check_Zn (h0:decide ((0:Int)<(s.size:Nat))=true) (hc:∃ h:0<s.size,(s[0]'h).toNat=45) (h1:1≤s.size) (hext:s.extract 1 s.size=t) (hts:t.size≤1000000000) (hk:k≤t.size) (hsl:Fits Tryz.prog 42 [rS t] (rI (k:Int))) (ha:t.extract 0 k=a) (fa:Fits Tryz.prog 43 [rS a] (rl true)) (hz:(a.toList==(⟨#[48]⟩:ByteArray).toList)=true):Fits Tryz.prog 12 [rS s] (.fv (.sc (.lit (.int .i64 1)))):=by
 refine rgo Tryz.func12 (by kernel_rfl) fun w00=>?_
 refine rlen 9 9 Tryz.underlying9 s ?_
 refine rgt 10 0 (s.size:Nat) true h0 ?_
 refine ridn 13 s hc ?_
 refine rsl1 17 9 Tryz.underlying9 s t h1 hext ?_
 refine rcall 42 [rS t] hsl (by kernel_rfl) Tryz.call42 ?_
 refine rshi 21 22 9 Tryz.underlying9 t (k) a hk ha ?_
 refine rcall 43 [rS a] fa (by kernel_rfl) Tryz.call43 ?_
 refine ridnR 27 s hc ?_
 refine rshi 31 32 9 Tryz.underlying9 t (k) a hk ha ?_
 refine rseq 33 9 a ⟨#[48]⟩ true hz ?_
 exact rret Tryz.func12 (by kernel_rfl)
theorem check_K4n (h0:decide ((0:Int)<(s.size:Nat))=true) (hc:∃ h:0<s.size,(s[0]'h).toNat=45) (h1:1≤s.size) (hext:s.extract 1 s.size=t) (hts:t.size≤1000000000) (hk:k≤t.size) (hsl:Fits Tryz.prog 42 [rS t] (rI (k:Int))) (ha:t.extract 0 k=a) (fa:Fits Tryz.prog 43 [rS a] (rl true)) (hz:(a.toList==(⟨#[48]⟩:ByteArray).toList)=false) (hlt:decide ((k:Int)<(t.size:Nat))=false) (h6:decide ((600:Int)<(k:Int))=true):Fits Tryz.prog 12 [rS s] (.fv (.sc (.lit (.int .i64 4)))):=by
 refine rgo Tryz.func12 (by kernel_rfl) fun w00=>?_
 refine rlen 9 9 Tryz.underlying9 s ?_
 refine rgt 10 0 (s.size:Nat) true h0 ?_
 refine ridn 13 s hc ?_
 refine rsl1 17 9 Tryz.underlying9 s t h1 hext ?_
 refine rcall 42 [rS t] hsl (by kernel_rfl) Tryz.call42 ?_
 refine rshi 21 22 9 Tryz.underlying9 t (k) a hk ha ?_
 refine rcall 43 [rS a] fa (by kernel_rfl) Tryz.call43 ?_
 refine ridnR 27 s hc ?_
 refine rshi 31 32 9 Tryz.underlying9 t (k) a hk ha ?_
 refine rseq 33 9 a ⟨#[48]⟩ false hz ?_
 refine rlen 38 9 Tryz.underlying9 t ?_
 refine rlss 37 39 (k:Int) (t.size:Nat) false hlt ?_
 refine rgt 63 600 (k:Int) true h6 ?_
 exact rret Tryz.func12 (by kernel_rfl)
theorem check_K0n (h0:decide ((0:Int)<(s.size:Nat))=true) (hc:∃ h:0<s.size,(s[0]'h).toNat=45) (h1:1≤s.size) (hext:s.extract 1 s.size=t) (hts:t.size≤1000000000) (hk:k≤t.size) (hsl:Fits Tryz.prog 42 [rS t] (rI (k:Int))) (ha:t.extract 0 k=a) (fa:Fits Tryz.prog 43 [rS a] (rl true)) (hz:(a.toList==(⟨#[48]⟩:ByteArray).toList)=false) (hlt:decide ((k:Int)<(t.size:Nat))=false) (h6:decide ((600:Int)<(k:Int))=false) (h7:decide ((600:Int)<((t.size-k:Nat):Int)-1)=false):Fits Tryz.prog 12 [rS s] (.fv (.sc (.lit (.int .i64 0)))):=by
 refine rgo Tryz.func12 (by kernel_rfl) fun w00=>?_
 refine rlen 9 9 Tryz.underlying9 s ?_
 refine rgt 10 0 (s.size:Nat) true h0 ?_
 refine ridn 13 s hc ?_
 refine rsl1 17 9 Tryz.underlying9 s t h1 hext ?_
 refine rcall 42 [rS t] hsl (by kernel_rfl) Tryz.call42 ?_
 refine rshi 21 22 9 Tryz.underlying9 t (k) a hk ha ?_
 refine rcall 43 [rS a] fa (by kernel_rfl) Tryz.call43 ?_
 refine ridnR 27 s hc ?_
 refine rshi 31 32 9 Tryz.underlying9 t (k) a hk ha ?_
 refine rseq 33 9 a ⟨#[48]⟩ false hz ?_
 refine rlen 38 9 Tryz.underlying9 t ?_
 refine rlss 37 39 (k:Int) (t.size:Nat) false hlt ?_
 refine rgt 63 600 (k:Int) false h6 ?_
 refine rlen 66 9 Tryz.underlying9 t ?_
 refine rsub 67 68 (t.size) (k) hk (by omega) ?_
 refine rop2 (.binOp .sub 3 (.tmp 69) (.const (.int .i64 1)) 3) (.tmp 69) (.const (.int .i64 1)) (rI ((t.size-k:Nat):Int)) (.fv (.sc (.lit (.int .i64 1)))) (rI (((t.size-k:Nat):Int)-1)) (by kernel_rfl) (by simp [Op.operands]) (by simp [Op.operands]) (fun ρ o β w ho hx hy=>⟨_,sub1_run ho (r_is hx) (r_lit hy) (by omega),is_r⟩) ?_
 refine rgt 70 600 (((t.size-k:Nat):Int)-1) false h7 ?_
 refine rlen 74 9 Tryz.underlying9 t ?_
 refine rlss 73 75 (k:Int) (t.size:Nat) false hlt ?_
 exact rret Tryz.func12 (by kernel_rfl)
theorem check_Dn (h0:decide ((0:Int)<(s.size:Nat))=true) (hc:∃ h:0<s.size,(s[0]'h).toNat=45) (h1:1≤s.size) (hext:s.extract 1 s.size=t) (hts:t.size≤1000000000) (hk:k≤t.size) (hsl:Fits Tryz.prog 42 [rS t] (rI (k:Int))) (ha:t.extract 0 k=a) (fa:Fits Tryz.prog 43 [rS a] (rl true)) (hz:(a.toList==(⟨#[48]⟩:ByteArray).toList)=false) (hlt:decide ((k:Int)<(t.size:Nat))=true) (hk1:k<t.size) (hd:t.extract (k+1) t.size=d) (fd:Fits Tryz.prog 43 [rS d] (rl false)):Fits Tryz.prog 12 [rS s] (.fv (.sc (.lit (.int .i64 1)))):=by
 refine rgo Tryz.func12 (by kernel_rfl) fun w00=>?_
 refine rlen 9 9 Tryz.underlying9 s ?_
 refine rgt 10 0 (s.size:Nat) true h0 ?_
 refine ridn 13 s hc ?_
 refine rsl1 17 9 Tryz.underlying9 s t h1 hext ?_
 refine rcall 42 [rS t] hsl (by kernel_rfl) Tryz.call42 ?_
 refine rshi 21 22 9 Tryz.underlying9 t (k) a hk ha ?_
 refine rcall 43 [rS a] fa (by kernel_rfl) Tryz.call43 ?_
 refine ridnR 27 s hc ?_
 refine rshi 31 32 9 Tryz.underlying9 t (k) a hk ha ?_
 refine rseq 33 9 a ⟨#[48]⟩ false hz ?_
 refine rlen 38 9 Tryz.underlying9 t ?_
 refine rlss 37 39 (k:Int) (t.size:Nat) true hlt ?_
 refine radd 43 (k) (by omega) ?_
 refine rslo 42 44 9 Tryz.underlying9 t (k+1) d (by omega) hd ?_
 refine rcall 43 [rS d] fd (by kernel_rfl) Tryz.call43 ?_
 exact rret Tryz.func12 (by kernel_rfl)
theorem check_D0n (h0:decide ((0:Int)<(s.size:Nat))=true) (hc:∃ h:0<s.size,(s[0]'h).toNat=45) (h1:1≤s.size) (hext:s.extract 1 s.size=t) (hts:t.size≤1000000000) (hk:k≤t.size) (hsl:Fits Tryz.prog 42 [rS t] (rI (k:Int))) (ha:t.extract 0 k=a) (fa:Fits Tryz.prog 43 [rS a] (rl true)) (hz:(a.toList==(⟨#[48]⟩:ByteArray).toList)=false) (hlt:decide ((k:Int)<(t.size:Nat))=true) (hk1:k<t.size) (hd:t.extract (k+1) t.size=d) (fd:Fits Tryz.prog 43 [rS d] (rl true)) (hd0:(d.toList==(⟨#[48]⟩:ByteArray).toList)=true):Fits Tryz.prog 12 [rS s] (.fv (.sc (.lit (.int .i64 1)))):=by
 refine rgo Tryz.func12 (by kernel_rfl) fun w00=>?_
 refine rlen 9 9 Tryz.underlying9 s ?_
 refine rgt 10 0 (s.size:Nat) true h0 ?_
 refine ridn 13 s hc ?_
 refine rsl1 17 9 Tryz.underlying9 s t h1 hext ?_
 refine rcall 42 [rS t] hsl (by kernel_rfl) Tryz.call42 ?_
 refine rshi 21 22 9 Tryz.underlying9 t (k) a hk ha ?_
 refine rcall 43 [rS a] fa (by kernel_rfl) Tryz.call43 ?_
 refine ridnR 27 s hc ?_
 refine rshi 31 32 9 Tryz.underlying9 t (k) a hk ha ?_
 refine rseq 33 9 a ⟨#[48]⟩ false hz ?_
 refine rlen 38 9 Tryz.underlying9 t ?_
 refine rlss 37 39 (k:Int) (t.size:Nat) true hlt ?_
 refine radd 43 (k) (by omega) ?_
 refine rslo 42 44 9 Tryz.underlying9 t (k+1) d (by omega) hd ?_
 refine rcall 43 [rS d] fd (by kernel_rfl) Tryz.call43 ?_
 refine radd 50 (k) (by omega) ?_
 refine rslo 49 51 9 Tryz.underlying9 t (k+1) d (by omega) hd ?_
 refine rseq 52 9 d ⟨#[48]⟩ true hd0 ?_
 exact rret Tryz.func12 (by kernel_rfl)
theorem check_D1n (h0:decide ((0:Int)<(s.size:Nat))=true) (hc:∃ h:0<s.size,(s[0]'h).toNat=45) (h1:1≤s.size) (hext:s.extract 1 s.size=t) (hts:t.size≤1000000000) (hk:k≤t.size) (hsl:Fits Tryz.prog 42 [rS t] (rI (k:Int))) (ha:t.extract 0 k=a) (fa:Fits Tryz.prog 43 [rS a] (rl true)) (hz:(a.toList==(⟨#[48]⟩:ByteArray).toList)=false) (hlt:decide ((k:Int)<(t.size:Nat))=true) (hk1:k<t.size) (hd:t.extract (k+1) t.size=d) (fd:Fits Tryz.prog 43 [rS d] (rl true)) (hd0:(d.toList==(⟨#[48]⟩:ByteArray).toList)=false) (hd1:(d.toList==(⟨#[49]⟩:ByteArray).toList)=true):Fits Tryz.prog 12 [rS s] (.fv (.sc (.lit (.int .i64 1)))):=by
 refine rgo Tryz.func12 (by kernel_rfl) fun w00=>?_
 refine rlen 9 9 Tryz.underlying9 s ?_
 refine rgt 10 0 (s.size:Nat) true h0 ?_
 refine ridn 13 s hc ?_
 refine rsl1 17 9 Tryz.underlying9 s t h1 hext ?_
 refine rcall 42 [rS t] hsl (by kernel_rfl) Tryz.call42 ?_
 refine rshi 21 22 9 Tryz.underlying9 t (k) a hk ha ?_
 refine rcall 43 [rS a] fa (by kernel_rfl) Tryz.call43 ?_
 refine ridnR 27 s hc ?_
 refine rshi 31 32 9 Tryz.underlying9 t (k) a hk ha ?_
 refine rseq 33 9 a ⟨#[48]⟩ false hz ?_
 refine rlen 38 9 Tryz.underlying9 t ?_
 refine rlss 37 39 (k:Int) (t.size:Nat) true hlt ?_
 refine radd 43 (k) (by omega) ?_
 refine rslo 42 44 9 Tryz.underlying9 t (k+1) d (by omega) hd ?_
 refine rcall 43 [rS d] fd (by kernel_rfl) Tryz.call43 ?_
 refine radd 50 (k) (by omega) ?_
 refine rslo 49 51 9 Tryz.underlying9 t (k+1) d (by omega) hd ?_
 refine rseq 52 9 d ⟨#[48]⟩ false hd0 ?_
 refine radd 57 (k) (by omega) ?_
 refine rslo 56 58 9 Tryz.underlying9 t (k+1) d (by omega) hd ?_
 refine rseq 59 9 d ⟨#[49]⟩ true hd1 ?_
 exact rret Tryz.func12 (by kernel_rfl)
theorem check_L1n (h0:decide ((0:Int)<(s.size:Nat))=true) (hc:∃ h:0<s.size,(s[0]'h).toNat=45) (h1:1≤s.size) (hext:s.extract 1 s.size=t) (hts:t.size≤1000000000) (hk:k≤t.size) (hsl:Fits Tryz.prog 42 [rS t] (rI (k:Int))) (ha:t.extract 0 k=a) (fa:Fits Tryz.prog 43 [rS a] (rl true)) (hz:(a.toList==(⟨#[48]⟩:ByteArray).toList)=false) (hlt:decide ((k:Int)<(t.size:Nat))=true) (hk1:k<t.size) (hd:t.extract (k+1) t.size=d) (fd:Fits Tryz.prog 43 [rS d] (rl true)) (hd0:(d.toList==(⟨#[48]⟩:ByteArray).toList)=false) (hd1:(d.toList==(⟨#[49]⟩:ByteArray).toList)=false) (h6:decide ((600:Int)<(k:Int))=true):Fits Tryz.prog 12 [rS s] (.fv (.sc (.lit (.int .i64 4)))):=by
 refine rgo Tryz.func12 (by kernel_rfl) fun w00=>?_
 refine rlen 9 9 Tryz.underlying9 s ?_
 refine rgt 10 0 (s.size:Nat) true h0 ?_
 refine ridn 13 s hc ?_
 refine rsl1 17 9 Tryz.underlying9 s t h1 hext ?_
 refine rcall 42 [rS t] hsl (by kernel_rfl) Tryz.call42 ?_
 refine rshi 21 22 9 Tryz.underlying9 t (k) a hk ha ?_
 refine rcall 43 [rS a] fa (by kernel_rfl) Tryz.call43 ?_
 refine ridnR 27 s hc ?_
 refine rshi 31 32 9 Tryz.underlying9 t (k) a hk ha ?_
 refine rseq 33 9 a ⟨#[48]⟩ false hz ?_
 refine rlen 38 9 Tryz.underlying9 t ?_
 refine rlss 37 39 (k:Int) (t.size:Nat) true hlt ?_
 refine radd 43 (k) (by omega) ?_
 refine rslo 42 44 9 Tryz.underlying9 t (k+1) d (by omega) hd ?_
 refine rcall 43 [rS d] fd (by kernel_rfl) Tryz.call43 ?_
 refine radd 50 (k) (by omega) ?_
 refine rslo 49 51 9 Tryz.underlying9 t (k+1) d (by omega) hd ?_
 refine rseq 52 9 d ⟨#[48]⟩ false hd0 ?_
 refine radd 57 (k) (by omega) ?_
 refine rslo 56 58 9 Tryz.underlying9 t (k+1) d (by omega) hd ?_
 refine rseq 59 9 d ⟨#[49]⟩ false hd1 ?_
 refine rgt 63 600 (k:Int) true h6 ?_
 exact rret Tryz.func12 (by kernel_rfl)
theorem check_L2n (h0:decide ((0:Int)<(s.size:Nat))=true) (hc:∃ h:0<s.size,(s[0]'h).toNat=45) (h1:1≤s.size) (hext:s.extract 1 s.size=t) (hts:t.size≤1000000000) (hk:k≤t.size) (hsl:Fits Tryz.prog 42 [rS t] (rI (k:Int))) (ha:t.extract 0 k=a) (fa:Fits Tryz.prog 43 [rS a] (rl true)) (hz:(a.toList==(⟨#[48]⟩:ByteArray).toList)=false) (hlt:decide ((k:Int)<(t.size:Nat))=true) (hk1:k<t.size) (hd:t.extract (k+1) t.size=d) (fd:Fits Tryz.prog 43 [rS d] (rl true)) (hd0:(d.toList==(⟨#[48]⟩:ByteArray).toList)=false) (hd1:(d.toList==(⟨#[49]⟩:ByteArray).toList)=false) (h6:decide ((600:Int)<(k:Int))=false) (h7:decide ((600:Int)<((t.size-k:Nat):Int)-1)=true):Fits Tryz.prog 12 [rS s] (.fv (.sc (.lit (.int .i64 4)))):=by
 refine rgo Tryz.func12 (by kernel_rfl) fun w00=>?_
 refine rlen 9 9 Tryz.underlying9 s ?_
 refine rgt 10 0 (s.size:Nat) true h0 ?_
 refine ridn 13 s hc ?_
 refine rsl1 17 9 Tryz.underlying9 s t h1 hext ?_
 refine rcall 42 [rS t] hsl (by kernel_rfl) Tryz.call42 ?_
 refine rshi 21 22 9 Tryz.underlying9 t (k) a hk ha ?_
 refine rcall 43 [rS a] fa (by kernel_rfl) Tryz.call43 ?_
 refine ridnR 27 s hc ?_
 refine rshi 31 32 9 Tryz.underlying9 t (k) a hk ha ?_
 refine rseq 33 9 a ⟨#[48]⟩ false hz ?_
 refine rlen 38 9 Tryz.underlying9 t ?_
 refine rlss 37 39 (k:Int) (t.size:Nat) true hlt ?_
 refine radd 43 (k) (by omega) ?_
 refine rslo 42 44 9 Tryz.underlying9 t (k+1) d (by omega) hd ?_
 refine rcall 43 [rS d] fd (by kernel_rfl) Tryz.call43 ?_
 refine radd 50 (k) (by omega) ?_
 refine rslo 49 51 9 Tryz.underlying9 t (k+1) d (by omega) hd ?_
 refine rseq 52 9 d ⟨#[48]⟩ false hd0 ?_
 refine radd 57 (k) (by omega) ?_
 refine rslo 56 58 9 Tryz.underlying9 t (k+1) d (by omega) hd ?_
 refine rseq 59 9 d ⟨#[49]⟩ false hd1 ?_
 refine rgt 63 600 (k:Int) false h6 ?_
 refine rlen 66 9 Tryz.underlying9 t ?_
 refine rsub 67 68 (t.size) (k) hk (by omega) ?_
 refine rop2 (.binOp .sub 3 (.tmp 69) (.const (.int .i64 1)) 3) (.tmp 69) (.const (.int .i64 1)) (rI ((t.size-k:Nat):Int)) (.fv (.sc (.lit (.int .i64 1)))) (rI (((t.size-k:Nat):Int)-1)) (by kernel_rfl) (by simp [Op.operands]) (by simp [Op.operands]) (fun ρ o β w ho hx hy=>⟨_,sub1_run ho (r_is hx) (r_lit hy) (by omega),is_r⟩) ?_
 refine rgt 70 600 (((t.size-k:Nat):Int)-1) true h7 ?_
 exact rret Tryz.func12 (by kernel_rfl)
theorem check_GBn (h0:decide ((0:Int)<(s.size:Nat))=true) (hc:∃ h:0<s.size,(s[0]'h).toNat=45) (h1:1≤s.size) (hext:s.extract 1 s.size=t) (hts:t.size≤1000000000) (hk:k≤t.size) (hsl:Fits Tryz.prog 42 [rS t] (rI (k:Int))) (ha:t.extract 0 k=a) (fa:Fits Tryz.prog 43 [rS a] (rl true)) (hz:(a.toList==(⟨#[48]⟩:ByteArray).toList)=false) (hlt:decide ((k:Int)<(t.size:Nat))=true) (hk1:k<t.size) (hd:t.extract (k+1) t.size=d) (fd:Fits Tryz.prog 43 [rS d] (rl true)) (hd0:(d.toList==(⟨#[48]⟩:ByteArray).toList)=false) (hd1:(d.toList==(⟨#[49]⟩:ByteArray).toList)=false) (h6:decide ((600:Int)<(k:Int))=false) (h7:decide ((600:Int)<((t.size-k:Nat):Int)-1)=false) (hp:Fits Tryz.prog 44 [rS t] (.tup [.ag [.lit (.bool false),.sp (csDi n)],.ag [.lit (.bool false),.sp (csDi m)]])) (hg:Fits Tryz.prog 45 [di n,di m] (di g)) (hg0:0<g) (hgb:B9≤g):Fits Tryz.prog 12 [rS s] (.fv (.sc (.lit (.int .i64 1)))):=by
 refine rgo Tryz.func12 (by kernel_rfl) fun w00=>?_
 refine rlen 9 9 Tryz.underlying9 s ?_
 refine rgt 10 0 (s.size:Nat) true h0 ?_
 refine ridn 13 s hc ?_
 refine rsl1 17 9 Tryz.underlying9 s t h1 hext ?_
 refine rcall 42 [rS t] hsl (by kernel_rfl) Tryz.call42 ?_
 refine rshi 21 22 9 Tryz.underlying9 t (k) a hk ha ?_
 refine rcall 43 [rS a] fa (by kernel_rfl) Tryz.call43 ?_
 refine ridnR 27 s hc ?_
 refine rshi 31 32 9 Tryz.underlying9 t (k) a hk ha ?_
 refine rseq 33 9 a ⟨#[48]⟩ false hz ?_
 refine rlen 38 9 Tryz.underlying9 t ?_
 refine rlss 37 39 (k:Int) (t.size:Nat) true hlt ?_
 refine radd 43 (k) (by omega) ?_
 refine rslo 42 44 9 Tryz.underlying9 t (k+1) d (by omega) hd ?_
 refine rcall 43 [rS d] fd (by kernel_rfl) Tryz.call43 ?_
 refine radd 50 (k) (by omega) ?_
 refine rslo 49 51 9 Tryz.underlying9 t (k+1) d (by omega) hd ?_
 refine rseq 52 9 d ⟨#[48]⟩ false hd0 ?_
 refine radd 57 (k) (by omega) ?_
 refine rslo 56 58 9 Tryz.underlying9 t (k+1) d (by omega) hd ?_
 refine rseq 59 9 d ⟨#[49]⟩ false hd1 ?_
 refine rgt 63 600 (k:Int) false h6 ?_
 refine rlen 66 9 Tryz.underlying9 t ?_
 refine rsub 67 68 (t.size) (k) hk (by omega) ?_
 refine rop2 (.binOp .sub 3 (.tmp 69) (.const (.int .i64 1)) 3) (.tmp 69) (.const (.int .i64 1)) (rI ((t.size-k:Nat):Int)) (.fv (.sc (.lit (.int .i64 1)))) (rI (((t.size-k:Nat):Int)-1)) (by kernel_rfl) (by simp [Op.operands]) (by simp [Op.operands]) (fun ρ o β w ho hx hy=>⟨_,sub1_run ho (r_is hx) (r_lit hy) (by omega),is_r⟩) ?_
 refine rgt 70 600 (((t.size-k:Nat):Int)-1) false h7 ?_
 refine rlen 74 9 Tryz.underlying9 t ?_
 refine rlss 73 75 (k:Int) (t.size:Nat) true hlt ?_
 refine rcall 44 [rS t] hp (by kernel_rfl) Tryz.call44 ?_
 refine rcall 45 [di n,di m] hg (by kernel_rfl) Tryz.call45 ?_
 refine rop2 (.call ⟨.builtin .len,#[.tmp 87],#[82]⟩) (.tmp 87) (.tmp 87) (di g) (di g) rNe (by kernel_rfl) (by simp [Op.operands,Call.operands]) (by simp [Op.operands,Call.operands]) (fun ρ o β w ho hx _=>?_) ?_
 ·obtain ⟨A,m,c,e,hm⟩:=di_more (di_holds.1 hx) hgb
  exact ⟨_,len_di ho e,⟨(m:Int),rfl,by omega⟩⟩
 refine rop2 (.binOp .neq 3 (.tmp 88) (.const (.int .i64 1)) 3) (.tmp 88) (.const (.int .i64 1)) rNe (.fv (.sc (.lit (.int .i64 1)))) (rl true) (by kernel_rfl) (by simp [Op.operands]) (by simp [Op.operands]) (fun ρ o β w ho hx hy=>?_) ?_
 ·obtain ⟨m,e,hm⟩:=hx
  injection e with e
  exact ⟨.bool true,ine_run ho e (r_lit hy) (by simpa using hm),rlit rfl⟩
 exact rret Tryz.func12 (by kernel_rfl)
theorem check_Gn (h0:decide ((0:Int)<(s.size:Nat))=true) (hc:∃ h:0<s.size,(s[0]'h).toNat=45) (h1:1≤s.size) (hext:s.extract 1 s.size=t) (hts:t.size≤1000000000) (hk:k≤t.size) (hsl:Fits Tryz.prog 42 [rS t] (rI (k:Int))) (ha:t.extract 0 k=a) (fa:Fits Tryz.prog 43 [rS a] (rl true)) (hz:(a.toList==(⟨#[48]⟩:ByteArray).toList)=false) (hlt:decide ((k:Int)<(t.size:Nat))=true) (hk1:k<t.size) (hd:t.extract (k+1) t.size=d) (fd:Fits Tryz.prog 43 [rS d] (rl true)) (hd0:(d.toList==(⟨#[48]⟩:ByteArray).toList)=false) (hd1:(d.toList==(⟨#[49]⟩:ByteArray).toList)=false) (h6:decide ((600:Int)<(k:Int))=false) (h7:decide ((600:Int)<((t.size-k:Nat):Int)-1)=false) (hp:Fits Tryz.prog 44 [rS t] (.tup [.ag [.lit (.bool false),.sp (csDi n)],.ag [.lit (.bool false),.sp (csDi m)]])) (hg:Fits Tryz.prog 45 [di n,di m] (di g)) (hg0:0<g) (hgb:g<B9) (hg1:g≠1):Fits Tryz.prog 12 [rS s] (.fv (.sc (.lit (.int .i64 1)))):=by
 refine rgo Tryz.func12 (by kernel_rfl) fun w00=>?_
 refine rlen 9 9 Tryz.underlying9 s ?_
 refine rgt 10 0 (s.size:Nat) true h0 ?_
 refine ridn 13 s hc ?_
 refine rsl1 17 9 Tryz.underlying9 s t h1 hext ?_
 refine rcall 42 [rS t] hsl (by kernel_rfl) Tryz.call42 ?_
 refine rshi 21 22 9 Tryz.underlying9 t (k) a hk ha ?_
 refine rcall 43 [rS a] fa (by kernel_rfl) Tryz.call43 ?_
 refine ridnR 27 s hc ?_
 refine rshi 31 32 9 Tryz.underlying9 t (k) a hk ha ?_
 refine rseq 33 9 a ⟨#[48]⟩ false hz ?_
 refine rlen 38 9 Tryz.underlying9 t ?_
 refine rlss 37 39 (k:Int) (t.size:Nat) true hlt ?_
 refine radd 43 (k) (by omega) ?_
 refine rslo 42 44 9 Tryz.underlying9 t (k+1) d (by omega) hd ?_
 refine rcall 43 [rS d] fd (by kernel_rfl) Tryz.call43 ?_
 refine radd 50 (k) (by omega) ?_
 refine rslo 49 51 9 Tryz.underlying9 t (k+1) d (by omega) hd ?_
 refine rseq 52 9 d ⟨#[48]⟩ false hd0 ?_
 refine radd 57 (k) (by omega) ?_
 refine rslo 56 58 9 Tryz.underlying9 t (k+1) d (by omega) hd ?_
 refine rseq 59 9 d ⟨#[49]⟩ false hd1 ?_
 refine rgt 63 600 (k:Int) false h6 ?_
 refine rlen 66 9 Tryz.underlying9 t ?_
 refine rsub 67 68 (t.size) (k) hk (by omega) ?_
 refine rop2 (.binOp .sub 3 (.tmp 69) (.const (.int .i64 1)) 3) (.tmp 69) (.const (.int .i64 1)) (rI ((t.size-k:Nat):Int)) (.fv (.sc (.lit (.int .i64 1)))) (rI (((t.size-k:Nat):Int)-1)) (by kernel_rfl) (by simp [Op.operands]) (by simp [Op.operands]) (fun ρ o β w ho hx hy=>⟨_,sub1_run ho (r_is hx) (r_lit hy) (by omega),is_r⟩) ?_
 refine rgt 70 600 (((t.size-k:Nat):Int)-1) false h7 ?_
 refine rlen 74 9 Tryz.underlying9 t ?_
 refine rlss 73 75 (k:Int) (t.size:Nat) true hlt ?_
 refine rcall 44 [rS t] hp (by kernel_rfl) Tryz.call44 ?_
 refine rcall 45 [di n,di m] hg (by kernel_rfl) Tryz.call45 ?_
 refine rop2 (.call ⟨.builtin .len,#[.tmp 87],#[82]⟩) (.tmp 87) (.tmp 87) (di g) (di g) (.fv (.sc (.lit (.int .i64 1)))) (by kernel_rfl) (by simp [Op.operands,Call.operands]) (by simp [Op.operands,Call.operands]) (fun ρ o β w ho hx _=>?_) ?_
 ·obtain ⟨ad,c,e,_⟩:=di_one (di_holds.1 hx) hg0 hgb
  exact ⟨_,len_di ho e,rlit rfl⟩
 refine rop2 (.indexAddr 82 (.tmp 91) (.const (.int .i64 0))) (.tmp 91) (.const (.int .i64 0)) (di g) (.fv (.sc (.lit (.int .i64 0)))) (rP g) (by kernel_rfl) (by simp [Op.operands]) (by simp [Op.operands]) (fun ρ o β w ho hx hy=>?_) ?_
 ·obtain ⟨ad,c,e,hc⟩:=di_one (di_holds.1 hx) hg0 hgb
  exact ⟨_,index_di ho e (r_lit hy) (by omega),⟨ad,rfl,hc⟩⟩
 refine rop2 (.load 3 (.tmp 92)) (.tmp 92) (.tmp 92) (rP g) (rP g) (rI (g:Int)) (by kernel_rfl) (by simp [Op.operands]) (by simp [Op.operands]) (fun ρ o β w ho hx _=>?_) ?_
 ·obtain ⟨ad,e,hc⟩:=hx
  injection e with e
  exact ⟨_,load_i ho e hc,is_r⟩
 refine rop2 (.binOp .neq 3 (.tmp 93) (.const (.int .i64 1)) 3) (.tmp 93) (.const (.int .i64 1)) (rI (g:Int)) (.fv (.sc (.lit (.int .i64 1)))) (rl true) (by kernel_rfl) (by simp [Op.operands]) (by simp [Op.operands]) (fun ρ o β w ho hx hy=>⟨.bool true,ine_run ho (r_is hx) (r_lit hy) (by simp;omega),rlit rfl⟩) ?_
 exact rret Tryz.func12 (by kernel_rfl)
theorem check_OKn (h0:decide ((0:Int)<(s.size:Nat))=true) (hc:∃ h:0<s.size,(s[0]'h).toNat=45) (h1:1≤s.size) (hext:s.extract 1 s.size=t) (hts:t.size≤1000000000) (hk:k≤t.size) (hsl:Fits Tryz.prog 42 [rS t] (rI (k:Int))) (ha:t.extract 0 k=a) (fa:Fits Tryz.prog 43 [rS a] (rl true)) (hz:(a.toList==(⟨#[48]⟩:ByteArray).toList)=false) (hlt:decide ((k:Int)<(t.size:Nat))=true) (hk1:k<t.size) (hd:t.extract (k+1) t.size=d) (fd:Fits Tryz.prog 43 [rS d] (rl true)) (hd0:(d.toList==(⟨#[48]⟩:ByteArray).toList)=false) (hd1:(d.toList==(⟨#[49]⟩:ByteArray).toList)=false) (h6:decide ((600:Int)<(k:Int))=false) (h7:decide ((600:Int)<((t.size-k:Nat):Int)-1)=false) (hp:Fits Tryz.prog 44 [rS t] (.tup [.ag [.lit (.bool false),.sp (csDi n)],.ag [.lit (.bool false),.sp (csDi m)]])) (hg:Fits Tryz.prog 45 [di n,di m] (di g)) (hg0:0<g) (hgb:g<B9) (hg1:g=1):Fits Tryz.prog 12 [rS s] (.fv (.sc (.lit (.int .i64 0)))):=by
 refine rgo Tryz.func12 (by kernel_rfl) fun w00=>?_
 refine rlen 9 9 Tryz.underlying9 s ?_
 refine rgt 10 0 (s.size:Nat) true h0 ?_
 refine ridn 13 s hc ?_
 refine rsl1 17 9 Tryz.underlying9 s t h1 hext ?_
 refine rcall 42 [rS t] hsl (by kernel_rfl) Tryz.call42 ?_
 refine rshi 21 22 9 Tryz.underlying9 t (k) a hk ha ?_
 refine rcall 43 [rS a] fa (by kernel_rfl) Tryz.call43 ?_
 refine ridnR 27 s hc ?_
 refine rshi 31 32 9 Tryz.underlying9 t (k) a hk ha ?_
 refine rseq 33 9 a ⟨#[48]⟩ false hz ?_
 refine rlen 38 9 Tryz.underlying9 t ?_
 refine rlss 37 39 (k:Int) (t.size:Nat) true hlt ?_
 refine radd 43 (k) (by omega) ?_
 refine rslo 42 44 9 Tryz.underlying9 t (k+1) d (by omega) hd ?_
 refine rcall 43 [rS d] fd (by kernel_rfl) Tryz.call43 ?_
 refine radd 50 (k) (by omega) ?_
 refine rslo 49 51 9 Tryz.underlying9 t (k+1) d (by omega) hd ?_
 refine rseq 52 9 d ⟨#[48]⟩ false hd0 ?_
 refine radd 57 (k) (by omega) ?_
 refine rslo 56 58 9 Tryz.underlying9 t (k+1) d (by omega) hd ?_
 refine rseq 59 9 d ⟨#[49]⟩ false hd1 ?_
 refine rgt 63 600 (k:Int) false h6 ?_
 refine rlen 66 9 Tryz.underlying9 t ?_
 refine rsub 67 68 (t.size) (k) hk (by omega) ?_
 refine rop2 (.binOp .sub 3 (.tmp 69) (.const (.int .i64 1)) 3) (.tmp 69) (.const (.int .i64 1)) (rI ((t.size-k:Nat):Int)) (.fv (.sc (.lit (.int .i64 1)))) (rI (((t.size-k:Nat):Int)-1)) (by kernel_rfl) (by simp [Op.operands]) (by simp [Op.operands]) (fun ρ o β w ho hx hy=>⟨_,sub1_run ho (r_is hx) (r_lit hy) (by omega),is_r⟩) ?_
 refine rgt 70 600 (((t.size-k:Nat):Int)-1) false h7 ?_
 refine rlen 74 9 Tryz.underlying9 t ?_
 refine rlss 73 75 (k:Int) (t.size:Nat) true hlt ?_
 refine rcall 44 [rS t] hp (by kernel_rfl) Tryz.call44 ?_
 refine rcall 45 [di n,di m] hg (by kernel_rfl) Tryz.call45 ?_
 refine rop2 (.call ⟨.builtin .len,#[.tmp 87],#[82]⟩) (.tmp 87) (.tmp 87) (di g) (di g) (.fv (.sc (.lit (.int .i64 1)))) (by kernel_rfl) (by simp [Op.operands,Call.operands]) (by simp [Op.operands,Call.operands]) (fun ρ o β w ho hx _=>?_) ?_
 ·obtain ⟨ad,c,e,_⟩:=di_one (di_holds.1 hx) hg0 hgb
  exact ⟨_,len_di ho e,rlit rfl⟩
 refine rop2 (.indexAddr 82 (.tmp 91) (.const (.int .i64 0))) (.tmp 91) (.const (.int .i64 0)) (di g) (.fv (.sc (.lit (.int .i64 0)))) (rP g) (by kernel_rfl) (by simp [Op.operands]) (by simp [Op.operands]) (fun ρ o β w ho hx hy=>?_) ?_
 ·obtain ⟨ad,c,e,hc⟩:=di_one (di_holds.1 hx) hg0 hgb
  exact ⟨_,index_di ho e (r_lit hy) (by omega),⟨ad,rfl,hc⟩⟩
 refine rop2 (.load 3 (.tmp 92)) (.tmp 92) (.tmp 92) (rP g) (rP g) (.fv (.sc (.lit (.int .i64 1)))) (by kernel_rfl) (by simp [Op.operands]) (by simp [Op.operands]) (fun ρ o β w ho hx _=>?_) ?_
 ·obtain ⟨ad,e,hc⟩:=hx
  injection e with e
  rw [hg1] at hc
  exact ⟨_,load_i ho e hc,rlit rfl⟩
 exact rret Tryz.func12 (by kernel_rfl)
theorem check_Ap (h0:decide ((0:Int)<(s.size:Nat))=true) (hc:∃ h:0<s.size,(s[0]'h).toNat=c) (hc45:((c:Int)==45)=false) (hts:s.size≤1000000000) (hk:k≤s.size) (hsl:Fits Tryz.prog 42 [rS s] (rI (k:Int))) (ha:s.extract 0 k=a) (fa:Fits Tryz.prog 43 [rS a] (rl false)):Fits Tryz.prog 12 [rS s] (.fv (.sc (.lit (.int .i64 1)))):=by
 refine rgo Tryz.func12 (by kernel_rfl) fun w00=>?_
 refine rlen 9 9 Tryz.underlying9 s ?_
 refine rgt 10 0 (s.size:Nat) true h0 ?_
 refine ridp 13 s c hc ?_
 refine rueq 14 c hc45 ?_
 refine rcall 42 [rS s] hsl (by kernel_rfl) Tryz.call42 ?_
 refine rshi 21 22 9 Tryz.underlying9 s (k) a hk ha ?_
 refine rcall 43 [rS a] fa (by kernel_rfl) Tryz.call43 ?_
 exact rret Tryz.func12 (by kernel_rfl)
theorem check_K4p (h0:decide ((0:Int)<(s.size:Nat))=true) (hc:∃ h:0<s.size,(s[0]'h).toNat=c) (hc45:((c:Int)==45)=false) (hts:s.size≤1000000000) (hk:k≤s.size) (hsl:Fits Tryz.prog 42 [rS s] (rI (k:Int))) (ha:s.extract 0 k=a) (fa:Fits Tryz.prog 43 [rS a] (rl true)) (hlt:decide ((k:Int)<(s.size:Nat))=false) (h6:decide ((600:Int)<(k:Int))=true):Fits Tryz.prog 12 [rS s] (.fv (.sc (.lit (.int .i64 4)))):=by
 refine rgo Tryz.func12 (by kernel_rfl) fun w00=>?_
 refine rlen 9 9 Tryz.underlying9 s ?_
 refine rgt 10 0 (s.size:Nat) true h0 ?_
 refine ridp 13 s c hc ?_
 refine rueq 14 c hc45 ?_
 refine rcall 42 [rS s] hsl (by kernel_rfl) Tryz.call42 ?_
 refine rshi 21 22 9 Tryz.underlying9 s (k) a hk ha ?_
 refine rcall 43 [rS a] fa (by kernel_rfl) Tryz.call43 ?_
 refine ridpR 27 s c hc ?_
 refine rueq 28 c hc45 ?_
 refine rlen 38 9 Tryz.underlying9 s ?_
 refine rlss 37 39 (k:Int) (s.size:Nat) false hlt ?_
 refine rgt 63 600 (k:Int) true h6 ?_
 exact rret Tryz.func12 (by kernel_rfl)
theorem check_K0p (h0:decide ((0:Int)<(s.size:Nat))=true) (hc:∃ h:0<s.size,(s[0]'h).toNat=c) (hc45:((c:Int)==45)=false) (hts:s.size≤1000000000) (hk:k≤s.size) (hsl:Fits Tryz.prog 42 [rS s] (rI (k:Int))) (ha:s.extract 0 k=a) (fa:Fits Tryz.prog 43 [rS a] (rl true)) (hlt:decide ((k:Int)<(s.size:Nat))=false) (h6:decide ((600:Int)<(k:Int))=false) (h7:decide ((600:Int)<((s.size-k:Nat):Int)-1)=false):Fits Tryz.prog 12 [rS s] (.fv (.sc (.lit (.int .i64 0)))):=by
 refine rgo Tryz.func12 (by kernel_rfl) fun w00=>?_
 refine rlen 9 9 Tryz.underlying9 s ?_
 refine rgt 10 0 (s.size:Nat) true h0 ?_
 refine ridp 13 s c hc ?_
 refine rueq 14 c hc45 ?_
 refine rcall 42 [rS s] hsl (by kernel_rfl) Tryz.call42 ?_
 refine rshi 21 22 9 Tryz.underlying9 s (k) a hk ha ?_
 refine rcall 43 [rS a] fa (by kernel_rfl) Tryz.call43 ?_
 refine ridpR 27 s c hc ?_
 refine rueq 28 c hc45 ?_
 refine rlen 38 9 Tryz.underlying9 s ?_
 refine rlss 37 39 (k:Int) (s.size:Nat) false hlt ?_
 refine rgt 63 600 (k:Int) false h6 ?_
 refine rlen 66 9 Tryz.underlying9 s ?_
 refine rsub 67 68 (s.size) (k) hk (by omega) ?_
 refine rop2 (.binOp .sub 3 (.tmp 69) (.const (.int .i64 1)) 3) (.tmp 69) (.const (.int .i64 1)) (rI ((s.size-k:Nat):Int)) (.fv (.sc (.lit (.int .i64 1)))) (rI (((s.size-k:Nat):Int)-1)) (by kernel_rfl) (by simp [Op.operands]) (by simp [Op.operands]) (fun ρ o β w ho hx hy=>⟨_,sub1_run ho (r_is hx) (r_lit hy) (by omega),is_r⟩) ?_
 refine rgt 70 600 (((s.size-k:Nat):Int)-1) false h7 ?_
 refine rlen 74 9 Tryz.underlying9 s ?_
 refine rlss 73 75 (k:Int) (s.size:Nat) false hlt ?_
 exact rret Tryz.func12 (by kernel_rfl)
theorem check_Dp (h0:decide ((0:Int)<(s.size:Nat))=true) (hc:∃ h:0<s.size,(s[0]'h).toNat=c) (hc45:((c:Int)==45)=false) (hts:s.size≤1000000000) (hk:k≤s.size) (hsl:Fits Tryz.prog 42 [rS s] (rI (k:Int))) (ha:s.extract 0 k=a) (fa:Fits Tryz.prog 43 [rS a] (rl true)) (hlt:decide ((k:Int)<(s.size:Nat))=true) (hk1:k<s.size) (hd:s.extract (k+1) s.size=d) (fd:Fits Tryz.prog 43 [rS d] (rl false)):Fits Tryz.prog 12 [rS s] (.fv (.sc (.lit (.int .i64 1)))):=by
 refine rgo Tryz.func12 (by kernel_rfl) fun w00=>?_
 refine rlen 9 9 Tryz.underlying9 s ?_
 refine rgt 10 0 (s.size:Nat) true h0 ?_
 refine ridp 13 s c hc ?_
 refine rueq 14 c hc45 ?_
 refine rcall 42 [rS s] hsl (by kernel_rfl) Tryz.call42 ?_
 refine rshi 21 22 9 Tryz.underlying9 s (k) a hk ha ?_
 refine rcall 43 [rS a] fa (by kernel_rfl) Tryz.call43 ?_
 refine ridpR 27 s c hc ?_
 refine rueq 28 c hc45 ?_
 refine rlen 38 9 Tryz.underlying9 s ?_
 refine rlss 37 39 (k:Int) (s.size:Nat) true hlt ?_
 refine radd 43 (k) (by omega) ?_
 refine rslo 42 44 9 Tryz.underlying9 s (k+1) d (by omega) hd ?_
 refine rcall 43 [rS d] fd (by kernel_rfl) Tryz.call43 ?_
 exact rret Tryz.func12 (by kernel_rfl)
theorem check_D0p (h0:decide ((0:Int)<(s.size:Nat))=true) (hc:∃ h:0<s.size,(s[0]'h).toNat=c) (hc45:((c:Int)==45)=false) (hts:s.size≤1000000000) (hk:k≤s.size) (hsl:Fits Tryz.prog 42 [rS s] (rI (k:Int))) (ha:s.extract 0 k=a) (fa:Fits Tryz.prog 43 [rS a] (rl true)) (hlt:decide ((k:Int)<(s.size:Nat))=true) (hk1:k<s.size) (hd:s.extract (k+1) s.size=d) (fd:Fits Tryz.prog 43 [rS d] (rl true)) (hd0:(d.toList==(⟨#[48]⟩:ByteArray).toList)=true):Fits Tryz.prog 12 [rS s] (.fv (.sc (.lit (.int .i64 1)))):=by
 refine rgo Tryz.func12 (by kernel_rfl) fun w00=>?_
 refine rlen 9 9 Tryz.underlying9 s ?_
 refine rgt 10 0 (s.size:Nat) true h0 ?_
 refine ridp 13 s c hc ?_
 refine rueq 14 c hc45 ?_
 refine rcall 42 [rS s] hsl (by kernel_rfl) Tryz.call42 ?_
 refine rshi 21 22 9 Tryz.underlying9 s (k) a hk ha ?_
 refine rcall 43 [rS a] fa (by kernel_rfl) Tryz.call43 ?_
 refine ridpR 27 s c hc ?_
 refine rueq 28 c hc45 ?_
 refine rlen 38 9 Tryz.underlying9 s ?_
 refine rlss 37 39 (k:Int) (s.size:Nat) true hlt ?_
 refine radd 43 (k) (by omega) ?_
 refine rslo 42 44 9 Tryz.underlying9 s (k+1) d (by omega) hd ?_
 refine rcall 43 [rS d] fd (by kernel_rfl) Tryz.call43 ?_
 refine radd 50 (k) (by omega) ?_
 refine rslo 49 51 9 Tryz.underlying9 s (k+1) d (by omega) hd ?_
 refine rseq 52 9 d ⟨#[48]⟩ true hd0 ?_
 exact rret Tryz.func12 (by kernel_rfl)
theorem check_D1p (h0:decide ((0:Int)<(s.size:Nat))=true) (hc:∃ h:0<s.size,(s[0]'h).toNat=c) (hc45:((c:Int)==45)=false) (hts:s.size≤1000000000) (hk:k≤s.size) (hsl:Fits Tryz.prog 42 [rS s] (rI (k:Int))) (ha:s.extract 0 k=a) (fa:Fits Tryz.prog 43 [rS a] (rl true)) (hlt:decide ((k:Int)<(s.size:Nat))=true) (hk1:k<s.size) (hd:s.extract (k+1) s.size=d) (fd:Fits Tryz.prog 43 [rS d] (rl true)) (hd0:(d.toList==(⟨#[48]⟩:ByteArray).toList)=false) (hd1:(d.toList==(⟨#[49]⟩:ByteArray).toList)=true):Fits Tryz.prog 12 [rS s] (.fv (.sc (.lit (.int .i64 1)))):=by
 refine rgo Tryz.func12 (by kernel_rfl) fun w00=>?_
 refine rlen 9 9 Tryz.underlying9 s ?_
 refine rgt 10 0 (s.size:Nat) true h0 ?_
 refine ridp 13 s c hc ?_
 refine rueq 14 c hc45 ?_
 refine rcall 42 [rS s] hsl (by kernel_rfl) Tryz.call42 ?_
 refine rshi 21 22 9 Tryz.underlying9 s (k) a hk ha ?_
 refine rcall 43 [rS a] fa (by kernel_rfl) Tryz.call43 ?_
 refine ridpR 27 s c hc ?_
 refine rueq 28 c hc45 ?_
 refine rlen 38 9 Tryz.underlying9 s ?_
 refine rlss 37 39 (k:Int) (s.size:Nat) true hlt ?_
 refine radd 43 (k) (by omega) ?_
 refine rslo 42 44 9 Tryz.underlying9 s (k+1) d (by omega) hd ?_
 refine rcall 43 [rS d] fd (by kernel_rfl) Tryz.call43 ?_
 refine radd 50 (k) (by omega) ?_
 refine rslo 49 51 9 Tryz.underlying9 s (k+1) d (by omega) hd ?_
 refine rseq 52 9 d ⟨#[48]⟩ false hd0 ?_
 refine radd 57 (k) (by omega) ?_
 refine rslo 56 58 9 Tryz.underlying9 s (k+1) d (by omega) hd ?_
 refine rseq 59 9 d ⟨#[49]⟩ true hd1 ?_
 exact rret Tryz.func12 (by kernel_rfl)
theorem check_L1p (h0:decide ((0:Int)<(s.size:Nat))=true) (hc:∃ h:0<s.size,(s[0]'h).toNat=c) (hc45:((c:Int)==45)=false) (hts:s.size≤1000000000) (hk:k≤s.size) (hsl:Fits Tryz.prog 42 [rS s] (rI (k:Int))) (ha:s.extract 0 k=a) (fa:Fits Tryz.prog 43 [rS a] (rl true)) (hlt:decide ((k:Int)<(s.size:Nat))=true) (hk1:k<s.size) (hd:s.extract (k+1) s.size=d) (fd:Fits Tryz.prog 43 [rS d] (rl true)) (hd0:(d.toList==(⟨#[48]⟩:ByteArray).toList)=false) (hd1:(d.toList==(⟨#[49]⟩:ByteArray).toList)=false) (h6:decide ((600:Int)<(k:Int))=true):Fits Tryz.prog 12 [rS s] (.fv (.sc (.lit (.int .i64 4)))):=by
 refine rgo Tryz.func12 (by kernel_rfl) fun w00=>?_
 refine rlen 9 9 Tryz.underlying9 s ?_
 refine rgt 10 0 (s.size:Nat) true h0 ?_
 refine ridp 13 s c hc ?_
 refine rueq 14 c hc45 ?_
 refine rcall 42 [rS s] hsl (by kernel_rfl) Tryz.call42 ?_
 refine rshi 21 22 9 Tryz.underlying9 s (k) a hk ha ?_
 refine rcall 43 [rS a] fa (by kernel_rfl) Tryz.call43 ?_
 refine ridpR 27 s c hc ?_
 refine rueq 28 c hc45 ?_
 refine rlen 38 9 Tryz.underlying9 s ?_
 refine rlss 37 39 (k:Int) (s.size:Nat) true hlt ?_
 refine radd 43 (k) (by omega) ?_
 refine rslo 42 44 9 Tryz.underlying9 s (k+1) d (by omega) hd ?_
 refine rcall 43 [rS d] fd (by kernel_rfl) Tryz.call43 ?_
 refine radd 50 (k) (by omega) ?_
 refine rslo 49 51 9 Tryz.underlying9 s (k+1) d (by omega) hd ?_
 refine rseq 52 9 d ⟨#[48]⟩ false hd0 ?_
 refine radd 57 (k) (by omega) ?_
 refine rslo 56 58 9 Tryz.underlying9 s (k+1) d (by omega) hd ?_
 refine rseq 59 9 d ⟨#[49]⟩ false hd1 ?_
 refine rgt 63 600 (k:Int) true h6 ?_
 exact rret Tryz.func12 (by kernel_rfl)
theorem check_L2p (h0:decide ((0:Int)<(s.size:Nat))=true) (hc:∃ h:0<s.size,(s[0]'h).toNat=c) (hc45:((c:Int)==45)=false) (hts:s.size≤1000000000) (hk:k≤s.size) (hsl:Fits Tryz.prog 42 [rS s] (rI (k:Int))) (ha:s.extract 0 k=a) (fa:Fits Tryz.prog 43 [rS a] (rl true)) (hlt:decide ((k:Int)<(s.size:Nat))=true) (hk1:k<s.size) (hd:s.extract (k+1) s.size=d) (fd:Fits Tryz.prog 43 [rS d] (rl true)) (hd0:(d.toList==(⟨#[48]⟩:ByteArray).toList)=false) (hd1:(d.toList==(⟨#[49]⟩:ByteArray).toList)=false) (h6:decide ((600:Int)<(k:Int))=false) (h7:decide ((600:Int)<((s.size-k:Nat):Int)-1)=true):Fits Tryz.prog 12 [rS s] (.fv (.sc (.lit (.int .i64 4)))):=by
 refine rgo Tryz.func12 (by kernel_rfl) fun w00=>?_
 refine rlen 9 9 Tryz.underlying9 s ?_
 refine rgt 10 0 (s.size:Nat) true h0 ?_
 refine ridp 13 s c hc ?_
 refine rueq 14 c hc45 ?_
 refine rcall 42 [rS s] hsl (by kernel_rfl) Tryz.call42 ?_
 refine rshi 21 22 9 Tryz.underlying9 s (k) a hk ha ?_
 refine rcall 43 [rS a] fa (by kernel_rfl) Tryz.call43 ?_
 refine ridpR 27 s c hc ?_
 refine rueq 28 c hc45 ?_
 refine rlen 38 9 Tryz.underlying9 s ?_
 refine rlss 37 39 (k:Int) (s.size:Nat) true hlt ?_
 refine radd 43 (k) (by omega) ?_
 refine rslo 42 44 9 Tryz.underlying9 s (k+1) d (by omega) hd ?_
 refine rcall 43 [rS d] fd (by kernel_rfl) Tryz.call43 ?_
 refine radd 50 (k) (by omega) ?_
 refine rslo 49 51 9 Tryz.underlying9 s (k+1) d (by omega) hd ?_
 refine rseq 52 9 d ⟨#[48]⟩ false hd0 ?_
 refine radd 57 (k) (by omega) ?_
 refine rslo 56 58 9 Tryz.underlying9 s (k+1) d (by omega) hd ?_
 refine rseq 59 9 d ⟨#[49]⟩ false hd1 ?_
 refine rgt 63 600 (k:Int) false h6 ?_
 refine rlen 66 9 Tryz.underlying9 s ?_
 refine rsub 67 68 (s.size) (k) hk (by omega) ?_
 refine rop2 (.binOp .sub 3 (.tmp 69) (.const (.int .i64 1)) 3) (.tmp 69) (.const (.int .i64 1)) (rI ((s.size-k:Nat):Int)) (.fv (.sc (.lit (.int .i64 1)))) (rI (((s.size-k:Nat):Int)-1)) (by kernel_rfl) (by simp [Op.operands]) (by simp [Op.operands]) (fun ρ o β w ho hx hy=>⟨_,sub1_run ho (r_is hx) (r_lit hy) (by omega),is_r⟩) ?_
 refine rgt 70 600 (((s.size-k:Nat):Int)-1) true h7 ?_
 exact rret Tryz.func12 (by kernel_rfl)
theorem check_GBp (h0:decide ((0:Int)<(s.size:Nat))=true) (hc:∃ h:0<s.size,(s[0]'h).toNat=c) (hc45:((c:Int)==45)=false) (hts:s.size≤1000000000) (hk:k≤s.size) (hsl:Fits Tryz.prog 42 [rS s] (rI (k:Int))) (ha:s.extract 0 k=a) (fa:Fits Tryz.prog 43 [rS a] (rl true)) (hlt:decide ((k:Int)<(s.size:Nat))=true) (hk1:k<s.size) (hd:s.extract (k+1) s.size=d) (fd:Fits Tryz.prog 43 [rS d] (rl true)) (hd0:(d.toList==(⟨#[48]⟩:ByteArray).toList)=false) (hd1:(d.toList==(⟨#[49]⟩:ByteArray).toList)=false) (h6:decide ((600:Int)<(k:Int))=false) (h7:decide ((600:Int)<((s.size-k:Nat):Int)-1)=false) (hp:Fits Tryz.prog 44 [rS s] (.tup [.ag [.lit (.bool false),.sp (csDi n)],.ag [.lit (.bool false),.sp (csDi m)]])) (hg:Fits Tryz.prog 45 [di n,di m] (di g)) (hg0:0<g) (hgb:B9≤g):Fits Tryz.prog 12 [rS s] (.fv (.sc (.lit (.int .i64 1)))):=by
 refine rgo Tryz.func12 (by kernel_rfl) fun w00=>?_
 refine rlen 9 9 Tryz.underlying9 s ?_
 refine rgt 10 0 (s.size:Nat) true h0 ?_
 refine ridp 13 s c hc ?_
 refine rueq 14 c hc45 ?_
 refine rcall 42 [rS s] hsl (by kernel_rfl) Tryz.call42 ?_
 refine rshi 21 22 9 Tryz.underlying9 s (k) a hk ha ?_
 refine rcall 43 [rS a] fa (by kernel_rfl) Tryz.call43 ?_
 refine ridpR 27 s c hc ?_
 refine rueq 28 c hc45 ?_
 refine rlen 38 9 Tryz.underlying9 s ?_
 refine rlss 37 39 (k:Int) (s.size:Nat) true hlt ?_
 refine radd 43 (k) (by omega) ?_
 refine rslo 42 44 9 Tryz.underlying9 s (k+1) d (by omega) hd ?_
 refine rcall 43 [rS d] fd (by kernel_rfl) Tryz.call43 ?_
 refine radd 50 (k) (by omega) ?_
 refine rslo 49 51 9 Tryz.underlying9 s (k+1) d (by omega) hd ?_
 refine rseq 52 9 d ⟨#[48]⟩ false hd0 ?_
 refine radd 57 (k) (by omega) ?_
 refine rslo 56 58 9 Tryz.underlying9 s (k+1) d (by omega) hd ?_
 refine rseq 59 9 d ⟨#[49]⟩ false hd1 ?_
 refine rgt 63 600 (k:Int) false h6 ?_
 refine rlen 66 9 Tryz.underlying9 s ?_
 refine rsub 67 68 (s.size) (k) hk (by omega) ?_
 refine rop2 (.binOp .sub 3 (.tmp 69) (.const (.int .i64 1)) 3) (.tmp 69) (.const (.int .i64 1)) (rI ((s.size-k:Nat):Int)) (.fv (.sc (.lit (.int .i64 1)))) (rI (((s.size-k:Nat):Int)-1)) (by kernel_rfl) (by simp [Op.operands]) (by simp [Op.operands]) (fun ρ o β w ho hx hy=>⟨_,sub1_run ho (r_is hx) (r_lit hy) (by omega),is_r⟩) ?_
 refine rgt 70 600 (((s.size-k:Nat):Int)-1) false h7 ?_
 refine rlen 74 9 Tryz.underlying9 s ?_
 refine rlss 73 75 (k:Int) (s.size:Nat) true hlt ?_
 refine rcall 44 [rS s] hp (by kernel_rfl) Tryz.call44 ?_
 refine rcall 45 [di n,di m] hg (by kernel_rfl) Tryz.call45 ?_
 refine rop2 (.call ⟨.builtin .len,#[.tmp 87],#[82]⟩) (.tmp 87) (.tmp 87) (di g) (di g) rNe (by kernel_rfl) (by simp [Op.operands,Call.operands]) (by simp [Op.operands,Call.operands]) (fun ρ o β w ho hx _=>?_) ?_
 ·obtain ⟨A,m,c,e,hm⟩:=di_more (di_holds.1 hx) hgb
  exact ⟨_,len_di ho e,⟨(m:Int),rfl,by omega⟩⟩
 refine rop2 (.binOp .neq 3 (.tmp 88) (.const (.int .i64 1)) 3) (.tmp 88) (.const (.int .i64 1)) rNe (.fv (.sc (.lit (.int .i64 1)))) (rl true) (by kernel_rfl) (by simp [Op.operands]) (by simp [Op.operands]) (fun ρ o β w ho hx hy=>?_) ?_
 ·obtain ⟨m,e,hm⟩:=hx
  injection e with e
  exact ⟨.bool true,ine_run ho e (r_lit hy) (by simpa using hm),rlit rfl⟩
 exact rret Tryz.func12 (by kernel_rfl)
theorem check_Gp (h0:decide ((0:Int)<(s.size:Nat))=true) (hc:∃ h:0<s.size,(s[0]'h).toNat=c) (hc45:((c:Int)==45)=false) (hts:s.size≤1000000000) (hk:k≤s.size) (hsl:Fits Tryz.prog 42 [rS s] (rI (k:Int))) (ha:s.extract 0 k=a) (fa:Fits Tryz.prog 43 [rS a] (rl true)) (hlt:decide ((k:Int)<(s.size:Nat))=true) (hk1:k<s.size) (hd:s.extract (k+1) s.size=d) (fd:Fits Tryz.prog 43 [rS d] (rl true)) (hd0:(d.toList==(⟨#[48]⟩:ByteArray).toList)=false) (hd1:(d.toList==(⟨#[49]⟩:ByteArray).toList)=false) (h6:decide ((600:Int)<(k:Int))=false) (h7:decide ((600:Int)<((s.size-k:Nat):Int)-1)=false) (hp:Fits Tryz.prog 44 [rS s] (.tup [.ag [.lit (.bool false),.sp (csDi n)],.ag [.lit (.bool false),.sp (csDi m)]])) (hg:Fits Tryz.prog 45 [di n,di m] (di g)) (hg0:0<g) (hgb:g<B9) (hg1:g≠1):Fits Tryz.prog 12 [rS s] (.fv (.sc (.lit (.int .i64 1)))):=by
 refine rgo Tryz.func12 (by kernel_rfl) fun w00=>?_
 refine rlen 9 9 Tryz.underlying9 s ?_
 refine rgt 10 0 (s.size:Nat) true h0 ?_
 refine ridp 13 s c hc ?_
 refine rueq 14 c hc45 ?_
 refine rcall 42 [rS s] hsl (by kernel_rfl) Tryz.call42 ?_
 refine rshi 21 22 9 Tryz.underlying9 s (k) a hk ha ?_
 refine rcall 43 [rS a] fa (by kernel_rfl) Tryz.call43 ?_
 refine ridpR 27 s c hc ?_
 refine rueq 28 c hc45 ?_
 refine rlen 38 9 Tryz.underlying9 s ?_
 refine rlss 37 39 (k:Int) (s.size:Nat) true hlt ?_
 refine radd 43 (k) (by omega) ?_
 refine rslo 42 44 9 Tryz.underlying9 s (k+1) d (by omega) hd ?_
 refine rcall 43 [rS d] fd (by kernel_rfl) Tryz.call43 ?_
 refine radd 50 (k) (by omega) ?_
 refine rslo 49 51 9 Tryz.underlying9 s (k+1) d (by omega) hd ?_
 refine rseq 52 9 d ⟨#[48]⟩ false hd0 ?_
 refine radd 57 (k) (by omega) ?_
 refine rslo 56 58 9 Tryz.underlying9 s (k+1) d (by omega) hd ?_
 refine rseq 59 9 d ⟨#[49]⟩ false hd1 ?_
 refine rgt 63 600 (k:Int) false h6 ?_
 refine rlen 66 9 Tryz.underlying9 s ?_
 refine rsub 67 68 (s.size) (k) hk (by omega) ?_
 refine rop2 (.binOp .sub 3 (.tmp 69) (.const (.int .i64 1)) 3) (.tmp 69) (.const (.int .i64 1)) (rI ((s.size-k:Nat):Int)) (.fv (.sc (.lit (.int .i64 1)))) (rI (((s.size-k:Nat):Int)-1)) (by kernel_rfl) (by simp [Op.operands]) (by simp [Op.operands]) (fun ρ o β w ho hx hy=>⟨_,sub1_run ho (r_is hx) (r_lit hy) (by omega),is_r⟩) ?_
 refine rgt 70 600 (((s.size-k:Nat):Int)-1) false h7 ?_
 refine rlen 74 9 Tryz.underlying9 s ?_
 refine rlss 73 75 (k:Int) (s.size:Nat) true hlt ?_
 refine rcall 44 [rS s] hp (by kernel_rfl) Tryz.call44 ?_
 refine rcall 45 [di n,di m] hg (by kernel_rfl) Tryz.call45 ?_
 refine rop2 (.call ⟨.builtin .len,#[.tmp 87],#[82]⟩) (.tmp 87) (.tmp 87) (di g) (di g) (.fv (.sc (.lit (.int .i64 1)))) (by kernel_rfl) (by simp [Op.operands,Call.operands]) (by simp [Op.operands,Call.operands]) (fun ρ o β w ho hx _=>?_) ?_
 ·obtain ⟨ad,c,e,_⟩:=di_one (di_holds.1 hx) hg0 hgb
  exact ⟨_,len_di ho e,rlit rfl⟩
 refine rop2 (.indexAddr 82 (.tmp 91) (.const (.int .i64 0))) (.tmp 91) (.const (.int .i64 0)) (di g) (.fv (.sc (.lit (.int .i64 0)))) (rP g) (by kernel_rfl) (by simp [Op.operands]) (by simp [Op.operands]) (fun ρ o β w ho hx hy=>?_) ?_
 ·obtain ⟨ad,c,e,hc⟩:=di_one (di_holds.1 hx) hg0 hgb
  exact ⟨_,index_di ho e (r_lit hy) (by omega),⟨ad,rfl,hc⟩⟩
 refine rop2 (.load 3 (.tmp 92)) (.tmp 92) (.tmp 92) (rP g) (rP g) (rI (g:Int)) (by kernel_rfl) (by simp [Op.operands]) (by simp [Op.operands]) (fun ρ o β w ho hx _=>?_) ?_
 ·obtain ⟨ad,e,hc⟩:=hx
  injection e with e
  exact ⟨_,load_i ho e hc,is_r⟩
 refine rop2 (.binOp .neq 3 (.tmp 93) (.const (.int .i64 1)) 3) (.tmp 93) (.const (.int .i64 1)) (rI (g:Int)) (.fv (.sc (.lit (.int .i64 1)))) (rl true) (by kernel_rfl) (by simp [Op.operands]) (by simp [Op.operands]) (fun ρ o β w ho hx hy=>⟨.bool true,ine_run ho (r_is hx) (r_lit hy) (by simp;omega),rlit rfl⟩) ?_
 exact rret Tryz.func12 (by kernel_rfl)
theorem check_OKp (h0:decide ((0:Int)<(s.size:Nat))=true) (hc:∃ h:0<s.size,(s[0]'h).toNat=c) (hc45:((c:Int)==45)=false) (hts:s.size≤1000000000) (hk:k≤s.size) (hsl:Fits Tryz.prog 42 [rS s] (rI (k:Int))) (ha:s.extract 0 k=a) (fa:Fits Tryz.prog 43 [rS a] (rl true)) (hlt:decide ((k:Int)<(s.size:Nat))=true) (hk1:k<s.size) (hd:s.extract (k+1) s.size=d) (fd:Fits Tryz.prog 43 [rS d] (rl true)) (hd0:(d.toList==(⟨#[48]⟩:ByteArray).toList)=false) (hd1:(d.toList==(⟨#[49]⟩:ByteArray).toList)=false) (h6:decide ((600:Int)<(k:Int))=false) (h7:decide ((600:Int)<((s.size-k:Nat):Int)-1)=false) (hp:Fits Tryz.prog 44 [rS s] (.tup [.ag [.lit (.bool false),.sp (csDi n)],.ag [.lit (.bool false),.sp (csDi m)]])) (hg:Fits Tryz.prog 45 [di n,di m] (di g)) (hg0:0<g) (hgb:g<B9) (hg1:g=1):Fits Tryz.prog 12 [rS s] (.fv (.sc (.lit (.int .i64 0)))):=by
 refine rgo Tryz.func12 (by kernel_rfl) fun w00=>?_
 refine rlen 9 9 Tryz.underlying9 s ?_
 refine rgt 10 0 (s.size:Nat) true h0 ?_
 refine ridp 13 s c hc ?_
 refine rueq 14 c hc45 ?_
 refine rcall 42 [rS s] hsl (by kernel_rfl) Tryz.call42 ?_
 refine rshi 21 22 9 Tryz.underlying9 s (k) a hk ha ?_
 refine rcall 43 [rS a] fa (by kernel_rfl) Tryz.call43 ?_
 refine ridpR 27 s c hc ?_
 refine rueq 28 c hc45 ?_
 refine rlen 38 9 Tryz.underlying9 s ?_
 refine rlss 37 39 (k:Int) (s.size:Nat) true hlt ?_
 refine radd 43 (k) (by omega) ?_
 refine rslo 42 44 9 Tryz.underlying9 s (k+1) d (by omega) hd ?_
 refine rcall 43 [rS d] fd (by kernel_rfl) Tryz.call43 ?_
 refine radd 50 (k) (by omega) ?_
 refine rslo 49 51 9 Tryz.underlying9 s (k+1) d (by omega) hd ?_
 refine rseq 52 9 d ⟨#[48]⟩ false hd0 ?_
 refine radd 57 (k) (by omega) ?_
 refine rslo 56 58 9 Tryz.underlying9 s (k+1) d (by omega) hd ?_
 refine rseq 59 9 d ⟨#[49]⟩ false hd1 ?_
 refine rgt 63 600 (k:Int) false h6 ?_
 refine rlen 66 9 Tryz.underlying9 s ?_
 refine rsub 67 68 (s.size) (k) hk (by omega) ?_
 refine rop2 (.binOp .sub 3 (.tmp 69) (.const (.int .i64 1)) 3) (.tmp 69) (.const (.int .i64 1)) (rI ((s.size-k:Nat):Int)) (.fv (.sc (.lit (.int .i64 1)))) (rI (((s.size-k:Nat):Int)-1)) (by kernel_rfl) (by simp [Op.operands]) (by simp [Op.operands]) (fun ρ o β w ho hx hy=>⟨_,sub1_run ho (r_is hx) (r_lit hy) (by omega),is_r⟩) ?_
 refine rgt 70 600 (((s.size-k:Nat):Int)-1) false h7 ?_
 refine rlen 74 9 Tryz.underlying9 s ?_
 refine rlss 73 75 (k:Int) (s.size:Nat) true hlt ?_
 refine rcall 44 [rS s] hp (by kernel_rfl) Tryz.call44 ?_
 refine rcall 45 [di n,di m] hg (by kernel_rfl) Tryz.call45 ?_
 refine rop2 (.call ⟨.builtin .len,#[.tmp 87],#[82]⟩) (.tmp 87) (.tmp 87) (di g) (di g) (.fv (.sc (.lit (.int .i64 1)))) (by kernel_rfl) (by simp [Op.operands,Call.operands]) (by simp [Op.operands,Call.operands]) (fun ρ o β w ho hx _=>?_) ?_
 ·obtain ⟨ad,c,e,_⟩:=di_one (di_holds.1 hx) hg0 hgb
  exact ⟨_,len_di ho e,rlit rfl⟩
 refine rop2 (.indexAddr 82 (.tmp 91) (.const (.int .i64 0))) (.tmp 91) (.const (.int .i64 0)) (di g) (.fv (.sc (.lit (.int .i64 0)))) (rP g) (by kernel_rfl) (by simp [Op.operands]) (by simp [Op.operands]) (fun ρ o β w ho hx hy=>?_) ?_
 ·obtain ⟨ad,c,e,hc⟩:=di_one (di_holds.1 hx) hg0 hgb
  exact ⟨_,index_di ho e (r_lit hy) (by omega),⟨ad,rfl,hc⟩⟩
 refine rop2 (.load 3 (.tmp 92)) (.tmp 92) (.tmp 92) (rP g) (rP g) (.fv (.sc (.lit (.int .i64 1)))) (by kernel_rfl) (by simp [Op.operands]) (by simp [Op.operands]) (fun ρ o β w ho hx _=>?_) ?_
 ·obtain ⟨ad,e,hc⟩:=hx
  injection e with e
  rw [hg1] at hc
  exact ⟨_,load_i ho e hc,rlit rfl⟩
 exact rret Tryz.func12 (by kernel_rfl)
end
end Go.Proofs.YtggkobpggnamoaaGreatDoor.Ab
