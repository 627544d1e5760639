/- Parts of the proof, joined. -/
import Derived.Test.YtpjknnddanhgkaaGreatDoorJ7
import Derived.Test.YtpjknnddanhgkaaGreatDoorJ6
import Derived.KernelRfl
import Derived.Test.YtpjknnddanhgkaaGreatDoorJ1
import Derived.Laws.Tables
import Derived.Laws.StructEq
import Derived.Test.YtpjknnddanhgkaaGreatDoorJ5
import Derived.WalkKit
import Derived.ProofKit
import Derived.OpenShut
import Derived.Deep.DeepHandedRow
import Derived.Deep.DeepWitnessRowRef
import Derived.Lib.LaidTab
import Derived.Stop.LaidErr
import Derived.Shelf.Vars
import Derived.Lay
set_option maxHeartbeats 4000000
set_option linter.unusedSimpArgs false
set_option linter.unusedVariables false
set_option linter.constructorNameAsVariable false
namespace Go.Proofs.YtpjknnddanhgkaaGreatDoor
section
open Go.RowKit Pl
theorem decForm_any (s:ByteArray) (w:World) (hs:s.size≤9223372036854775807):Calls Tryz.prog 43 #[.string s] w fun e w'=>e = .returned (.bool (Ab.decF s))∧w'=w:=by
 have cd:=aH (fun W=>digits_any s W hs)
 by_cases h0:s.size=0
 ·have hr:Ab.decF s=false:=by unfold Ab.decF;rw [if_pos h0]
  have k0:(s.size:Int)=0:=by omega
  rw [hr]
  clear hr h0 cd
  go_enter Tryz.func43,Tryz.ntmps43
  go_wp2
  go_ret
  exact ⟨rfl,rfl⟩
 ·have hp:0<s.size:=by omega
  obtain ⟨c,hc⟩:∃ c:Nat,(s[0]'hp).toNat=c:=⟨_,rfl⟩
  have hh:(aC s).head?=some 48↔c=48:=by
   have h1:=dA hp
   rw [List.head?_eq_getElem?,h1,← hc]
   constructor
   ·intro h;injection h with h;rw [h];rfl
   ·intro h;congr 1;exact UInt8.toNat_inj.1 h
  have k0:((s.size:Int)==0)=false:=by rw [beq_eq_false_iff_ne];omega
  have p0:(0:Int)<s.size:=by omega
  obtain ⟨r,hr⟩:∃ r,r=Ab.decF s:=⟨_,rfl⟩
  rw [← hr]
  unfold Ab.decF at hr
  rw [if_neg h0] at hr
  by_cases h1:1<s.size
  ·have k1:(1:Int)<s.size:=by omega
   by_cases h48:c=48
   ·rw [if_pos ⟨h1,hh.2 h48⟩] at hr
    subst h48
    have HR:=aH hr
    clear hr hh h1 h0 cd
    go_enter Tryz.func43,Tryz.ntmps43
    go_wp2
    go_ret
    exact ⟨by rw [HR.out];rfl,rfl⟩
   ·rw [if_neg (fun h=>h48 (hh.1 h.2))] at hr
    have k2:((c:Int)==48)=false:=by simp;omega
    have k3:¬ (c:Int)=48:=by omega
    have HR:=aH hr
    clear hr hh h1 h0 h48
    go_enter Tryz.func43,Tryz.ntmps43
    go_wp2_with fail
    refine (cd.out _).mono ?_
    rintro e w' ⟨rfl,rfl⟩
    go_wp2
    go_ret
    exact ⟨by rw [HR.out];rfl,rfl⟩
  ·rw [if_neg (fun h=>h1 h.1)] at hr
   have k1:¬ (1:Int)<s.size:=by omega
   have HR:=aH hr
   clear hr hh h1 h0
   go_enter Tryz.func43,Tryz.ntmps43
   go_wp2_with fail
   refine (cd.out _).mono ?_
   rintro e w' ⟨rfl,rfl⟩
   go_wp2
   go_ret
   exact ⟨by rw [HR.out];rfl,rfl⟩
end
namespace Ab
open Go.RowKit Pl
theorem nZ {s:ByteArray} (hs:s.size≤9223372036854775807):jF 43 [rS s] (rl (decF s)):=by
 intro β w vs hv
 obtain ⟨v,rfl,h1⟩:=dQ hv
 rw [bA h1]
 exact (decForm_any s w hs).mono fun e w' ⟨e1,e2⟩=>⟨_,e1,by rw [e2];exact aB _ _,eO rfl⟩
theorem lit_I {z:Int} (β:List Nat) (v:Value) (w:World) (h:(AV.fv (.sc (.lit (.int .i64 z))):AV Kr).holds β v w):(rI z).holds β v w:=h.1
theorem kJ {a b:ByteArray} (h:a≠b):(a.toList==b.toList)=false:=by
 rw [beq_eq_false_iff_ne]
 intro e
 apply h
 rw [Go.ByteArray.toList_eq,Go.ByteArray.toList_eq] at e
 exact ba_ext e
theorem neg_head {s:ByteArray} (h:jJ s=true):∃ h:0<s.size,(s[0]'h).toNat=45:=by
 have hh:(aC s).head?=some 45:=eq_of_beq h
 have hp:0<s.size:=by
  rcases Nat.eq_zero_or_pos s.size with e|e
  ·rw [← aG] at e
   rw [List.eq_nil_of_length_eq_zero e] at hh
   cases hh
  ·exact e
 refine ⟨hp,?_⟩
 rw [List.head?_eq_getElem?,dA hp] at hh
 injection hh with hh
 rw [hh];rfl
theorem pos_head {s:ByteArray} (hp:0<s.size) (h:jJ s=false):∃ c:Nat,(∃ h:0<s.size,(s[0]'h).toNat=c)∧((c:Int)==45)=false:=by
 refine ⟨_,⟨hp,rfl⟩,?_⟩
 have hh:¬ (aC s).head?=some 45:=by unfold jJ at h;rw [beq_eq_false_iff_ne] at h;exact h
 rw [beq_eq_false_iff_ne]
 intro e
 apply hh
 rw [List.head?_eq_getElem?,dA hp]
 congr 1
 apply UInt8.toNat_inj.1
 show (s[0]'hp).toNat=45
 omega
theorem partsT {t:ByteArray} {k n m:Nat} (hts:t.size≤1000000000) (hk:aJ t=k) (hlt:k<t.size) (ha:t.extract 0 k=decB n) (hd:t.extract (k+1) t.size=decB m) (hn:(decB n).size≤100000) (hm:(decB m).size≤100000) :
 jF 44 [rS t] (.tup [.ag [.lit (.bool false),.sp (wF n)],.ag [.lit (.bool false),.sp (wF m)]]):=by
 have hsl:=eS (s:=t) (by omega)
 rw [hk] at hsl
 refine jT Tryz.func44 fun w00=>?_
 refine jB 42 [rS t] hsl ?_
 refine jL (.call ⟨.builtin .len,#[.tmp 10],#[9]⟩) (.tmp 10) (.tmp 10) (rS t) (rS t) (rI t.size) (fun ρ o β w ho hx _=>⟨_,qU ho Tryz.underlying9 (bA hx),dE⟩) ?_
 refine jL (.binOp .eql 3 (.tmp 9) (.tmp 11) 3) (.tmp 9) (.tmp 11) (rI (k:Int)) (rI t.size) (rl false) (fun ρ o β w ho hx hy=>⟨.bool false,gH ho (bA hx) (bA hy) (by simp;omega),eO rfl⟩) ?_
 refine jL (.slice 9 (.tmp 16) none (some (.tmp 17)) none) (.tmp 16) (.tmp 17) (rS t) (rI (k:Int)) (rS (decB n)) (fun ρ o β w ho hx hy=>?_) ?_
 ·have:=nU (w:=w) ho Tryz.underlying9 (bA hx) (bA hy) (by omega)
  rw [ha] at this
  exact ⟨_,this,dE⟩
 refine jB 101 [rS (decB n)] (zS hn) ?_
 refine jL (.binOp .add 3 (.tmp 21) (.const (.int .i64 1)) 3) (.tmp 21) (.const (.int .i64 1)) (rI (k:Int)) (.fv (.sc (.lit (.int .i64 1)))) (rI ((k+1:Nat):Int)) (fun ρ o β w ho hx hy=>⟨_,qV ho (bA hx) (bV hy) (by omega),dE⟩) ?_
 refine jL (.slice 9 (.tmp 20) (some (.tmp 22)) none none) (.tmp 20) (.tmp 22) (rS t) (rI ((k+1:Nat):Int)) (rS (decB m)) (fun ρ o β w ho hx hy=>?_) ?_
 ·have:=nV (w:=w) ho Tryz.underlying9 (bA hx) (bA hy) (by omega)
  rw [hd] at this
  exact ⟨_,this,dE⟩
 refine jB 101 [rS (decB m)] (zS hm) ?_
 exact jS Tryz.func44
theorem eU {f:FuncId} {w00:World} {c:Cfg Kr} {fn:Func} {z:Int} (hfn:Tryz.prog.funcs[f]?=some fn) (hc:c.res Tryz.prog fn=some (.fv (.sc (.lit (.int .i64 z))))):Ok Tryz.prog f w00 (fun v w=>(rI z).holds [] v w) c :=
 ⟨good_ret hfn _ hc fun _ _ _ h=>h.1⟩
theorem check_neg {s:ByteArray} {z:Int} (hs:s.size≤9223372036854775807) (hne:0<s.size) (hn:jJ s=true) (hz:fQ s=z):jF 12 [rS s] (rI z):=by
 have hc:=neg_head hn
 have h1:1≤s.size:=hne
 have hsp:bK s=s.extract 1 s.size:=if_pos hn
 unfold fQ at hz
 rw [hn] at hz
 obtain ⟨t,hext⟩:∃ t,s.extract 1 s.size=t:=⟨_,rfl⟩
 rw [hsp,hext] at hz
 have hts:t.size<9223372036854775807:=by rw [← hext,ByteArray.size_extract];omega
 have hsl:=eS (s:=t) (by omega)
 have hkl:=cB t
 have hks:aJ t=aJ t:=rfl
 generalize hk:aJ t=k at hsl hkl hks hz
 obtain ⟨a,ha⟩:∃ a,t.extract 0 k=a:=⟨_,rfl⟩
 obtain ⟨d,hd⟩:∃ d,t.extract (k+1) t.size=d:=⟨_,rfl⟩
 have hasz:a.size=k:=by rw [← ha,ByteArray.size_extract];omega
 have hdsz:d.size=t.size-(k+1):=by rw [← hd,ByteArray.size_extract];omega
 rw [ha,hd] at hz
 have fa:=nZ (s:=a) (by omega)
 have fd:=nZ (s:=d) (by omega)
 refine jT Tryz.func12 fun w00=>?_
 refine cR 9 9 Tryz.underlying9 s ?_
 refine iI 10 0 (s.size:Nat) true (by rw [decide_eq_true_iff];omega) ?_
 refine ridn 13 s hc ?_
 refine rsl1 17 9 Tryz.underlying9 s t h1 hext ?_
 refine jB 42 [rS t] hsl ?_
 refine rshi 21 22 9 Tryz.underlying9 t k a hkl ha ?_
 by_cases c1:decF a=false
 ·rw [if_pos (.inl c1)] at hz
  subst hz
  rw [c1] at fa
  refine jB 43 [rS a] fa ?_
  exact eU Tryz.func12 (by kernel_rfl)
 rw [Bool.not_eq_false] at c1
 rw [c1] at fa
 refine jB 43 [rS a] fa ?_
 refine ridnR 27 s hc ?_
 refine rshi 31 32 9 Tryz.underlying9 t k a hkl ha ?_
 by_cases cz:a=zeroT
 ·rw [if_pos (.inr ⟨rfl,cz⟩)] at hz
  subst hz
  refine sN 33 9 a ⟨#[48]⟩ true (by rw [cz];exact beq_self_eq_true zeroT.toList) ?_
  exact eU Tryz.func12 (by kernel_rfl)
 refine sN 33 9 a ⟨#[48]⟩ false (kJ cz) ?_
 rw [if_neg (by rintro (h|h);exact absurd (h.symm.trans c1) (by decide);exact cz h.2)] at hz
 refine cR 38 9 Tryz.underlying9 t ?_
 by_cases hlt:k<t.size
 ·have fl:decide ((k:Int)<(t.size:Nat))=true:=by rw [decide_eq_true_iff];omega
  refine tT 37 39 (k:Int) (t.size:Nat) true fl ?_
  refine zV 43 k (by omega) ?_
  refine zU 42 44 9 Tryz.underlying9 t (k+1) d (by omega) hd ?_
  by_cases d1:decF d=false
  ·rw [if_pos ⟨hlt,.inl d1⟩] at hz
   subst hz
   rw [d1] at fd
   refine jB 43 [rS d] fd ?_
   exact eU Tryz.func12 (by kernel_rfl)
  rw [Bool.not_eq_false] at d1
  rw [d1] at fd
  refine jB 43 [rS d] fd ?_
  refine zV 50 k (by omega) ?_
  refine zU 49 51 9 Tryz.underlying9 t (k+1) d (by omega) hd ?_
  by_cases d0:d=zeroT
  ·rw [if_pos ⟨hlt,.inr (.inl d0)⟩] at hz
   subst hz
   refine sN 52 9 d ⟨#[48]⟩ true (by rw [d0];exact beq_self_eq_true zeroT.toList) ?_
   exact eU Tryz.func12 (by kernel_rfl)
  refine sN 52 9 d ⟨#[48]⟩ false (kJ d0) ?_
  refine zV 57 k (by omega) ?_
  refine zU 56 58 9 Tryz.underlying9 t (k+1) d (by omega) hd ?_
  by_cases d2:d=oneT
  ·rw [if_pos ⟨hlt,.inr (.inr d2)⟩] at hz
   subst hz
   refine sN 59 9 d ⟨#[49]⟩ true (by rw [d2];exact beq_self_eq_true oneT.toList) ?_
   exact eU Tryz.func12 (by kernel_rfl)
  refine sN 59 9 d ⟨#[49]⟩ false (kJ d2) ?_
  rw [if_neg (by rintro ⟨_,h|h|h⟩;exact absurd (h.symm.trans d1) (by decide);exact d0 h;exact d2 h)] at hz
  by_cases l1:600<k
  ·rw [if_pos (.inl l1)] at hz
   subst hz
   refine iI 63 600 (k:Int) true (by rw [decide_eq_true_iff];omega) ?_
   exact eU Tryz.func12 (by kernel_rfl)
  refine iI 63 600 (k:Int) false (by rw [decide_eq_false_iff_not];omega) ?_
  refine cR 66 9 Tryz.underlying9 t ?_
  refine wT 67 68 t.size k hkl (by omega) ?_
  refine jL (.binOp .sub 3 (.tmp 69) (.const (.int .i64 1)) 3) (.tmp 69) (.const (.int .i64 1)) (rI ((t.size-k:Nat):Int)) (.fv (.sc (.lit (.int .i64 1)))) (rI (((t.size-k:Nat):Int)-1)) (fun ρ o β w ho hx hy=>⟨_,rE ho (bA hx) (bV hy) (by omega),dE⟩) ?_
  by_cases l2:600<t.size-k-1
  ·rw [if_pos (.inr l2)] at hz
   subst hz
   refine iI 70 600 (((t.size-k:Nat):Int)-1) true (by rw [decide_eq_true_iff];omega) ?_
   exact eU Tryz.func12 (by kernel_rfl)
  refine iI 70 600 (((t.size-k:Nat):Int)-1) false (by rw [decide_eq_false_iff_not];omega) ?_
  rw [if_neg (by rintro (h|h) <;> omega)] at hz
  refine cR 74 9 Tryz.underlying9 t ?_
  refine tT 73 75 (k:Int) (t.size:Nat) true fl ?_
  have hae:=oK c1
  have hde:=oK d1
  generalize aT (aC a)=n at hae hz
  generalize aT (aC d)=m at hde hz
  have hp:=partsT (t:=t) (by omega) hk hlt (ha.trans hae) (hd.trans hde) (by rw [← hae];omega) (by rw [← hde];omega)
  have hm0:0<m:=Nat.pos_of_ne_zero fun e=>d0 (by rw [hde,e,dec0];rfl)
  have hg0:0<Nat.gcd n m:=Nat.gcd_pos_of_pos_right _ hm0
  have hg:=qR (a:=n) (b:=m) (gL (mS (n:=n) (k:=600) (by rw [← hae];omega)) (by omega)) (gL (mS (n:=m) (k:=600) (by rw [← hde];omega)) (by omega))
  obtain ⟨g,hgg⟩:∃ g,Nat.gcd n m=g:=⟨_,rfl⟩
  rw [hgg] at hg hg0
  simp only [hgg] at hz
  refine jB 44 [rS t] hp ?_
  refine jB 45 [di n,di m] hg ?_
  rcases Nat.lt_or_ge g B9 with gb|gb
  ·refine jL (.call ⟨.builtin .len,#[.tmp 87],#[82]⟩) (.tmp 87) (.tmp 87) (di g) (di g) (.fv (.sc (.lit (.int .i64 1)))) (fun ρ o β w ho hx _=>?_) ?_
   ·obtain ⟨ad,c,e,_⟩:=nT (bD.1 hx) hg0 gb
    exact ⟨_,pQ ho e,eO rfl⟩
   refine jL (.indexAddr 82 (.tmp 91) (.const (.int .i64 0))) (.tmp 91) (.const (.int .i64 0)) (di g) (.fv (.sc (.lit (.int .i64 0)))) (rP g) (fun ρ o β w ho hx hy=>?_) ?_
   ·obtain ⟨ad,c,e,hc⟩:=nT (bD.1 hx) hg0 gb
    exact ⟨_,qS ho e (bV hy) (by omega),⟨ad,rfl,hc⟩⟩
   refine jL (.load 3 (.tmp 92)) (.tmp 92) (.tmp 92) (rP g) (rP g) (rI (g:Int)) (fun ρ o β w ho hx _=>?_) ?_
   ·obtain ⟨ad,e,hc⟩:=hx
    injection e with e
    exact ⟨_,zR ho e hc,dE⟩
   have hne:(((g:Int) != 1) = !decide (g=1)):=by rw [Bool.eq_iff_iff];simp;omega
   by_cases g1:g=1
   ·rw [if_neg (by rintro ⟨_,h⟩;exact h g1)] at hz
    subst hz
    refine jL (.binOp .neq 3 (.tmp 93) (.const (.int .i64 1)) 3) (.tmp 93) (.const (.int .i64 1)) (rI (g:Int)) (.fv (.sc (.lit (.int .i64 1)))) (rl false) (fun ρ o β w ho hx hy=>⟨.bool false,oL ho (bA hx) (bV hy) (by rw [hne];simp [g1]),eO rfl⟩) ?_
    exact eU Tryz.func12 (by kernel_rfl)
   ·rw [if_pos ⟨hlt,g1⟩] at hz
    subst hz
    refine jL (.binOp .neq 3 (.tmp 93) (.const (.int .i64 1)) 3) (.tmp 93) (.const (.int .i64 1)) (rI (g:Int)) (.fv (.sc (.lit (.int .i64 1)))) (rl true) (fun ρ o β w ho hx hy=>⟨.bool true,oL ho (bA hx) (bV hy) (by rw [hne];simp [g1]),eO rfl⟩) ?_
    exact eU Tryz.func12 (by kernel_rfl)
  ·rw [if_pos ⟨hlt,by have:=eE;omega⟩] at hz
   subst hz
   refine jL (.call ⟨.builtin .len,#[.tmp 87],#[82]⟩) (.tmp 87) (.tmp 87) (di g) (di g) rNe (fun ρ o β w ho hx _=>?_) ?_
   ·obtain ⟨A,m,c,e,hm⟩:=zQ (bD.1 hx) gb
    exact ⟨_,pQ ho e,⟨(m:Int),rfl,by omega⟩⟩
   refine jL (.binOp .neq 3 (.tmp 88) (.const (.int .i64 1)) 3) (.tmp 88) (.const (.int .i64 1)) rNe (.fv (.sc (.lit (.int .i64 1)))) (rl true) (fun ρ o β w ho hx hy=>?_) ?_
   ·obtain ⟨x,e,hm⟩:=hx
    injection e with e
    exact ⟨.bool true,oL ho e (bV hy) (by simpa using hm),eO rfl⟩
   exact eU Tryz.func12 (by kernel_rfl)
 ·have fl:decide ((k:Int)<(t.size:Nat))=false:=by rw [decide_eq_false_iff_not];omega
  refine tT 37 39 (k:Int) (t.size:Nat) false fl ?_
  rw [if_neg (fun h=>hlt h.1)] at hz
  by_cases l1:600<k
  ·rw [if_pos (.inl l1)] at hz
   subst hz
   refine iI 63 600 (k:Int) true (by rw [decide_eq_true_iff];omega) ?_
   exact eU Tryz.func12 (by kernel_rfl)
  rw [if_neg (by rintro (h|h) <;> omega),if_neg (fun h=>hlt h.1)] at hz
  subst hz
  refine iI 63 600 (k:Int) false (by rw [decide_eq_false_iff_not];omega) ?_
  refine cR 66 9 Tryz.underlying9 t ?_
  refine wT 67 68 t.size k hkl (by omega) ?_
  refine jL (.binOp .sub 3 (.tmp 69) (.const (.int .i64 1)) 3) (.tmp 69) (.const (.int .i64 1)) (rI ((t.size-k:Nat):Int)) (.fv (.sc (.lit (.int .i64 1)))) (rI (((t.size-k:Nat):Int)-1)) (fun ρ o β w ho hx hy=>⟨_,rE ho (bA hx) (bV hy) (by omega),dE⟩) ?_
  refine iI 70 600 (((t.size-k:Nat):Int)-1) false (by rw [decide_eq_false_iff_not];omega) ?_
  refine cR 74 9 Tryz.underlying9 t ?_
  refine tT 73 75 (k:Int) (t.size:Nat) false fl ?_
  exact eU Tryz.func12 (by kernel_rfl)
theorem check_pos {s:ByteArray} {z:Int} (hs:s.size≤9223372036854775807) (hne:0<s.size) (hn:jJ s=false) (hz:fQ s=z):jF 12 [rS s] (rI z):=by
 obtain ⟨c,hc,hc45⟩:=pos_head hne hn
 have hsp:bK s=s:=if_neg (by rw [hn];exact Bool.false_ne_true)
 unfold fQ at hz
 rw [hn,hsp] at hz
 have hts:=hs
 have hsl:=eS (s:=s) (by omega)
 have hkl:=cB s
 have hks:aJ s=aJ s:=rfl
 generalize hk:aJ s=k at hsl hkl hks hz
 obtain ⟨a,ha⟩:∃ a,s.extract 0 k=a:=⟨_,rfl⟩
 obtain ⟨d,hd⟩:∃ d,s.extract (k+1) s.size=d:=⟨_,rfl⟩
 have hasz:a.size=k:=by rw [← ha,ByteArray.size_extract];omega
 have hdsz:d.size=s.size-(k+1):=by rw [← hd,ByteArray.size_extract];omega
 rw [ha,hd] at hz
 have fa:=nZ (s:=a) (by omega)
 have fd:=nZ (s:=d) (by omega)
 refine jT Tryz.func12 fun w00=>?_
 refine cR 9 9 Tryz.underlying9 s ?_
 refine iI 10 0 (s.size:Nat) true (by rw [decide_eq_true_iff];omega) ?_
 refine ridp 13 s c hc ?_
 refine rueq 14 c hc45 ?_
 refine jB 42 [rS s] hsl ?_
 refine rshi 21 22 9 Tryz.underlying9 s k a hkl ha ?_
 by_cases c1:decF a=false
 ·rw [if_pos (.inl c1)] at hz
  subst hz
  rw [c1] at fa
  refine jB 43 [rS a] fa ?_
  exact eU Tryz.func12 (by kernel_rfl)
 rw [Bool.not_eq_false] at c1
 rw [c1] at fa
 refine jB 43 [rS a] fa ?_
 refine ridpR 27 s c hc ?_
 refine rueq 28 c hc45 ?_
 rw [if_neg (by rintro (h|h);exact absurd (h.symm.trans c1) (by decide);exact absurd h.1 (by decide))] at hz
 refine cR 38 9 Tryz.underlying9 s ?_
 by_cases hlt:k<s.size
 ·have fl:decide ((k:Int)<(s.size:Nat))=true:=by rw [decide_eq_true_iff];omega
  refine tT 37 39 (k:Int) (s.size:Nat) true fl ?_
  refine zV 43 k (by omega) ?_
  refine zU 42 44 9 Tryz.underlying9 s (k+1) d (by omega) hd ?_
  by_cases d1:decF d=false
  ·rw [if_pos ⟨hlt,.inl d1⟩] at hz
   subst hz
   rw [d1] at fd
   refine jB 43 [rS d] fd ?_
   exact eU Tryz.func12 (by kernel_rfl)
  rw [Bool.not_eq_false] at d1
  rw [d1] at fd
  refine jB 43 [rS d] fd ?_
  refine zV 50 k (by omega) ?_
  refine zU 49 51 9 Tryz.underlying9 s (k+1) d (by omega) hd ?_
  by_cases d0:d=zeroT
  ·rw [if_pos ⟨hlt,.inr (.inl d0)⟩] at hz
   subst hz
   refine sN 52 9 d ⟨#[48]⟩ true (by rw [d0];exact beq_self_eq_true zeroT.toList) ?_
   exact eU Tryz.func12 (by kernel_rfl)
  refine sN 52 9 d ⟨#[48]⟩ false (kJ d0) ?_
  refine zV 57 k (by omega) ?_
  refine zU 56 58 9 Tryz.underlying9 s (k+1) d (by omega) hd ?_
  by_cases d2:d=oneT
  ·rw [if_pos ⟨hlt,.inr (.inr d2)⟩] at hz
   subst hz
   refine sN 59 9 d ⟨#[49]⟩ true (by rw [d2];exact beq_self_eq_true oneT.toList) ?_
   exact eU Tryz.func12 (by kernel_rfl)
  refine sN 59 9 d ⟨#[49]⟩ false (kJ d2) ?_
  rw [if_neg (by rintro ⟨_,h|h|h⟩;exact absurd (h.symm.trans d1) (by decide);exact d0 h;exact d2 h)] at hz
  by_cases l1:600<k
  ·rw [if_pos (.inl l1)] at hz
   subst hz
   refine iI 63 600 (k:Int) true (by rw [decide_eq_true_iff];omega) ?_
   exact eU Tryz.func12 (by kernel_rfl)
  refine iI 63 600 (k:Int) false (by rw [decide_eq_false_iff_not];omega) ?_
  refine cR 66 9 Tryz.underlying9 s ?_
  refine wT 67 68 s.size k hkl (by omega) ?_
  refine jL (.binOp .sub 3 (.tmp 69) (.const (.int .i64 1)) 3) (.tmp 69) (.const (.int .i64 1)) (rI ((s.size-k:Nat):Int)) (.fv (.sc (.lit (.int .i64 1)))) (rI (((s.size-k:Nat):Int)-1)) (fun ρ o β w ho hx hy=>⟨_,rE ho (bA hx) (bV hy) (by omega),dE⟩) ?_
  by_cases l2:600<s.size-k-1
  ·rw [if_pos (.inr l2)] at hz
   subst hz
   refine iI 70 600 (((s.size-k:Nat):Int)-1) true (by rw [decide_eq_true_iff];omega) ?_
   exact eU Tryz.func12 (by kernel_rfl)
  refine iI 70 600 (((s.size-k:Nat):Int)-1) false (by rw [decide_eq_false_iff_not];omega) ?_
  rw [if_neg (by rintro (h|h) <;> omega)] at hz
  refine cR 74 9 Tryz.underlying9 s ?_
  refine tT 73 75 (k:Int) (s.size:Nat) true fl ?_
  have hae:=oK c1
  have hde:=oK d1
  generalize aT (aC a)=n at hae hz
  generalize aT (aC d)=m at hde hz
  have hp:=partsT (t:=s) (by omega) hk hlt (ha.trans hae) (hd.trans hde) (by rw [← hae];omega) (by rw [← hde];omega)
  have hm0:0<m:=Nat.pos_of_ne_zero fun e=>d0 (by rw [hde,e,dec0];rfl)
  have hg0:0<Nat.gcd n m:=Nat.gcd_pos_of_pos_right _ hm0
  have hg:=qR (a:=n) (b:=m) (gL (mS (n:=n) (k:=600) (by rw [← hae];omega)) (by omega)) (gL (mS (n:=m) (k:=600) (by rw [← hde];omega)) (by omega))
  obtain ⟨g,hgg⟩:∃ g,Nat.gcd n m=g:=⟨_,rfl⟩
  rw [hgg] at hg hg0
  simp only [hgg] at hz
  refine jB 44 [rS s] hp ?_
  refine jB 45 [di n,di m] hg ?_
  rcases Nat.lt_or_ge g B9 with gb|gb
  ·refine jL (.call ⟨.builtin .len,#[.tmp 87],#[82]⟩) (.tmp 87) (.tmp 87) (di g) (di g) (.fv (.sc (.lit (.int .i64 1)))) (fun ρ o β w ho hx _=>?_) ?_
   ·obtain ⟨ad,c,e,_⟩:=nT (bD.1 hx) hg0 gb
    exact ⟨_,pQ ho e,eO rfl⟩
   refine jL (.indexAddr 82 (.tmp 91) (.const (.int .i64 0))) (.tmp 91) (.const (.int .i64 0)) (di g) (.fv (.sc (.lit (.int .i64 0)))) (rP g) (fun ρ o β w ho hx hy=>?_) ?_
   ·obtain ⟨ad,c,e,hc⟩:=nT (bD.1 hx) hg0 gb
    exact ⟨_,qS ho e (bV hy) (by omega),⟨ad,rfl,hc⟩⟩
   refine jL (.load 3 (.tmp 92)) (.tmp 92) (.tmp 92) (rP g) (rP g) (rI (g:Int)) (fun ρ o β w ho hx _=>?_) ?_
   ·obtain ⟨ad,e,hc⟩:=hx
    injection e with e
    exact ⟨_,zR ho e hc,dE⟩
   have hne:(((g:Int) != 1) = !decide (g=1)):=by rw [Bool.eq_iff_iff];simp;omega
   by_cases g1:g=1
   ·rw [if_neg (by rintro ⟨_,h⟩;exact h g1)] at hz
    subst hz
    refine jL (.binOp .neq 3 (.tmp 93) (.const (.int .i64 1)) 3) (.tmp 93) (.const (.int .i64 1)) (rI (g:Int)) (.fv (.sc (.lit (.int .i64 1)))) (rl false) (fun ρ o β w ho hx hy=>⟨.bool false,oL ho (bA hx) (bV hy) (by rw [hne];simp [g1]),eO rfl⟩) ?_
    exact eU Tryz.func12 (by kernel_rfl)
   ·rw [if_pos ⟨hlt,g1⟩] at hz
    subst hz
    refine jL (.binOp .neq 3 (.tmp 93) (.const (.int .i64 1)) 3) (.tmp 93) (.const (.int .i64 1)) (rI (g:Int)) (.fv (.sc (.lit (.int .i64 1)))) (rl true) (fun ρ o β w ho hx hy=>⟨.bool true,oL ho (bA hx) (bV hy) (by rw [hne];simp [g1]),eO rfl⟩) ?_
    exact eU Tryz.func12 (by kernel_rfl)
  ·rw [if_pos ⟨hlt,by have:=eE;omega⟩] at hz
   subst hz
   refine jL (.call ⟨.builtin .len,#[.tmp 87],#[82]⟩) (.tmp 87) (.tmp 87) (di g) (di g) rNe (fun ρ o β w ho hx _=>?_) ?_
   ·obtain ⟨A,m,c,e,hm⟩:=zQ (bD.1 hx) gb
    exact ⟨_,pQ ho e,⟨(m:Int),rfl,by omega⟩⟩
   refine jL (.binOp .neq 3 (.tmp 88) (.const (.int .i64 1)) 3) (.tmp 88) (.const (.int .i64 1)) rNe (.fv (.sc (.lit (.int .i64 1)))) (rl true) (fun ρ o β w ho hx hy=>?_) ?_
   ·obtain ⟨x,e,hm⟩:=hx
    injection e with e
    exact ⟨.bool true,oL ho e (bV hy) (by simpa using hm),eO rfl⟩
   exact eU Tryz.func12 (by kernel_rfl)
 ·have fl:decide ((k:Int)<(s.size:Nat))=false:=by rw [decide_eq_false_iff_not];omega
  refine tT 37 39 (k:Int) (s.size:Nat) false fl ?_
  rw [if_neg (fun h=>hlt h.1)] at hz
  by_cases l1:600<k
  ·rw [if_pos (.inl l1)] at hz
   subst hz
   refine iI 63 600 (k:Int) true (by rw [decide_eq_true_iff];omega) ?_
   exact eU Tryz.func12 (by kernel_rfl)
  rw [if_neg (by rintro (h|h) <;> omega),if_neg (fun h=>hlt h.1)] at hz
  subst hz
  refine iI 63 600 (k:Int) false (by rw [decide_eq_false_iff_not];omega) ?_
  refine cR 66 9 Tryz.underlying9 s ?_
  refine wT 67 68 s.size k hkl (by omega) ?_
  refine jL (.binOp .sub 3 (.tmp 69) (.const (.int .i64 1)) 3) (.tmp 69) (.const (.int .i64 1)) (rI ((s.size-k:Nat):Int)) (.fv (.sc (.lit (.int .i64 1)))) (rI (((s.size-k:Nat):Int)-1)) (fun ρ o β w ho hx hy=>⟨_,rE ho (bA hx) (bV hy) (by omega),dE⟩) ?_
  refine iI 70 600 (((s.size-k:Nat):Int)-1) false (by rw [decide_eq_false_iff_not];omega) ?_
  refine cR 74 9 Tryz.underlying9 s ?_
  refine tT 73 75 (k:Int) (s.size:Nat) false fl ?_
  exact eU Tryz.func12 (by kernel_rfl)
theorem sQ {s:ByteArray} (hs:s.size≤9223372036854775807):jF 12 [rS s] (rI (fQ s)):=by
 rcases Nat.eq_zero_or_pos s.size with h0|h0
 ·have hbs:aC s = []:=List.eq_nil_of_length_eq_zero (by rw [aG];exact h0)
  have hn:jJ s=false:=by unfold jJ;rw [hbs];rfl
  have hst:bK s=s:=if_neg (by rw [hn];exact Bool.false_ne_true)
  have hsl:aJ s=0:=by unfold aJ;rw [hbs];rfl
  have hd:decF (s.extract 0 0)=false:=by unfold decF;rw [if_pos (by rw [ByteArray.size_extract];omega)]
  have e:fQ s=1:=by unfold fQ;rw [hst,hsl,if_pos (.inl hd)]
  rw [e]
  have h1:=eS (s:=s) (by omega)
  rw [hsl] at h1
  have h2:=nZ (s:=s.extract 0 0) (by rw [ByteArray.size_extract];omega)
  rw [hd] at h2
  exact mP (check_empty (by rw [decide_eq_false_iff_not];omega) h1 rfl h2) lit_I
 ·cases e:jJ s with
  | true=>exact check_neg hs h0 e rfl
  | false=>exact check_pos hs h0 e rfl
end Ab
section
open Go.RowKit Pl
end
namespace Ab
open Go.RowKit Pl
end Ab
namespace Ab
open Go.RowKit Pl
theorem kK (q:Rat):aJ (writeB q)=(aX q.num).size:=by
 by_cases h:q.den=1
 ·rw [iT h,sL]
 ·rw [eT h,sM]
theorem num_cut (q:Rat):(writeB q).extract 0 (aJ (writeB q))=aX q.num:=by
 rw [kK]
 by_cases h:q.den=1
 ·rw [iT h,zW]
 ·rw [eT h,ext_lo]
theorem den_cut {q:Rat} (h:q.den≠1):(writeB q).extract (aJ (writeB q)+1) (writeB q).size=decB q.den:=by
 rw [kK,eT h]
 exact ext_hi _ _
theorem lX (q:Rat):(writeB q).size=(aX q.num).size+if q.den=1 then 0 else 1+(decB q.den).size:=by
 by_cases h:q.den=1
 ·rw [iT h,if_pos h];rfl
 ·rw [eT h,if_neg h,ByteArray.size_append,ByteArray.size_append,size47]
theorem numF {q:Rat} (hs:(writeB q).size≤1000000000):jF 33 [rS (writeB q)] (rS (aX q.num)):=by
 have hc:=num_cut q
 generalize writeB q=s at *
 refine jT Tryz.func33 fun w00=>?_
 refine jB 42 [rS s] (eS (by omega)) ?_
 refine rshi 3 5 22 Tryz.underlying22 s (aJ s) (aX q.num) (cB _) hc ?_
 exact jS Tryz.func33
theorem denF1 {q:Rat} (hs:(writeB q).size≤1000000000) (h:q.den=1):jF 34 [rS (writeB q)] (rS (decB q.den)):=by
 have hl:=lX q
 have hk:=kK q
 rw [if_pos h] at hl
 have e:decB q.den=⟨#[49]⟩:=by rw [h,dec1]
 rw [e]
 generalize writeB q=s at *
 have key:jF 34 [rS s] (.fv (.sc (.lit (.string ⟨#[49]⟩)))):=by
  refine jT Tryz.func34 fun w00=>?_
  refine jB 42 [rS s] (eS (by omega)) ?_
  refine cR 7 22 Tryz.underlying22 s ?_
  refine jL (.binOp .eql 3 (.tmp 6) (.tmp 8) 3) (.tmp 6) (.tmp 8) (rI (aJ s:Nat)) (rI (s.size:Nat)) (rl true) (fun ρ o β w ho hx hy=>⟨.bool true,gH ho (bA hx) (bA hy) (by simp;omega),eO rfl⟩) ?_
  exact jS Tryz.func34
 exact mP key fun β v w h=>h.1
theorem denF2 {q:Rat} (hs:(writeB q).size≤1000000000) (h:q.den≠1):jF 34 [rS (writeB q)] (rS (decB q.den)):=by
 have hl:=lX q
 have hk:=kK q
 rw [if_neg h] at hl
 have hc:=den_cut h
 generalize decB q.den=d at *
 generalize writeB q=s at *
 refine jT Tryz.func34 fun w00=>?_
 refine jB 42 [rS s] (eS (by omega)) ?_
 refine cR 7 22 Tryz.underlying22 s ?_
 refine jL (.binOp .eql 3 (.tmp 6) (.tmp 8) 3) (.tmp 6) (.tmp 8) (rI (aJ s:Nat)) (rI (s.size:Nat)) (rl false) (fun ρ o β w ho hx hy=>⟨.bool false,gH ho (bA hx) (bA hy) (by simp;omega),eO rfl⟩) ?_
 refine zV 11 (aJ s) (by omega) ?_
 refine zU 10 12 22 Tryz.underlying22 s (aJ s+1) d (by omega) hc ?_
 exact jS Tryz.func34
theorem denOfF {q:Rat} (hs:(writeB q).size≤1000000000):jF 34 [rS (writeB q)] (rS (decB q.den)):=by
 by_cases h:q.den=1
 ·exact denF1 hs h
 ·exact denF2 hs h
theorem dec0_ne {n:Nat} (h:n≠0):decB n≠zeroT:=fun e=>h (rA (e.trans dec0.symm))
theorem zX {q:Rat} (h:q.num≠0):aZ q≠zeroT:=by
 by_cases hd:q.den=1
 ·rw [lW hd,bW]
  exact dec0_ne (by omega)
 ·intro e
  have hl:=nX q
  rw [if_neg hd,e] at hl
  have:zeroT.size=1:=rfl
  have:=qT q.num.natAbs
  omega
theorem kQ {q:Rat} (h:q.num≠0):writeB q≠zeroT:=by
 by_cases hn:q.num<0
 ·obtain ⟨f1,⟨h0,hc⟩,f3,f4,f5⟩:=iU hn
  intro e
  have h1:=(tL q).1
  rw [e,decide_eq_true hn] at h1
  exact absurd h1 (by decide)
 ·rw [eZ hn]
  exact zX h
theorem signF0 {q:Rat} (h:q.num=0):jF 93 [rS (writeB q)] (.fv (.sc (.lit (.int .i64 0)))):=by
 have e:((writeB q).toList==(⟨#[48]⟩:ByteArray).toList)=true:=by
  have hd:q.den=1:=by have:=q.reduced;rw [h] at this;simpa using this
  rw [iT hd,h]
  have:aX 0=zeroT:=by unfold aX;rw [if_neg (by omega)];exact dec0
  rw [this]
  exact beq_self_eq_true zeroT.toList
 generalize writeB q=s at *
 refine jT Tryz.func93 fun w00=>?_
 refine sN 3 22 s ⟨#[48]⟩ true e ?_
 exact jS Tryz.func93
theorem signFn {q:Rat} (h:q.num<0):jF 93 [rS (writeB q)] (.fv (.sc (.lit (.int .i64 (-1))))):=by
 have e:=kJ (kQ (q:=q) (by omega))
 obtain ⟨f1,hc,f3,f4,f5⟩:=iU h
 have h0:decide ((0:Int)<((writeB q).size:Nat))=true:=by rw [decide_eq_true_iff];omega
 generalize writeB q=s at *
 refine jT Tryz.func93 fun w00=>?_
 refine sN 3 22 s ⟨#[48]⟩ false e ?_
 refine cR 5 22 Tryz.underlying22 s ?_
 refine iI 6 0 (s.size:Nat) true h0 ?_
 refine ridnR 9 s hc ?_
 exact jS Tryz.func93
theorem signFp {q:Rat} (h:0<q.num):jF 93 [rS (writeB q)] (.fv (.sc (.lit (.int .i64 1)))):=by
 have e:=kJ (kQ (q:=q) (by omega))
 obtain ⟨c,hc,hc45⟩:=sP q
 rw [← eZ (by omega)] at hc
 have h0:decide ((0:Int)<((writeB q).size:Nat))=true:=by rw [decide_eq_true_iff];have:=hc.1;omega
 generalize writeB q=s at *
 refine jT Tryz.func93 fun w00=>?_
 refine sN 3 22 s ⟨#[48]⟩ false e ?_
 refine cR 5 22 Tryz.underlying22 s ?_
 refine iI 6 0 (s.size:Nat) true h0 ?_
 refine ridpR 9 s c hc ?_
 refine rueq 10 c hc45 ?_
 exact jS Tryz.func93
theorem absFn {q:Rat} (h:q.num<0) (hs:(writeB q).size≤1000000000):jF 32 [rS (writeB q)] (rS (aZ q)):=by
 have hg:=signFn h
 obtain ⟨f1,hc,f3,f4,f5⟩:=iU h
 generalize aZ q=u at *
 generalize writeB q=s at *
 refine jT Tryz.func32 fun w00=>?_
 refine jB 93 [rS s] hg ?_
 refine rsl1 6 22 Tryz.underlying22 s u f1 f3 ?_
 exact jS Tryz.func32
theorem absFp {q:Rat} (h:¬ q.num<0):jF 32 [rS (writeB q)] (rS (aZ q)):=by
 rw [← eZ h]
 by_cases h0:q.num=0
 ·have hg:=signF0 h0
  generalize writeB q=s at *
  refine jT Tryz.func32 fun w00=>?_
  refine jB 93 [rS s] hg ?_
  exact jS Tryz.func32
 ·have hg:=signFp (q:=q) (by omega)
  generalize writeB q=s at *
  refine jT Tryz.func32 fun w00=>?_
  refine jB 93 [rS s] hg ?_
  exact jS Tryz.func32
theorem absOfF {q:Rat} (hs:(writeB q).size≤1000000000):jF 32 [rS (writeB q)] (rS (aZ q)):=by
 by_cases h:q.num<0
 ·exact absFn h hs
 ·exact absFp h
theorem absTF {z:Int} (hs:(aX z).size≤1000000000):jF 32 [rS (aX z)] (rS (decB z.natAbs)):=by
 have h:=absOfF (q:=(z:Rat)) (by rw [← dF];exact hs)
 have e:aZ (z:Rat)=decB z.natAbs:=by rw [lW rfl,bW];rfl
 rw [← dF,e] at h
 exact h
def Fw (k:Nat) (q:Rat):Prop:=(decB q.num.natAbs).size≤k∧(decB q.den).size≤k
theorem rF (z:Int):(aX z).size≤(decB z.natAbs).size+1:=by
 unfold aX
 split
 ·rw [ByteArray.size_append,size45];omega
 ·omega
theorem fw_len {k:Nat} {q:Rat} (h:Fw k q):(writeB q).size≤2*k+2:=by
 have h1:=lX q
 have h2:=rF q.num
 have h3:=h.1
 have h4:=h.2
 split at h1 <;> omega
theorem few8_long {s:ByteArray} (h:decide (((s.size:Nat):Int)≤18)=false):jF 6 [rS s,.fv (.sc (.lit (.int .i64 8)))] (rl false):=by
 refine jT Tryz.func6 fun w00=>?_
 refine cR 5 22 Tryz.underlying22 s ?_
 refine wU 6 9 (s.size:Nat) 18 false h ?_
 exact jS Tryz.func6
theorem few8_bad {s:ByteArray} {z:Int} (h:decide (((s.size:Nat):Int)≤18)=true) (hk:jF 12 [rS s] (rI z)) (hz:z≠0):jF 6 [rS s,.fv (.sc (.lit (.int .i64 8)))] (rl false):=by
 refine jT Tryz.func6 fun w00=>?_
 refine cR 5 22 Tryz.underlying22 s ?_
 refine wU 6 9 (s.size:Nat) 18 true h ?_
 refine jB 12 [rS s] hk ?_
 refine jL (.binOp .eql 3 (.tmp 13) (.const (.int .i64 0)) 3) (.tmp 13) (.const (.int .i64 0)) (rI z) (.fv (.sc (.lit (.int .i64 0)))) (rl false) (fun ρ o β w ho hx hy=>⟨.bool false,gH ho (bA hx) (bV hy) (by simpa using hz),eO rfl⟩) ?_
 exact jS Tryz.func6
theorem few8_num {s u a:ByteArray} {z:Int} (h:decide (((s.size:Nat):Int)≤18)=true) (hk:jF 12 [rS s] (rI z)) (hz:z=0) (h1:jF 33 [rS s] (rS u)) (h2:jF 32 [rS u] (rS a)) (h3:decide (((a.size:Nat):Int)≤8)=false):jF 6 [rS s,.fv (.sc (.lit (.int .i64 8)))] (rl false):=by
 refine jT Tryz.func6 fun w00=>?_
 refine cR 5 22 Tryz.underlying22 s ?_
 refine wU 6 9 (s.size:Nat) 18 true h ?_
 refine jB 12 [rS s] hk ?_
 refine jL (.binOp .eql 3 (.tmp 13) (.const (.int .i64 0)) 3) (.tmp 13) (.const (.int .i64 0)) (rI z) (.fv (.sc (.lit (.int .i64 0)))) (rl true) (fun ρ o β w ho hx hy=>⟨.bool true,gH ho (bA hx) (bV hy) (by rw [hz];rfl),eO rfl⟩) ?_
 refine jB 33 [rS s] h1 ?_
 refine jB 32 [rS u] h2 ?_
 refine cR 19 22 Tryz.underlying22 a ?_
 refine wU 20 21 (a.size:Nat) 8 false h3 ?_
 exact jS Tryz.func6
theorem few8_denf {s u a d:ByteArray} {z:Int} (h:decide (((s.size:Nat):Int)≤18)=true) (hk:jF 12 [rS s] (rI z)) (hz:z=0) (h1:jF 33 [rS s] (rS u)) (h2:jF 32 [rS u] (rS a)) (h3:decide (((a.size:Nat):Int)≤8)=true) (h4:jF 34 [rS s] (rS d)) (h5:decide (((d.size:Nat):Int)≤8)=false):jF 6 [rS s,.fv (.sc (.lit (.int .i64 8)))] (rl false):=by
 refine jT Tryz.func6 fun w00=>?_
 refine cR 5 22 Tryz.underlying22 s ?_
 refine wU 6 9 (s.size:Nat) 18 true h ?_
 refine jB 12 [rS s] hk ?_
 refine jL (.binOp .eql 3 (.tmp 13) (.const (.int .i64 0)) 3) (.tmp 13) (.const (.int .i64 0)) (rI z) (.fv (.sc (.lit (.int .i64 0)))) (rl true) (fun ρ o β w ho hx hy=>⟨.bool true,gH ho (bA hx) (bV hy) (by rw [hz];rfl),eO rfl⟩) ?_
 refine jB 33 [rS s] h1 ?_
 refine jB 32 [rS u] h2 ?_
 refine cR 19 22 Tryz.underlying22 a ?_
 refine wU 20 21 (a.size:Nat) 8 true h3 ?_
 refine jB 34 [rS s] h4 ?_
 refine cR 26 22 Tryz.underlying22 d ?_
 refine wU 27 28 (d.size:Nat) 8 false h5 ?_
 exact jS Tryz.func6
theorem few8_dent {s u a d:ByteArray} {z:Int} (h:decide (((s.size:Nat):Int)≤18)=true) (hk:jF 12 [rS s] (rI z)) (hz:z=0) (h1:jF 33 [rS s] (rS u)) (h2:jF 32 [rS u] (rS a)) (h3:decide (((a.size:Nat):Int)≤8)=true) (h4:jF 34 [rS s] (rS d)) (h5:decide (((d.size:Nat):Int)≤8)=true):jF 6 [rS s,.fv (.sc (.lit (.int .i64 8)))] (rl true):=by
 refine jT Tryz.func6 fun w00=>?_
 refine cR 5 22 Tryz.underlying22 s ?_
 refine wU 6 9 (s.size:Nat) 18 true h ?_
 refine jB 12 [rS s] hk ?_
 refine jL (.binOp .eql 3 (.tmp 13) (.const (.int .i64 0)) 3) (.tmp 13) (.const (.int .i64 0)) (rI z) (.fv (.sc (.lit (.int .i64 0)))) (rl true) (fun ρ o β w ho hx hy=>⟨.bool true,gH ho (bA hx) (bV hy) (by rw [hz];rfl),eO rfl⟩) ?_
 refine jB 33 [rS s] h1 ?_
 refine jB 32 [rS u] h2 ?_
 refine cR 19 22 Tryz.underlying22 a ?_
 refine wU 20 21 (a.size:Nat) 8 true h3 ?_
 refine jB 34 [rS s] h4 ?_
 refine cR 26 22 Tryz.underlying22 d ?_
 refine wU 27 28 (d.size:Nat) 8 true h5 ?_
 exact jS Tryz.func6
theorem cF {q:Rat} (h:Fw 8 q):jF 6 [rS (writeB q),.fv (.sc (.lit (.int .i64 8)))] (rl true):=by
 have hl:=fw_len h
 have ht:=rF q.num
 have h1:=h.1
 have h2:=h.2
 exact few8_dent (by rw [decide_eq_true_iff];omega) (sQ (by omega)) (tM (by omega) (by omega)) (numF (by omega)) (absTF (by omega)) (by rw [decide_eq_true_iff];omega) (denOfF (by omega)) (by rw [decide_eq_true_iff];omega)
theorem few8No {s:ByteArray} (h:¬ ∃ q,s=writeB q∧Fw 8 q):jF 6 [rS s,.fv (.sc (.lit (.int .i64 8)))] (rl false):=by
 by_cases hl:s.size≤18
 ·have hl' : decide (((s.size:Nat):Int)≤18)=true:=by rw [decide_eq_true_iff];omega
  have hk:=sQ (s:=s) (by omega)
  by_cases hz:fQ s=0
  ·obtain ⟨q,rfl,_,_⟩:=check_zero hz
   have ht:=rF q.num
   have hw:=lX q
   by_cases h3:(decB q.num.natAbs).size≤8
   ·exact few8_denf hl' hk hz (numF (by omega)) (absTF (by split at hw <;> omega)) (by rw [decide_eq_true_iff];omega) (denOfF (by omega)) (by rw [decide_eq_false_iff_not];intro h4;exact h ⟨q,rfl,h3,by omega⟩)
   ·exact few8_num hl' hk hz (numF (by omega)) (absTF (by split at hw <;> omega)) (by rw [decide_eq_false_iff_not];omega)
  ·exact few8_bad hl' hk hz
 ·exact few8_long (by rw [decide_eq_false_iff_not];omega)
theorem kn_I {f:FuncId} {s:ByteArray} {z:Int} (h:jF f [rS s] (rI z)):jF f [tx s] (.fv (.sc (rH z))):=by
 intro β w vs hv
 obtain ⟨v,rfl,h1⟩:=dQ hv
 rw [aP h1]
 exact (h β w [.string s] ⟨_,_,rfl,dE,rfl⟩).mono fun e w' ⟨v,e1,e2,e3⟩=>⟨v,e1,e2,by rw [bA e3];exact bO⟩
theorem kn_S {f:FuncId} {s t u:ByteArray} (h:jF f [rS s,rS t] (rS u)):jF f [tx s,tx t] (tx u):=by
 intro β w vs hv
 obtain ⟨v,v2,rfl,h1,h2⟩:=eG hv
 rw [aP h1,aP h2]
 exact (h β w [.string s,.string t] ⟨_,_,rfl,dE,_,_,rfl,dE,rfl⟩).mono fun e w' ⟨v,e1,e2,e3⟩=>⟨v,e1,e2,by rw [bA e3];exact bO⟩
theorem jP {f:FuncId} {s:ByteArray} {n:Int} {b:Bool} (h:jF f [rS s,.fv (.sc (.lit (.int .i64 n)))] (rl b)):jF f [tx s,it n] (bl b):=by
 intro β w vs hv
 obtain ⟨v,v2,rfl,h1,h2⟩:=eG hv
 have e2:[v2] = [.int .i64 n]:=h2.1
 injection e2 with e2
 rw [aP h1,e2]
 exact (h β w [.string s,.int .i64 n] ⟨_,_,rfl,dE,_,_,rfl,eO rfl,rfl⟩).mono fun e w' ⟨v,e1,e2,e3⟩=>⟨v,e1,e2,by rw [bV e3];exact bB rfl⟩
abbrev t3 (a b c:ByteArray):AV Kn := .fv (.ag [cT a,cT b,cT c])
theorem chkF {q:Rat} (h1:(decB q.num.natAbs).size≤600) (h2:(decB q.den).size≤600):jF 12 [tx (writeB q)] (it 0):=by
 have hw:=lX q
 have ht:=rF q.num
 have h:=kn_I (sQ (s:=writeB q) (by split at hw <;> omega))
 rw [tM h1 h2] at h
 intro β w vs hv
 exact (h β w vs hv).mono fun e w' ⟨v,e1,e2,e3⟩=>⟨v,e1,e2,by rw [aP e3];exact bB rfl⟩
section
variable {a b c:ByteArray} {n:Int}
theorem mT (h1:jF 6 [tx a,it n] (bl true)) (h2:jF 6 [tx b,it n] (bl true)) (h3:jF 6 [tx c,it n] (bl true)):jF 5 [t3 a b c,it n] (bl true):=by
 refine jG Tryz.func5 fun w00=>?_
 refine jC 6 [tx a,it n] (h1) ?_
 refine jC 6 [tx b,it n] (h2) ?_
 refine jC 6 [tx c,it n] (h3) ?_
 exact jR Tryz.func5
theorem fewVecF1 (h1:jF 6 [tx a,it n] (bl false)):jF 5 [t3 a b c,it n] (bl false):=by
 refine jG Tryz.func5 fun w00=>?_
 refine jC 6 [tx a,it n] (h1) ?_
 exact jR Tryz.func5
theorem fewVecF2 (h1:jF 6 [tx a,it n] (bl true)) (h2:jF 6 [tx b,it n] (bl false)):jF 5 [t3 a b c,it n] (bl false):=by
 refine jG Tryz.func5 fun w00=>?_
 refine jC 6 [tx a,it n] (h1) ?_
 refine jC 6 [tx b,it n] (h2) ?_
 exact jR Tryz.func5
theorem fewVecF3 (h1:jF 6 [tx a,it n] (bl true)) (h2:jF 6 [tx b,it n] (bl true)) (h3:jF 6 [tx c,it n] (bl false)):jF 5 [t3 a b c,it n] (bl false):=by
 refine jG Tryz.func5 fun w00=>?_
 refine jC 6 [tx a,it n] (h1) ?_
 refine jC 6 [tx b,it n] (h2) ?_
 refine jC 6 [tx c,it n] (h3) ?_
 exact jR Tryz.func5
theorem yH {T:TypeId} (h1:jF 12 [tx a] (it 0)) (h2:jF 12 [tx b] (it 0)) (h3:jF 12 [tx c] (it 0)):jF 11 [.fv (.nsl 3 T [cT a,cT b,cT c])] (it 0):=by
 refine kgoS Tryz.func11 (by kernel_rfl) fun w00=>?_
 refine jC 12 [tx a] (h1) ?_
 refine jC 12 [tx b] (h2) ?_
 refine jC 12 [tx c] (h3) ?_
 exact jR Tryz.func11
theorem yI (h1:jF 12 [tx a] (it 0)) (h2:jF 12 [tx b] (it 0)) (h3:jF 12 [tx c] (it 0)):jF 10 [t3 a b c] (it 0):=by
 refine jG Tryz.func10 fun w00=>?_
 refine jC 11 [.fv (.nsl 3 22 [cT a,cT b,cT c])] (yH h1 h2 h3) ?_
 exact jR Tryz.func10
end
theorem zY:jF 14 ([]:List (AV Kn)) (.fv (.ag [.lit (.string ⟨#[48]⟩),.lit (.string ⟨#[48]⟩),.lit (.string ⟨#[48]⟩)])):=by
 refine jG Tryz.func14 fun w00=>?_
 exact jR Tryz.func14
section
variable {a b c d e f:ByteArray} {x y z:ByteArray}
theorem addVecR (h1:jF 15 [tx a,tx d] (tx x)) (h2:jF 15 [tx b,tx e] (tx y)) (h3:jF 15 [tx c,tx f] (tx z)):jF 13 [t3 a b c,t3 d e f] (t3 x y z):=by
 refine jG Tryz.func13 fun w00=>?_
 refine jC 15 [tx a,tx d] (h1) ?_
 refine jC 15 [tx b,tx e] (h2) ?_
 refine jC 15 [tx c,tx f] (h3) ?_
 exact jR Tryz.func13
end
def f2 (x y:Int):Int:=if x=0 then y else x
def f3 (x y z:Int):Int:=f2 x (f2 y z)
abbrev Ev (z:Int):Prop:=z=0∨z=1∨z=4
theorem f2_ev {x y:Int} (hx:Ev x) (hy:Ev y):Ev (f2 x y):=by unfold f2;split <;> assumption
abbrev lz (z:Int):Seg Kn := .lit (.int .i64 z)
theorem first2Any {T:TypeId} {x y z:Int} (hx:Ev x) (hy:Ev y) (hz:f2 x y=z):jF 65 [.fv (.nsl 2 T [lz x,lz y])] (it z):=by
 rcases hx with rfl|rfl|rfl
 ·have hz:y=z:=hz
  subst hz
  rcases hy with rfl|rfl|rfl <;> (refine kgoS Tryz.func65 (by kernel_rfl) fun w00=>?_;exact kret Tryz.func65 (by kernel_rfl))
 ·have hz:1=z:=hz
  subst hz
  refine kgoS Tryz.func65 (by kernel_rfl) fun w00=>?_
  exact jR Tryz.func65
 ·have hz:4=z:=hz
  subst hz
  refine kgoS Tryz.func65 (by kernel_rfl) fun w00=>?_
  exact jR Tryz.func65
abbrev c3 (a b c:ByteArray):Int:=f3 (fQ a) (fQ b) (fQ c)
end Ab
namespace Fr
open Go.RowKit Go.Shelf Ab Pl
attribute [local go_sem] Oper.semAt_some
def m9 (m:C9):Obj := .cells #[.int .i64 m.n1,.int .i64 m.d1,.pointer m.p1,.int .i64 m.n2,.int .i64 m.d2,.pointer m.p2,.int .i64 m.n3,.int .i64 m.d3,.pointer m.p3] 73 (0,0)
def st9 (X:World) (B a b c d e f g h i:Nat) (m:C9):World:=((((((((X.setCell ⟨B,a,none⟩ (.int .i64 m.n1)).setCell ⟨B,b,none⟩ (.int .i64 m.d1)).setCell ⟨B,c,none⟩ (.pointer m.p1)).setCell ⟨B,d,none⟩ (.int .i64 m.n2)).setCell ⟨B,e,none⟩ (.int .i64 m.d2)).setCell ⟨B,f,none⟩ (.pointer m.p2)).setCell ⟨B,g,none⟩ (.int .i64 m.n3)).setCell ⟨B,h,none⟩ (.int .i64 m.d3)).setCell ⟨B,i,none⟩ (.pointer m.p3)
abbrev N9 (cs:Array Value) (t:C9) (a b c d e f g h i:Nat):Prop:=cs[a]?=some (.int .i64 t.n1)∧cs[b]?=some (.int .i64 t.d1)∧cs[c]?=some (.pointer t.p1)∧cs[d]?=some (.int .i64 t.n2)∧cs[e]?=some (.int .i64 t.d2)∧cs[f]?=some (.pointer t.p2)∧cs[g]?=some (.int .i64 t.n3)∧cs[h]?=some (.int .i64 t.d3)∧cs[i]?=some (.pointer t.p3)
theorem up9 {w:World} {B a b c d e f g h i:Nat} {cs:Array Value} {T:TypeId} (t:C9) (hlt:B<w.heap.size) (hb:w.heap[B]?=some (.cells cs T (0,0))) (hc:N9 cs t a b c d e f g h i):(∀ o,(w.alloc o).cell? ⟨B,a,none⟩=some (.int .i64 t.n1))∧(∀ o,(w.alloc o).frozen? ⟨B,a,none⟩=false)∧(∀ o,(w.alloc o).cell? ⟨B,b,none⟩=some (.int .i64 t.d1))∧(∀ o,(w.alloc o).frozen? ⟨B,b,none⟩=false)∧(∀ o,(w.alloc o).cell? ⟨B,c,none⟩=some (.pointer t.p1))∧(∀ o,(w.alloc o).frozen? ⟨B,c,none⟩=false)∧(∀ o,(w.alloc o).cell? ⟨B,d,none⟩=some (.int .i64 t.n2))∧(∀ o,(w.alloc o).frozen? ⟨B,d,none⟩=false)∧(∀ o,(w.alloc o).cell? ⟨B,e,none⟩=some (.int .i64 t.d2))∧(∀ o,(w.alloc o).frozen? ⟨B,e,none⟩=false)∧(∀ o,(w.alloc o).cell? ⟨B,f,none⟩=some (.pointer t.p2))∧(∀ o,(w.alloc o).frozen? ⟨B,f,none⟩=false)∧(∀ o,(w.alloc o).cell? ⟨B,g,none⟩=some (.int .i64 t.n3))∧(∀ o,(w.alloc o).frozen? ⟨B,g,none⟩=false)∧(∀ o,(w.alloc o).cell? ⟨B,h,none⟩=some (.int .i64 t.d3))∧(∀ o,(w.alloc o).frozen? ⟨B,h,none⟩=false)∧(∀ o,(w.alloc o).cell? ⟨B,i,none⟩=some (.pointer t.p3))∧(∀ o,(w.alloc o).frozen? ⟨B,i,none⟩=false):=by
 obtain ⟨c0,c1,c2,c3,c4,c5,c6,c7,c8⟩:=hc
 have k:∀ {j:Nat} {v:Value},cs[j]?=some v→∀ o,(w.alloc o).cell? ⟨B,j,none⟩=some v:=fun hj=>qX hlt (by simp [World.cell?,hb,hj])
 exact ⟨k c0,gI hlt hb,k c1,gI hlt hb,k c2,gI hlt hb,k c3,gI hlt hb,k c4,gI hlt hb,k c5,gI hlt hb,k c6,gI hlt hb,k c7,gI hlt hb,k c8,gI hlt hb⟩
def RV (a b c:Rat) (z:Int) (W:World) (e:Ending) (w' : World):Prop := ∃ k:C9,e = .returned (.tuple #[k.val,.int .i64 z])∧Vc w' k.val a b c∧Below W.heap.size W w'
theorem pT {x y z:Int} (hx:Ev x) (hy:Ev y) (hz:f2 x y=z) (w:World) (g:Nat) (T:TypeId) (hh:w.heap[g]?=some (.cells #[.int .i64 x,.int .i64 y] T (0,0))):Calls Tryz.prog 65 #[.slice (some ⟨g,0,none⟩) 2 2] w fun e w'=>e = .returned (.int .i64 z)∧Below w.heap.size w w':=by
 refine (first2Any (T:=T) hx hy hz [] w [.slice (some ⟨g,0,none⟩) 2 2] ⟨_,_,rfl,⟨g,[.int .i64 x,.int .i64 y],rfl,hh,[.int .i64 x],_,rfl,⟨rfl,rfl⟩,[.int .i64 y],_,rfl,⟨rfl,rfl⟩,rfl⟩,rfl⟩).mono ?_
 rintro e w' ⟨v,e1,e2,h1⟩
 have h5:[v] = [.int .i64 z]:=h1.1
 injection h5 with h5
 exact ⟨by rw [e1,h5],e2⟩
def InvE (ev:List (Fin 3)→Int) (w:World) (k:C9) (B E R:Nat) (o1 o2 o3 x1 x2 x3 y1 y2 y3 z1 z2 z3:Rat) (pre:List (Fin 3)) (W:World):Prop :=
 ∃ x y z:C9,W.heap[B]?=some (.cells (fK k x y z).toArray 121 (0,0))∧((0:Fin 3)∈pre→Vc W x.val x1 x2 x3)∧((1:Fin 3)∈pre→Vc W y.val y1 y2 y3)∧((2:Fin 3)∈pre→Vc W z.val z1 z2 z3) ∧
   W.heap[E]?=some (.cells #[.int .i64 (ev pre)] 28 (0,0))∧W.heap[R]?=some (.cells (fK C9.zero C9.zero C9.zero C9.zero).toArray 121 (0,0))∧Vc W k.val o1 o2 o3∧Below w.heap.size w W
section
variable {w:World} {k:C9} {B E R:Nat} {o1 o2 o3 x1 x2 x3 y1 y2 y3 z1 z2 z3:Rat}
theorem oA {u v:Int} {W w2 X1 w5:World} {a b c a' b' c' : C9} {o9 o2:Obj} {S n:Nat} (hbl:Below W.heap.size W w2) (hB:W.heap[B]?=some (.cells (fK k a b c).toArray 121 (0,0))) (hE:W.heap[E]?=some (.cells #[.int .i64 u] 28 (0,0))) (hEB:¬ E=B)
 (hT:Turned B (.cells (fK k a' b' c').toArray 121 (0,0)) (w2.alloc o9) X1) (h5:Below (X1.alloc o2).heap.size (X1.alloc o2) w5) (hn:n≤W.heap.size) (hnB:n≤B) (hnE:n≤E) :
 (w5.setCell ⟨E,0,none⟩ (.int .i64 v)).heap[B]?=some (.cells (fK k a' b' c').toArray 121 (0,0))∧(w5.setCell ⟨E,0,none⟩ (.int .i64 v)).heap[E]?=some (.cells #[.int .i64 v] 28 (0,0)) ∧
 (∀ g,g<W.heap.size→¬ g=B→¬ g=E→(w5.setCell ⟨E,0,none⟩ (.int .i64 v)).heap[g]?=W.heap[g]?)∧Go.Proofs.YtpjknnddanhgkaaGreatDoor.Ext Kn w2 (w5.setCell ⟨E,0,none⟩ (.int .i64 v))∧Go.Proofs.YtpjknnddanhgkaaGreatDoor.Ext Kn W w2∧KeepsFrom S W (w5.setCell ⟨E,0,none⟩ (.int .i64 v))∧Below n W (w5.setCell ⟨E,0,none⟩ (.int .i64 v)):=by
 have hBlt:=(Array.getElem?_eq_some_iff.1 hB).1
 have hElt:=(Array.getElem?_eq_some_iff.1 hE).1
 have hs2:=hbl.size
 have ba:Below w2.heap.size w2 (w2.alloc o9):=(aB _ _).alloc (aR _) _
 have sa:(w2.alloc o9).heap.size=w2.heap.size+1:=by simp
 have hBa:(w2.alloc o9).heap[B]?=some (.cells (fK k a b c).toArray 121 (0,0)):=(ba.block B (by omega)).trans ((hbl.block B hBlt).trans hB)
 have sx:X1.heap.size=w2.heap.size+1:=hT.size.trans sa
 have bb:Below X1.heap.size X1 (X1.alloc o2):=(aB _ _).alloc (aR _) _
 have sb:(X1.alloc o2).heap.size=w2.heap.size+2:=by simp [sx]
 have hs5:=h5.size
 have keep:∀ g,g<W.heap.size→¬ g=B→w5.heap[g]?=W.heap[g]?:=fun g hg hne=>(h5.block g (by omega)).trans ((bb.block g (by omega)).trans ((hT.block g hne).trans ((ba.block g (by omega)).trans (hbl.block g hg))))
 have hE5:w5.heap[E]?=some (.cells #[.int .i64 u] 28 (0,0)):=(keep E hElt hEB).trans hE
 have hTE:Turned E (.cells #[.int .i64 v] 28 (0,0)) w5 (w5.setCell ⟨E,0,none⟩ (.int .i64 v)):=cJ (i:=0) hE5 (.int .i64 v)
 have hB5:w5.heap[B]?=some (.cells (fK k a' b' c').toArray 121 (0,0)):=(h5.block B (by omega)).trans ((bb.block B (by omega)).trans hT.at_)
 have bn:Below n W w5:=(qY ((hbl.mono hn).trans (ba.mono (by omega))) hT hnB).trans ((bb.mono (by omega)).trans (h5.mono (by omega)))
 refine ⟨(hTE.block B (fun e=>hEB e.symm)).trans hB5,hTE.at_,fun g hg h1 h2=>(hTE.block g h2).trans (keep g hg h1),?_,Go.Proofs.YtpjknnddanhgkaaGreatDoor.Ext.of_below hbl,?_,qY bn hTE hnE⟩
 ·exact (Go.Proofs.YtpjknnddanhgkaaGreatDoor.Ext.of_below ba).trans ((hT.ext hBa (lU _ _ _ _ _)).trans ((Go.Proofs.YtpjknnddanhgkaaGreatDoor.Ext.of_below bb).trans ((Go.Proofs.YtpjknnddanhgkaaGreatDoor.Ext.of_below h5).trans (hTE.ext hE5 (by simp [Go.Proofs.YtpjknnddanhgkaaGreatDoor.hotObj,Kn])))))
 ·exact (fL hbl).trans ((fL ba).trans ((qZ hT hBa rfl).trans ((fL bb).trans ((fL h5).trans (qZ hTE hE5 rfl)))))
theorem rG {ev:List (Fin 3)→Int} {S:Nat} (hS:w.heap.size≤S):OwnFrom S (InvE ev w k B E R o1 o2 o3 x1 x2 x3 y1 y2 y3 z1 z2 z3):=by
 rintro pre W W' row ⟨x,y,z,hB,v0,v1,v2,hE,hR,hk,hb⟩ hg hr
 have hr' : ∀ r,row=some r→∃ o:Obj,W.heap[r]?=some o∧o.isCells=false:=fun r e=>(hr r e).2
 have hx:=sO hg hr'
 refine ⟨x,y,z,(grownBy_keeps_cells hg hr' hB rfl).trans hB,fun h=>Vc.kext (v0 h) hx,fun h=>Vc.kext (v1 h) hx,fun h=>Vc.kext (v2 h) hx,(grownBy_keeps_cells hg hr' hE rfl).trans hE,(grownBy_keeps_cells hg hr' hR rfl).trans hR,Vc.kext hk hx,?_⟩
 exact hb.grown hg hb.size (fun k e=>Nat.le_trans hS (hr k e).1)
end
set_option maxRecDepth 100000 in
theorem wW (a1 a2 a3 b1 b2 b3 c1 c2 c3 d1 d2 d3:ByteArray) (o1 o2 o3 x1 x2 x3 y1 y2 y3 z1 z2 z3:Rat) (eo ex ey ez zq zc:Int) (heo:Ev eo) (hex:Ev ex) (hey:Ev ey) (hez:Ev ez) (hZ:f2 (f2 (f2 eo ex) ey) ez=zq)
 (cO' : ∀ W,Gl W→Calls Tryz.prog 38 #[.agg #[.string a1,.string a2,.string a3]] W (RV o1 o2 o3 eo W)) (cX' : ∀ W,Gl W→Calls Tryz.prog 38 #[.agg #[.string b1,.string b2,.string b3]] W (RV x1 x2 x3 ex W))
 (cY' : ∀ W,Gl W→Calls Tryz.prog 38 #[.agg #[.string c1,.string c2,.string c3]] W (RV y1 y2 y3 ey W)) (cZ' : ∀ W,Gl W→Calls Tryz.prog 38 #[.agg #[.string d1,.string d2,.string d3]] W (RV z1 z2 z3 ez W))
 (hC:zq=0→∀ (W:World) (o x y z:C9),Vc W o.val o1 o2 o3→Vc W x.val x1 x2 x3→Vc W y.val y1 y2 y3→Vc W z.val z1 z2 z3→Calls Tryz.prog 142 #[.agg (fK o x y z).toArray] W fun e w'=>e = .returned (.int .i64 zc)∧Below W.heap.size W w') (w:World) (hG:Gl w) :
 Calls Tryz.prog 73 #[.agg #[.string a1,.string a2,.string a3,.string b1,.string b2,.string b3,.string c1,.string c2,.string c3,.string d1,.string d2,.string d3]] w fun e w' => ∃ o x y z:C9,e = .returned (.tuple #[.agg (if zq=0 then fK o x y z else fK C9.zero C9.zero C9.zero C9.zero).toArray,.int .i64 (if zq=0 then zc else zq)])∧Vc w' o.val o1 o2 o3∧Vc w' x.val x1 x2 x3∧Vc w' y.val y1 y2 y3∧Vc w' z.val z1 z2 z3∧Below w.heap.size w w':=by
 have cO:=aH cO'
 have cX:=aH cX'
 have cY:=aH cY'
 have cZ:=aH cZ'
 have HC:=aH hC
 clear cO' cX' cY' cZ' hC
 obtain ⟨ev,hevd⟩:∃ ev:List (Fin 3)→Int,ev=fun pre=>pre.foldl (fun e i=>f2 e (if i=0 then ex else if i=1 then ey else ez)) eo:=⟨_,rfl⟩
 have ev0:ev []=eo:=by rw [hevd];rfl
 have evs:∀ (pre:List (Fin 3)) (i:Fin 3),ev (pre ++ [i])=f2 (ev pre) (if i=0 then ex else if i=1 then ey else ez):=fun pre i=>by rw [hevd];simp [List.foldl_append]
 have ev3:ev [0,1,2]=zq:=by rw [hevd,← hZ];rfl
 have hev:∀ pre,Ev (ev pre):=fun pre=>by
  rw [hevd]
  show Ev (pre.foldl _ eo)
  revert heo
  generalize eo=e0
  induction pre generalizing e0 with
  | nil=>exact fun h=>h
  | cons i l ih =>
    intro h
    refine ih _ (f2_ev h ?_)
    split
    ·exact hex
    ·split <;> assumption
 have p0:∀ pre,ev (pre ++ [0])=f2 (ev pre) ex:=fun pre=>evs pre 0
 have p1:∀ pre,ev (pre ++ [1])=f2 (ev pre) ey:=fun pre=>evs pre 1
 have p2:∀ pre,ev (pre ++ [2])=f2 (ev pre) ez:=fun pre=>evs pre 2
 clear hevd hZ evs
 refine (callsIn_wide (n:=6)).1 ?_
 refine callsIn_of_wp_marks Tryz.func73 rfl trivial ?_ rfl
 simp only [Tryz.ntmps73,List.size_toArray,List.length_cons,List.length_nil,Nat.reduceAdd,Nat.reduceSub,Array.replicate_succ,Array.replicate_zero,List.push_toArray,List.append_toArray,List.nil_append,List.cons_append]
 refine wpIn_wide.2 ?_
 go_wp2_with fail
 obtain ⟨Z,hZ⟩:∃ Z:Array Value,Z=(fK C9.zero C9.zero C9.zero C9.zero).toArray:=⟨_,rfl⟩
 have hW1:∃ W1,W1=(w.alloc (.cells #[.string a1,.string a2,.string a3,.string b1,.string b2,.string b3,.string c1,.string c2,.string c3,.string d1,.string d2,.string d3] 54 (0,0))).alloc (.cells Z 121 (0,0)):=⟨_,rfl⟩
 obtain ⟨W1,hW1⟩:=hW1
 change Calls _ _ _ ((w.alloc (.cells #[.string a1,.string a2,.string a3,.string b1,.string b2,.string b3,.string c1,.string c2,.string c3,.string d1,.string d2,.string d3] 54 (0,0))).alloc (.cells (fK C9.zero C9.zero C9.zero C9.zero).toArray 121 (0,0))) _
 rw [← hZ,← hW1]
 have hs1:W1.heap.size=w.heap.size+2:=by rw [hW1];simp
 have hb1:Below w.heap.size w W1:=by rw [hW1];exact ((aB _ w).alloc (aR _) _).alloc (by simp) _
 have hf1:W1.heap[w.heap.size]?=some (.cells #[.string a1,.string a2,.string a3,.string b1,.string b2,.string b3,.string c1,.string c2,.string c3,.string d1,.string d2,.string d3] 54 (0,0)):=by rw [hW1];exact (Below.heap_alloc _ _ _ (by simp)).trans (World.alloc_heap_new w _)
 have hr1:W1.heap[w.heap.size+1]?=some (.cells Z 121 (0,0)):=by rw [hW1];have:=World.alloc_heap_new (w.alloc (.cells #[.string a1,.string a2,.string a3,.string b1,.string b2,.string b3,.string c1,.string c2,.string c3,.string d1,.string d2,.string d3] 54 (0,0))) (.cells Z 121 (0,0));rwa [World.size_alloc] at this
 clear hW1
 refine (cO.out W1 (hG.below hb1)).mono ?_
 rintro e w1 ⟨k,rfl,hk,hb⟩
 have hs2:=hb.size
 have hf2:=(hb.block w.heap.size (by omega)).trans hf1
 have hr2:=(hb.block (w.heap.size+1) (by omega)).trans hr1
 have hb2:=hb1.trans (hb.mono (by omega))
 clear hf1 hr1 hb1 hb
 simp only [C9.val]
 have HID:=aH (aI hf2 (aI hr2 (aI hb2 hk)))
 clear hf2 hr2 hb2 hk
 have HZ:=aH hZ
 clear hZ
 go_wp2_with (first|(refine wV rfl 121 _ rfl (fK k C9.zero C9.zero C9.zero).toArray (by kernel_rfl) ?_)|(refine stop_store 121 _ _ rfl ?_))
 refine ⟨store_new3 rfl 121 _ _ rfl w1 _ _ _ (fK k C9.zero C9.zero C9.zero).toArray rfl rfl (by kernel_rfl) (by kernel_rfl) (by kernel_rfl) ?_⟩
 intro W3 g1 g2 g3 g4 g5
 have hf3:=(g2.block w.heap.size (by omega)).trans HID.out.1
 have f0:W3.cell? ⟨w.heap.size,0,none⟩=some (.string a1):=by simp [World.cell?,hf3]
 have f1:W3.cell? ⟨w.heap.size,1,none⟩=some (.string a2):=by simp [World.cell?,hf3]
 have f2:W3.cell? ⟨w.heap.size,2,none⟩=some (.string a3):=by simp [World.cell?,hf3]
 have f3:W3.cell? ⟨w.heap.size,3,none⟩=some (.string b1):=by simp [World.cell?,hf3]
 have f4:W3.cell? ⟨w.heap.size,4,none⟩=some (.string b2):=by simp [World.cell?,hf3]
 have f5:W3.cell? ⟨w.heap.size,5,none⟩=some (.string b3):=by simp [World.cell?,hf3]
 have f6:W3.cell? ⟨w.heap.size,6,none⟩=some (.string c1):=by simp [World.cell?,hf3]
 have f7:W3.cell? ⟨w.heap.size,7,none⟩=some (.string c2):=by simp [World.cell?,hf3]
 have f8:W3.cell? ⟨w.heap.size,8,none⟩=some (.string c3):=by simp [World.cell?,hf3]
 have f9:W3.cell? ⟨w.heap.size,9,none⟩=some (.string d1):=by simp [World.cell?,hf3]
 have f10:W3.cell? ⟨w.heap.size,10,none⟩=some (.string d2):=by simp [World.cell?,hf3]
 have f11:W3.cell? ⟨w.heap.size,11,none⟩=some (.string d3):=by simp [World.cell?,hf3]
 clear hf3
 have HID2:=aH (aI g1 (aI g2 (aI g3 (aI g4 g5))))
 clear g1 g2 g3 g4 g5
 go_wp2_with fail
 refine (axes_any _ _ _ _ _ _ _ _ _ _ _ _ _).mono ?_
 rintro e w4 ⟨rfl,rfl⟩
 go_wp2_with fail
 obtain ⟨v0,h0⟩:∃ v0:Value,v0 = .agg #[.string a1,.string a2,.string a3,.string b1,.string b2,.string b3,.string c1,.string c2,.string c3,.string d1,.string d2,.string d3]:=⟨_,rfl⟩
 obtain ⟨v11,h11⟩:∃ v:Value,v = .tuple #[.agg #[.int .i64 k.n1,.int .i64 k.d1,.pointer k.p1,.int .i64 k.n2,.int .i64 k.d2,.pointer k.p2,.int .i64 k.n3,.int .i64 k.d3,.pointer k.p3],.int .i64 eo]:=⟨_,rfl⟩
 obtain ⟨v13,h13⟩:∃ v:Value,v = .agg #[.string a1,.string a2,.string a3]:=⟨_,rfl⟩
 obtain ⟨v15,h15⟩:∃ v:Value,v = .agg #[.int .i64 k.n1,.int .i64 k.d1,.pointer k.p1,.int .i64 k.n2,.int .i64 k.d2,.pointer k.p2,.int .i64 k.n3,.int .i64 k.d3,.pointer k.p3]:=⟨_,rfl⟩
 obtain ⟨v18,h18⟩:∃ v:Value,v = .agg (fK k C9.zero C9.zero C9.zero).toArray:=⟨_,rfl⟩
 rw [← h0,← h11,← h13,← h15,← h18]
 obtain ⟨g1,g2,g3,g4,g5⟩:=HID2.out
 obtain ⟨hf2,hr2,hb2,hk⟩:=HID.out
 have hsz2:=hb2.size
 have hsW3:w1.heap.size+3=W3.heap.size:=g1.symm
 obtain ⟨W4,hW4⟩:∃ W4,W3.alloc (.cells #[.string a1,.string a2,.string a3,.string b1,.string b2,.string b3,.string c1,.string c2,.string c3,.string d1,.string d2,.string d3] 54 (0,0))=W4:=⟨_,rfl⟩
 have hF:W4.heap[W3.heap.size]?=some (.cells #[.string a1,.string a2,.string a3,.string b1,.string b2,.string b3,.string c1,.string c2,.string c3,.string d1,.string d2,.string d3] 54 (0,0)):=by rw [← hW4];exact World.alloc_heap_new _ _
 have hs4:W4.heap.size=W3.heap.size+1:=by rw [← hW4];simp
 have hb4:Below W3.heap.size W3 W4:=by rw [← hW4];exact (aB _ _).alloc (aR _) _
 have hb3:Below w1.heap.size w1 W4:=g2.trans (hb4.mono (by omega))
 have hinv:InvE ev w k (w1.heap.size+1+1) (w1.heap.size+1) (w.heap.size+1) o1 o2 o3 x1 x2 x3 y1 y2 y3 z1 z2 z3 [] W4:=by
  refine ⟨C9.zero,C9.zero,C9.zero,(hb4.block _ (by omega)).trans g5,fun h=>absurd h (by simp),fun h=>absurd h (by simp),fun h=>absurd h (by simp),(by rw [ev0];exact (hb4.block _ (by omega)).trans g4),?_,hk.below hb3,hb2.trans (hb3.mono (by omega))⟩
  rw [← HZ.out]
  exact (hb3.block _ (by omega)).trans hr2
 rw [hW4]
 have hEB:¬ (w1.heap.size+1:Nat)=w1.heap.size+1+1:=by omega
 have hRB:¬ (w.heap.size+1:Nat)=w1.heap.size+1+1:=by omega
 have hRE:¬ (w.heap.size+1:Nat)=w1.heap.size+1:=by omega
 have hBs:w1.heap.size+1+1<W4.heap.size:=by omega
 have hEs:w1.heap.size+1<W4.heap.size:=by omega
 have hRs:w.heap.size+1<W4.heap.size:=by omega
 have hE0:w.heap.size≤w1.heap.size+1:=by omega
 have hB0:w.heap.size≤w1.heap.size+1+1:=by omega
 have hwW4:w.heap.size≤W4.heap.size:=by omega
 clear g1 g2 g3 g4 g5 hf2 hr2 hb2 hk hsz2 hsW3 hb4 hb3 hW4 h0 h11 h13 h15 h18 HID HID2 f0 f1 f2 f3 f4 f5 f6 f7 f8 f9 f10 f11 hs1 hs2 hs4
 generalize w1.heap.size+1+1=B at *
 generalize w1.heap.size+1=E at *
 generalize w1.heap.size=p4 at *
 generalize W3.heap.size=q3 at *
 refine (wpIn_wide (n:=6)).1 ?_
 refine wpIn_rangeFunc_ownH (F:=Fence.wide) rfl (by omega) (gf:=192) (lb := #[.pointer (some ⟨q3,0,none⟩)]) rfl trivial (enters_of Tryz.func192 (by kernel_rfl) rfl)
  (axes_stops Fence.wide (6-1) trivial rfl (by omega) q3 w.heap.size a1 a2 a3 b1 b2 b3 c1 c2 c3 d1 d2 d3 W4 hwW4 hF) belowK_t (belowK_b (by omega)) (aB _ _) (fun _=>rfl)
  (InvE ev w k B E (w.heap.size+1) o1 o2 o3 x1 x2 x3 y1 y2 y3 z1 z2 z3) (fun _ _ _=>False) (rG hwW4) (fun _ _ _ _ _ hs _ _=>hs) hinv
  (fun x a' W => ∃ Bx,((x=0∧W.heap[Bx]?=some (.cells #[.string b1,.string b2,.string b3] 24 (0,0))∧a' = { tmps := #[v0,.pointer (some ⟨w.heap.size,0,none⟩),.pointer (some ⟨w.heap.size+1,0,none⟩),.int .i64 0,.pointer (some ⟨p4,0,none⟩),.pointer (some ⟨E,0,none⟩),.pointer (some ⟨B,0,none⟩),.int .i64 0,.pointer (some ⟨Bx,0,none⟩),undef,undef,v11,.pointer (some ⟨w.heap.size,0,none⟩),v13,v11,v15,.int .i64 eo,v15,v18,v0,.func (.func 192) #[] #[.pointer (some ⟨q3,0,none⟩)],.int .i64 0,.agg #[.string b1,.string b2,.string b3],undef,undef,undef,undef,undef,undef,undef,undef,undef,undef,undef,undef,undef,undef,undef,undef,undef,undef,undef,undef],defers := [] })∨(x=1∧W.heap[Bx]?=some (.cells #[.string c1,.string c2,.string c3] 24 (0,0))∧a' = { tmps := #[v0,.pointer (some ⟨w.heap.size,0,none⟩),.pointer (some ⟨w.heap.size+1,0,none⟩),.int .i64 0,.pointer (some ⟨p4,0,none⟩),.pointer (some ⟨E,0,none⟩),.pointer (some ⟨B,0,none⟩),.int .i64 1,.pointer (some ⟨Bx,0,none⟩),undef,undef,v11,.pointer (some ⟨w.heap.size,0,none⟩),v13,v11,v15,.int .i64 eo,v15,v18,v0,.func (.func 192) #[] #[.pointer (some ⟨q3,0,none⟩)],.int .i64 1,.agg #[.string c1,.string c2,.string c3],undef,undef,undef,undef,undef,undef,undef,undef,undef,undef,undef,undef,undef,undef,undef,undef,undef,undef,undef,undef],defers := [] })∨(x=2∧W.heap[Bx]?=some (.cells #[.string d1,.string d2,.string d3] 24 (0,0))∧a' = { tmps := #[v0,.pointer (some ⟨w.heap.size,0,none⟩),.pointer (some ⟨w.heap.size+1,0,none⟩),.int .i64 0,.pointer (some ⟨p4,0,none⟩),.pointer (some ⟨E,0,none⟩),.pointer (some ⟨B,0,none⟩),.int .i64 2,.pointer (some ⟨Bx,0,none⟩),undef,undef,v11,.pointer (some ⟨w.heap.size,0,none⟩),v13,v11,v15,.int .i64 eo,v15,v18,v0,.func (.func 192) #[] #[.pointer (some ⟨q3,0,none⟩)],.int .i64 2,.agg #[.string d1,.string d2,.string d3],undef,undef,undef,undef,undef,undef,undef,undef,undef,undef,undef,undef,undef,undef,undef,undef,undef,undef,undef,undef],defers := [] }))) ?hAx ?assign ?body ?done ?stop
 case hAx =>
  rintro x a' _ X Y row ⟨Bx,h2⟩ hg hr
  refine ⟨Bx,?_⟩
  rcases h2 with ⟨rfl,h3,h4⟩|⟨rfl,h3,h4⟩|⟨rfl,h3,h4⟩
  ·exact .inl ⟨rfl,(grownBy_keeps_cells hg (fun r e=>(hr r e).2) h3 rfl).trans h3,h4⟩
  ·exact .inr (.inl ⟨rfl,(grownBy_keeps_cells hg (fun r e=>(hr r e).2) h3 rfl).trans h3,h4⟩)
  ·exact .inr (.inr ⟨rfl,(grownBy_keeps_cells hg (fun r e=>(hr r e).2) h3 rfl).trans h3,h4⟩)
 case assign =>
  rintro l pre x W K hi hK
  have hiw:w.heap.size≤W.heap.size:=by obtain ⟨_,_,_,_,_,_,_,_,_,_,hb⟩:=hi;exact hb.size
  rcases fin3 x with rfl|rfl|rfl
  ·simp only [axE,axV]
   gi_wp2
   exact hK _ _ ((KeepsOthers.alloc _ _).from _) ((aB _ W).alloc hiw _) ((rG hwW4).alloc _ hi) ⟨W.heap.size,.inl ⟨by first|rfl|trivial,World.alloc_heap_new _ _,rfl⟩⟩
  ·simp only [axE,axV]
   gi_wp2
   exact hK _ _ ((KeepsOthers.alloc _ _).from _) ((aB _ W).alloc hiw _) ((rG hwW4).alloc _ hi) ⟨W.heap.size,.inr (.inl ⟨by first|rfl|trivial,World.alloc_heap_new _ _,rfl⟩)⟩
  ·simp only [axE,axV]
   gi_wp2
   exact hK _ _ ((KeepsOthers.alloc _ _).from _) ((aB _ W).alloc hiw _) ((rG hwW4).alloc _ hi) ⟨W.heap.size,.inr (.inr ⟨by first|rfl|trivial,World.alloc_heap_new _ _,rfl⟩)⟩
 case body =>
  rintro l pre x a' W _ _ ⟨x',y',z',hB,u0,u1,u2,hE,hR,hk,hbW⟩ ⟨Bx,h3⟩ _
  obtain ⟨u,hu⟩:∃ u,ev pre=u:=⟨_,rfl⟩
  have hue:=hev pre
  rw [hu] at hE hue
  have hBlt:=(Array.getElem?_eq_some_iff.1 hB).1
  have hElt:=(Array.getElem?_eq_some_iff.1 hE).1
  have hRlt:=(Array.getElem?_eq_some_iff.1 hR).1
  have hGW:=aH (hG.below hbW)
  have HW:=aH (aI hE (aI hR (aI hk hbW)))
  have HU:=aH (aI u0 (aI u1 u2))
  have HBB:=aH hB
  clear hB u0 u1 u2 hE hR hk hbW
  rcases h3 with ⟨rfl,h3,rfl⟩|⟨rfl,h3,rfl⟩|⟨rfl,h3,rfl⟩
  ·have cb0:W.cell? ⟨Bx,0,none⟩=some (.string b1):=by simp [World.cell?,h3]
   have cb1:W.cell? ⟨Bx,1,none⟩=some (.string b2):=by simp [World.cell?,h3]
   have cb2:W.cell? ⟨Bx,2,none⟩=some (.string b3):=by simp [World.cell?,h3]
   clear h3
   gi_wp2
   refine ⟨trivial,(CallsIn.inRound l (callsIn_wide.2 (cX.out W hGW.out))).mono ?_⟩
   rintro e w2 ⟨m,rfl,hm,hbl⟩
   have hs2:=hbl.size
   have hB2:=(hbl.block B hBlt).trans HBB.out
   have hE2:=(hbl.block E hElt).trans HW.out.1
   obtain ⟨q0,r0,q1,r1,q2,r2,q3,r3,q4,r4,q5,r5,q6,r6,q7,r7,q8,r8⟩:=up9 x' (show B<w2.heap.size by omega) hB2 (⟨rfl,rfl,rfl,rfl,rfl,rfl,rfl,rfl,rfl⟩:N9 _ _ 9 10 11 12 13 14 15 16 17)
   have qE:∀ o,(w2.alloc o).cell? ⟨E,0,none⟩=some (.int .i64 u):=qX (by omega) (by simp [World.cell?,hE2])
   have H2:=aH (aI hm (aI hbl (aI hB2 hE2)))
   clear hm hbl hB2 hE2
   simp only [C9.val]
   gi_wp2
   obtain ⟨hm,hbl,hB2,hE2⟩:=H2.out
   obtain ⟨hE,hR,hk,hbW⟩:=HW.out
   obtain ⟨u0,u1,u2⟩:=HU.out
   have hBa:(w2.alloc (m9 m)).heap[B]?=some (.cells (fK k x' y' z').toArray 121 (0,0)):=(((aB _ w2).alloc (aR _) _).block B (by omega)).trans hB2
   have hT:Turned B (.cells (fK k m y' z').toArray 121 (0,0)) (w2.alloc (m9 m)) (st9 (w2.alloc (m9 m)) B 9 10 11 12 13 14 15 16 17 m):=turn9 9 hBa _ _ _ _ _ _ _ _ _ (by kernel_rfl)
   obtain ⟨X1,hX1⟩:∃ X1,st9 (w2.alloc (m9 m)) B 9 10 11 12 13 14 15 16 17 m=X1:=⟨_,rfl⟩
   rw [hX1] at hT
   unfold st9 m9 at hX1
   rw [hX1]
   have hsX:X1.heap.size=w2.heap.size+1:=by rw [hT.size];simp
   have hh:(X1.alloc (.cells #[.int .i64 u,.int .i64 ex] 28 (0,0))).heap[w2.heap.size+1]?=some (.cells #[.int .i64 u,.int .i64 ex] 28 (0,0)):=by rw [← hsX];exact World.alloc_heap_new _ _
   clear hX1 hBa
   obtain ⟨v,hv⟩:∃ v,f2 u ex=v:=⟨_,rfl⟩
   refine ⟨trivial,(CallsIn.inRound l (callsIn_wide.2 (pT hue hex hv _ (w2.heap.size+1) 28 hh))).mono ?_⟩
   rintro e w5 ⟨rfl,h5⟩
   obtain ⟨r1,r2,r3,r4,r4',r5,r6⟩:=oA (u:=u) (v:=v) (k:=k) (S:=W4.heap.size) (n:=w.heap.size) hbl HBB.out hE hEB hT h5 hbW.size hB0 hE0
   have hE5:w5.heap[E]?=some (.cells #[.int .i64 u] 28 (0,0)):=by have hs5:=h5.size;exact (h5.block E (by simp;omega)).trans ((((aB _ X1).alloc (aR _) _).block E (by omega)).trans ((hT.block E hEB).trans ((((aB _ w2).alloc (aR _) _).block E (by omega)).trans hE2)))
   have qE5:w5.cell? ⟨E,0,none⟩=some (.int .i64 u):=by simp [World.cell?,hE5]
   have rE5:w5.frozen? ⟨E,0,none⟩=false:=aY hE5 0
   have HF:KeepsFrom W4.heap.size W (w5.setCell ⟨E,0,none⟩ (.int .i64 v))∧Below w.heap.size W (w5.setCell ⟨E,0,none⟩ (.int .i64 v))∧InvE ev w k B E (w.heap.size+1) o1 o2 o3 x1 x2 x3 y1 y2 y3 z1 z2 z3 (pre ++ [0]) (w5.setCell ⟨E,0,none⟩ (.int .i64 v)) :=
    ⟨r5,r6,m,y',z',r1,fun _=>Vc.kext hm r4,fun h=>Vc.kext (Vc.kext (u1 (by simpa using h)) r4') r4,fun h=>Vc.kext (Vc.kext (u2 (by simpa using h)) r4') r4,(by rw [p0 pre,hu,hv];exact r2),(r3 _ hRlt hRB hRE).trans hR,Vc.kext (Vc.kext hk r4') r4,hbW.trans r6⟩
   have HG:=aH HF
   clear HF r1 r2 r3 r4 r4' r5 r6 hE5 hT hm hbl hB2 hE2 hE hR hk hbW u0 u1 u2 hh h5 hsX HW HU H2 hu hue
   gi_wp2
   exact HG.out
  ·have cb0:W.cell? ⟨Bx,0,none⟩=some (.string c1):=by simp [World.cell?,h3]
   have cb1:W.cell? ⟨Bx,1,none⟩=some (.string c2):=by simp [World.cell?,h3]
   have cb2:W.cell? ⟨Bx,2,none⟩=some (.string c3):=by simp [World.cell?,h3]
   clear h3
   gi_wp2
   refine ⟨trivial,(CallsIn.inRound l (callsIn_wide.2 (cY.out W hGW.out))).mono ?_⟩
   rintro e w2 ⟨m,rfl,hm,hbl⟩
   have hs2:=hbl.size
   have hB2:=(hbl.block B hBlt).trans HBB.out
   have hE2:=(hbl.block E hElt).trans HW.out.1
   obtain ⟨q0,r0,q1,r1,q2,r2,q3,r3,q4,r4,q5,r5,q6,r6,q7,r7,q8,r8⟩:=up9 y' (show B<w2.heap.size by omega) hB2 (⟨rfl,rfl,rfl,rfl,rfl,rfl,rfl,rfl,rfl⟩:N9 _ _ 18 19 20 21 22 23 24 25 26)
   have qE:∀ o,(w2.alloc o).cell? ⟨E,0,none⟩=some (.int .i64 u):=qX (by omega) (by simp [World.cell?,hE2])
   have H2:=aH (aI hm (aI hbl (aI hB2 hE2)))
   clear hm hbl hB2 hE2
   simp only [C9.val]
   gi_wp2
   obtain ⟨hm,hbl,hB2,hE2⟩:=H2.out
   obtain ⟨hE,hR,hk,hbW⟩:=HW.out
   obtain ⟨u0,u1,u2⟩:=HU.out
   have hBa:(w2.alloc (m9 m)).heap[B]?=some (.cells (fK k x' y' z').toArray 121 (0,0)):=(((aB _ w2).alloc (aR _) _).block B (by omega)).trans hB2
   have hT:Turned B (.cells (fK k x' m z').toArray 121 (0,0)) (w2.alloc (m9 m)) (st9 (w2.alloc (m9 m)) B 18 19 20 21 22 23 24 25 26 m):=turn9 18 hBa _ _ _ _ _ _ _ _ _ (by kernel_rfl)
   obtain ⟨X1,hX1⟩:∃ X1,st9 (w2.alloc (m9 m)) B 18 19 20 21 22 23 24 25 26 m=X1:=⟨_,rfl⟩
   rw [hX1] at hT
   unfold st9 m9 at hX1
   rw [hX1]
   have hsX:X1.heap.size=w2.heap.size+1:=by rw [hT.size];simp
   have hh:(X1.alloc (.cells #[.int .i64 u,.int .i64 ey] 28 (0,0))).heap[w2.heap.size+1]?=some (.cells #[.int .i64 u,.int .i64 ey] 28 (0,0)):=by rw [← hsX];exact World.alloc_heap_new _ _
   clear hX1 hBa
   obtain ⟨v,hv⟩:∃ v,f2 u ey=v:=⟨_,rfl⟩
   refine ⟨trivial,(CallsIn.inRound l (callsIn_wide.2 (pT hue hey hv _ (w2.heap.size+1) 28 hh))).mono ?_⟩
   rintro e w5 ⟨rfl,h5⟩
   obtain ⟨r1,r2,r3,r4,r4',r5,r6⟩:=oA (u:=u) (v:=v) (k:=k) (S:=W4.heap.size) (n:=w.heap.size) hbl HBB.out hE hEB hT h5 hbW.size hB0 hE0
   have hE5:w5.heap[E]?=some (.cells #[.int .i64 u] 28 (0,0)):=by have hs5:=h5.size;exact (h5.block E (by simp;omega)).trans ((((aB _ X1).alloc (aR _) _).block E (by omega)).trans ((hT.block E hEB).trans ((((aB _ w2).alloc (aR _) _).block E (by omega)).trans hE2)))
   have qE5:w5.cell? ⟨E,0,none⟩=some (.int .i64 u):=by simp [World.cell?,hE5]
   have rE5:w5.frozen? ⟨E,0,none⟩=false:=aY hE5 0
   have HF:KeepsFrom W4.heap.size W (w5.setCell ⟨E,0,none⟩ (.int .i64 v))∧Below w.heap.size W (w5.setCell ⟨E,0,none⟩ (.int .i64 v))∧InvE ev w k B E (w.heap.size+1) o1 o2 o3 x1 x2 x3 y1 y2 y3 z1 z2 z3 (pre ++ [1]) (w5.setCell ⟨E,0,none⟩ (.int .i64 v)) :=
    ⟨r5,r6,x',m,z',r1,fun h=>Vc.kext (Vc.kext (u0 (by simpa using h)) r4') r4,fun _=>Vc.kext hm r4,fun h=>Vc.kext (Vc.kext (u2 (by simpa using h)) r4') r4,(by rw [p1 pre,hu,hv];exact r2),(r3 _ hRlt hRB hRE).trans hR,Vc.kext (Vc.kext hk r4') r4,hbW.trans r6⟩
   have HG:=aH HF
   clear HF r1 r2 r3 r4 r4' r5 r6 hE5 hT hm hbl hB2 hE2 hE hR hk hbW u0 u1 u2 hh h5 hsX HW HU H2 hu hue
   gi_wp2
   exact HG.out
  ·have cb0:W.cell? ⟨Bx,0,none⟩=some (.string d1):=by simp [World.cell?,h3]
   have cb1:W.cell? ⟨Bx,1,none⟩=some (.string d2):=by simp [World.cell?,h3]
   have cb2:W.cell? ⟨Bx,2,none⟩=some (.string d3):=by simp [World.cell?,h3]
   clear h3
   gi_wp2
   refine ⟨trivial,(CallsIn.inRound l (callsIn_wide.2 (cZ.out W hGW.out))).mono ?_⟩
   rintro e w2 ⟨m,rfl,hm,hbl⟩
   have hs2:=hbl.size
   have hB2:=(hbl.block B hBlt).trans HBB.out
   have hE2:=(hbl.block E hElt).trans HW.out.1
   obtain ⟨q0,r0,q1,r1,q2,r2,q3,r3,q4,r4,q5,r5,q6,r6,q7,r7,q8,r8⟩:=up9 z' (show B<w2.heap.size by omega) hB2 (⟨rfl,rfl,rfl,rfl,rfl,rfl,rfl,rfl,rfl⟩:N9 _ _ 27 28 29 30 31 32 33 34 35)
   have qE:∀ o,(w2.alloc o).cell? ⟨E,0,none⟩=some (.int .i64 u):=qX (by omega) (by simp [World.cell?,hE2])
   have H2:=aH (aI hm (aI hbl (aI hB2 hE2)))
   clear hm hbl hB2 hE2
   simp only [C9.val]
   gi_wp2
   obtain ⟨hm,hbl,hB2,hE2⟩:=H2.out
   obtain ⟨hE,hR,hk,hbW⟩:=HW.out
   obtain ⟨u0,u1,u2⟩:=HU.out
   have hBa:(w2.alloc (m9 m)).heap[B]?=some (.cells (fK k x' y' z').toArray 121 (0,0)):=(((aB _ w2).alloc (aR _) _).block B (by omega)).trans hB2
   have hT:Turned B (.cells (fK k x' y' m).toArray 121 (0,0)) (w2.alloc (m9 m)) (st9 (w2.alloc (m9 m)) B 27 28 29 30 31 32 33 34 35 m):=turn9 27 hBa _ _ _ _ _ _ _ _ _ (by kernel_rfl)
   obtain ⟨X1,hX1⟩:∃ X1,st9 (w2.alloc (m9 m)) B 27 28 29 30 31 32 33 34 35 m=X1:=⟨_,rfl⟩
   rw [hX1] at hT
   unfold st9 m9 at hX1
   rw [hX1]
   have hsX:X1.heap.size=w2.heap.size+1:=by rw [hT.size];simp
   have hh:(X1.alloc (.cells #[.int .i64 u,.int .i64 ez] 28 (0,0))).heap[w2.heap.size+1]?=some (.cells #[.int .i64 u,.int .i64 ez] 28 (0,0)):=by rw [← hsX];exact World.alloc_heap_new _ _
   clear hX1 hBa
   obtain ⟨v,hv⟩:∃ v,f2 u ez=v:=⟨_,rfl⟩
   refine ⟨trivial,(CallsIn.inRound l (callsIn_wide.2 (pT hue hez hv _ (w2.heap.size+1) 28 hh))).mono ?_⟩
   rintro e w5 ⟨rfl,h5⟩
   obtain ⟨r1,r2,r3,r4,r4',r5,r6⟩:=oA (u:=u) (v:=v) (k:=k) (S:=W4.heap.size) (n:=w.heap.size) hbl HBB.out hE hEB hT h5 hbW.size hB0 hE0
   have hE5:w5.heap[E]?=some (.cells #[.int .i64 u] 28 (0,0)):=by have hs5:=h5.size;exact (h5.block E (by simp;omega)).trans ((((aB _ X1).alloc (aR _) _).block E (by omega)).trans ((hT.block E hEB).trans ((((aB _ w2).alloc (aR _) _).block E (by omega)).trans hE2)))
   have qE5:w5.cell? ⟨E,0,none⟩=some (.int .i64 u):=by simp [World.cell?,hE5]
   have rE5:w5.frozen? ⟨E,0,none⟩=false:=aY hE5 0
   have HF:KeepsFrom W4.heap.size W (w5.setCell ⟨E,0,none⟩ (.int .i64 v))∧Below w.heap.size W (w5.setCell ⟨E,0,none⟩ (.int .i64 v))∧InvE ev w k B E (w.heap.size+1) o1 o2 o3 x1 x2 x3 y1 y2 y3 z1 z2 z3 (pre ++ [2]) (w5.setCell ⟨E,0,none⟩ (.int .i64 v)) :=
    ⟨r5,r6,x',y',m,r1,fun h=>Vc.kext (Vc.kext (u0 (by simpa using h)) r4') r4,fun h=>Vc.kext (Vc.kext (u1 (by simpa using h)) r4') r4,fun _=>Vc.kext hm r4,(by rw [p2 pre,hu,hv];exact r2),(r3 _ hRlt hRB hRE).trans hR,Vc.kext (Vc.kext hk r4') r4,hbW.trans r6⟩
   have HG:=aH HF
   clear HF r1 r2 r3 r4 r4' r5 r6 hE5 hT hm hbl hB2 hE2 hE hR hk hbW u0 u1 u2 hh h5 hsX HW HU H2 hu hue
   gi_wp2
   exact HG.out
 case done =>
  rintro D ys W hD rfl ⟨x',y',z',hB,u0,u1,u2,hE,hR,hk,hbW⟩ hK
  rw [ev3] at hE
  have vx:=u0 (by simp)
  have vy:=u1 (by simp)
  have vz:=u2 (by simp)
  by_cases hZ0:zq=0
  ·subst hZ0
   have qE:W.cell? ⟨E,0,none⟩=some (.int .i64 0):=by simp [World.cell?,hE]
   have HW:=aH (aI hB (aI hR (aI hk (aI vx (aI vy (aI vz (aI hbW hK)))))))
   clear u0 u1 u2 hB hR hk vx vy vz hbW hK hE
   go_wp2_with fail
   refine wp_region_ty Kn [w.heap.size+1] (by kernel_rfl) (by kernel_rfl) ?_
   refine bI (.agg (fK k x' y' z').toArray) rfl (fun A w' hB hk=>?_) ?_
   ·simp [known,specOf,Kd.spec,Sp.is,isVar,Oper.looksAt,Op.operands,Call.operands,Act.eval] at hk
    exact load_all rfl (by first|exact hk|simpa [Act.eval] using hk) (hB.blk HW.out.1 (by simp;omega)) Tryz.underlying121 rfl (by kernel_rfl)
   refine bI (.agg (fK k x' y' z').toArray) rfl (fun A w' hB hk=>?_) ?_
   ·simp [known,specOf,Kd.spec,Sp.is,isVar,Oper.looksAt,Op.operands,Call.operands,Act.eval] at hk
    exact load_all rfl (by first|exact hk|simpa [Act.eval] using hk) (hB.blk HW.out.1 (by simp;omega)) Tryz.underlying121 rfl (by kernel_rfl)
   refine aN (Sp.is (.int .i64 zc)) (Sp.is_stable _ _) rfl (fun A w' hB hk=>?_) ?_
   ·simp [known,specOf,Kd.spec,Sp.is,isVar,Oper.looksAt,Op.operands,Call.operands,Act.eval] at hk
    simp [go_sem,hk]
    refine aF ?_
    have hx:=Base.extT hB HW.out.2.1 (lU _ _ _ _ _)
    exact (HC.out (by first|trivial|rfl) _ _ _ _ _ (Vc.kext HW.out.2.2.1 hx) (Vc.kext HW.out.2.2.2.1 hx) (Vc.kext HW.out.2.2.2.2.1 hx) (Vc.kext HW.out.2.2.2.2.2.1 hx)).mono (fun e w'' ⟨e1,e2⟩=>⟨_,e1,e2,rfl⟩)
   refine gM (w.heap.size+1) (.cells (fK C9.zero C9.zero C9.zero C9.zero).toArray 121 (0,0)) (fun o _=>o = .cells (fK k x' y' z').toArray 121 (0,0)) (fun _ _ _ h _=>h) rfl rfl (by simp) HW.out.2.1 (lU _ _ _ _ _) (fun A w' hB hk h0=>?_) ?_
   ·simp [known,specOf,Kd.spec,Sp.is,isVar,Oper.looksAt,Op.operands,Call.operands,Act.eval] at hk
    have hst:=kV (P:=Tryz.prog) (ρ:=A.eval) (w:=w') (o := { dst:=none,op:=Op.store 121 (Operand.tmp 2) (Operand.tmp 40),type:=0,pos := "frame.go:38",after := #[{ on:=0,ground:=Ground.data },{ on:=2,ground:=Ground.chain },{ on:=0,ground:=Ground.phase },{ on:=1,ground:=Ground.textOnly Departure.lateStores },{ on:=2,ground:=Ground.textOnly Departure.lateStoresUnsure }],guard:=none }) (T':=121) (g:=w.heap.size+1) (off:=0) (n:=36) (cs:=fK C9.zero C9.zero C9.zero C9.zero) (es:=fK k x' y' z') rfl (by simp [Act.eval,hk]) (by simp [Act.eval,hk,Value.cells]) (by kernel_rfl) rfl (frL_one _ _ _ _) h0 (show 0+36≤36 by omega)
    have e:List.take 0 (fK C9.zero C9.zero C9.zero C9.zero)++fK k x' y' z'++List.drop (0+(fK k x' y' z').length) (fK C9.zero C9.zero C9.zero C9.zero)=fK k x' y' z':=by kernel_rfl
    rw [e] at hst
    rw [hst.1]
    exact ⟨_,⟨hst.2.os,hst.2.tape,hst.2.output,hst.2.size,hst.2.at_,hst.2.block⟩,rfl⟩
   refine aW _ ?_ (by first|exact .inl rfl|exact .inr rfl) (by rfl) (by simp [specOf,Kd.spec];rfl) ?_ rfl ?_
   ·exact Sp.is_stable _ _
   refine ⟨by first|rfl|decide,fun f w2 hB hF hAp=>?_⟩;simp [Final1,Sp.is,isVar] at hF;simp only [frameOf]
   obtain ⟨f3,hw2,_,_,_⟩:=hF
   have hDR:¬ D=w.heap.size+1:=by
    intro e
    have h1:=HW.out.2.1
    have h2:=HW.out.2.2.2.2.2.2.2
    rw [e,h1] at h2
    injection h2 with h2
    cases h2
   have hK2:=hB.blk HW.out.2.2.2.2.2.2.2 (by simp;omega)
   have HV:=aH (aI hw2 (aI hB hK2))
   clear hAp
   have HBB:=aH hB
   clear hB
   go_wp2
   have hB:=HBB.out
   refine ⟨by simp,.inl ⟨_,_,rfl,run_takeDeferred hK2,?_⟩⟩
   have hg5:(w2.putObj D (.deferred none)).heap[w.heap.size+1]?=some (.cells (fK k x' y' z').toArray 121 (0,0)):=(World.putObj_heap_other (by omega)).trans hw2
   have hl:=run_loadVar_mid (P:=Tryz.prog) (w2.putObj D (.deferred none)) (w.heap.size+1) 0 121 (((fK k x' y' z').drop 0).take 36) _ (pU hg5 0 36) Tryz.underlying121 rfl (by kernel_rfl)
   have e36:((fK k x' y' z').drop 0).take 36=fK k x' y' z':=by kernel_rfl
   rw [e36] at hl
   have hbe:=Base.belowT hB HW.out.2.2.2.2.2.2.1 (by omega)
   have hx1:=Base.extT hB HW.out.2.1 (lU _ _ _ _ _)
   have hx2:Go.Proofs.YtpjknnddanhgkaaGreatDoor.Ext Kn w2 (w2.putObj D (.deferred none)):=sO (grownBy_putObj' w2 D _) (fun r e=>by cases e;exact ⟨_,hK2,rfl⟩)
   have hDw:w.heap.size≤D:=by omega
   refine ⟨.tuple #[.agg (fK k x' y' z').toArray,.int .i64 zc],?_,k,x',y',z',rfl,Vc.kext (Vc.kext HW.out.2.2.1 hx1) hx2,Vc.kext (Vc.kext HW.out.2.2.2.1 hx1) hx2,Vc.kext (Vc.kext HW.out.2.2.2.2.1 hx1) hx2,Vc.kext (Vc.kext HW.out.2.2.2.2.2.1 hx1) hx2,hbe.trans (belowK_b (w:=w) (aR _) w2 D _ _ hDw hK2 rfl rfl)⟩
   refine (kB (vs := [.agg (fK k x' y' z').toArray,.int .i64 zc]) ?_).trans rfl
   show (List.mapM (uQ _) [.cell 2 121,.tmp 3]).run _ _=_
   simp [List.mapM_cons,uQ,Act.put,asAddr,Sem.run_bind,Result.andThen,hl,f3]
  ·have n1:(zq==0)=false:=by rw [beq_eq_false_iff_ne];exact hZ0
   have qE:W.cell? ⟨E,0,none⟩=some (.int .i64 zq):=by simp [World.cell?,hE]
   have HW:=aH (aI hE (aI hR (aI hk (aI vx (aI vy (aI vz (aI hbW hK)))))))
   clear u0 u1 u2 hB hR hk vx vy vz hbW hK hE
   go_wp2_with fail
   refine wp_region_ty Kn [w.heap.size+1] (by kernel_rfl) (by kernel_rfl) ?_
   refine bI (.agg (fK C9.zero C9.zero C9.zero C9.zero).toArray) rfl (fun A w' hB hk=>?_) ?_
   ·refine bJ ?_
    exact bL (by kernel_rfl) _
   refine bI (.int .i64 zq) rfl (fun A w' hB hk=>?_) ?_
   ·simp [known,specOf,Kd.spec,Sp.is,isVar,Oper.looksAt,Op.operands,Call.operands,Act.eval] at hk
    have hc:=hB.blk HW.out.1 (by simp;omega)
    have hc:w'.cell? ⟨E,0,none⟩=some (.int .i64 zq):=by simp [World.cell?,hc]
    simp [go_sem,hk,hc]
   refine gM (w.heap.size+1) (.cells (fK C9.zero C9.zero C9.zero C9.zero).toArray 121 (0,0)) (fun o _=>o = .cells (fK C9.zero C9.zero C9.zero C9.zero).toArray 121 (0,0)) (fun _ _ _ h _=>h) rfl rfl (by simp) HW.out.2.1 (lU _ _ _ _ _) (fun A w' hB hk h0=>?_) ?_
   ·simp [known,specOf,Kd.spec,Sp.is,isVar,Oper.looksAt,Op.operands,Call.operands,Act.eval] at hk
    have hst:=kV (P:=Tryz.prog) (ρ:=A.eval) (w:=w') (o := { dst:=none,op:=Op.store 121 (Operand.tmp 2) (Operand.tmp 38),type:=0,pos := "frame.go:36",after := #[{ on:=0,ground:=Ground.data },{ on:=0,ground:=Ground.phase },{ on:=1,ground:=Ground.textOnly Departure.lateStores }],guard:=none }) (T':=121) (g:=w.heap.size+1) (off:=0) (n:=36) (cs:=fK C9.zero C9.zero C9.zero C9.zero) (es:=fK C9.zero C9.zero C9.zero C9.zero) rfl (by simp [Act.eval,hk]) (by simp [Act.eval,hk,Value.cells]) (by kernel_rfl) rfl (frL_one _ _ _ _) h0 (show 0+36≤36 by omega)
    have e:List.take 0 (fK C9.zero C9.zero C9.zero C9.zero)++fK C9.zero C9.zero C9.zero C9.zero++List.drop (0+(fK C9.zero C9.zero C9.zero C9.zero).length) (fK C9.zero C9.zero C9.zero C9.zero)=fK C9.zero C9.zero C9.zero C9.zero:=by kernel_rfl
    rw [e] at hst
    rw [hst.1]
    exact ⟨_,⟨hst.2.os,hst.2.tape,hst.2.output,hst.2.size,hst.2.at_,hst.2.block⟩,rfl⟩
   refine aW _ ?_ (by first|exact .inl rfl|exact .inr rfl) (by rfl) (by simp [specOf,Kd.spec];rfl) ?_ rfl ?_
   ·exact Sp.is_stable _ _
   refine ⟨by first|rfl|decide,fun f w2 hB hF hAp=>?_⟩;simp [Final1,Sp.is,isVar] at hF;simp only [frameOf]
   obtain ⟨f3,hw2,_⟩:=hF
   have hDR:¬ D=w.heap.size+1:=by
    intro e
    have h1:=HW.out.2.1
    have h2:=HW.out.2.2.2.2.2.2.2
    rw [e,h1] at h2
    injection h2 with h2
    cases h2
   have hK2:=hB.blk HW.out.2.2.2.2.2.2.2 (by simp;omega)
   have HV:=aH (aI hw2 (aI hB hK2))
   clear hAp
   have HBB:=aH hB
   clear hB
   go_wp2
   have hB:=HBB.out
   refine ⟨by simp,.inl ⟨_,_,rfl,run_takeDeferred hK2,?_⟩⟩
   have hg5:(w2.putObj D (.deferred none)).heap[w.heap.size+1]?=some (.cells (fK C9.zero C9.zero C9.zero C9.zero).toArray 121 (0,0)):=(World.putObj_heap_other (by omega)).trans hw2
   have hl:=run_loadVar_mid (P:=Tryz.prog) (w2.putObj D (.deferred none)) (w.heap.size+1) 0 121 (((fK C9.zero C9.zero C9.zero C9.zero).drop 0).take 36) _ (pU hg5 0 36) Tryz.underlying121 rfl (by kernel_rfl)
   have e36:((fK C9.zero C9.zero C9.zero C9.zero).drop 0).take 36=fK C9.zero C9.zero C9.zero C9.zero:=by kernel_rfl
   rw [e36] at hl
   have hbe:=Base.belowT hB HW.out.2.2.2.2.2.2.1 (by omega)
   have hx1:=Base.extT hB HW.out.2.1 (lU _ _ _ _ _)
   have hx2:Go.Proofs.YtpjknnddanhgkaaGreatDoor.Ext Kn w2 (w2.putObj D (.deferred none)):=sO (grownBy_putObj' w2 D _) (fun r e=>by cases e;exact ⟨_,hK2,rfl⟩)
   have hDw:w.heap.size≤D:=by omega
   refine ⟨.tuple #[.agg (fK C9.zero C9.zero C9.zero C9.zero).toArray,.int .i64 zq],?_,rfl,⟨k,Vc.kext (Vc.kext HW.out.2.2.1 hx1) hx2⟩,⟨x',Vc.kext (Vc.kext HW.out.2.2.2.1 hx1) hx2⟩,⟨y',Vc.kext (Vc.kext HW.out.2.2.2.2.1 hx1) hx2⟩,⟨z',Vc.kext (Vc.kext HW.out.2.2.2.2.2.1 hx1) hx2⟩,hbe.trans (belowK_b (w:=w) (aR _) w2 D _ _ hDw hK2 rfl rfl)⟩
   refine (kB (vs := [.agg (fK C9.zero C9.zero C9.zero C9.zero).toArray,.int .i64 zq]) ?_).trans rfl
   show (List.mapM (uQ _) [.cell 2 121,.tmp 3]).run _ _=_
   simp [List.mapM_cons,uQ,Act.put,asAddr,Sem.run_bind,Result.andThen,hl,f3]
 case stop=>rintro D c pre W _ _ h _;exact h.elim
end Fr
namespace Fr
open Go.RowKit Go.Shelf Ab Pl
set_option maxRecDepth 100000 in
theorem wX (o1 o2 o3 x1 x2 x3 y1 y2 y3 z1 z2 z3:Rat) (ho:iC o1 o2 o3) (hx:iC x1 x2 x3) (hy:iC y1 y2 y3) (hz:iC z1 z2 z3) (lm:Lm 25 x1 x2 x3 y1 y2 y3 z1 z2 z3) (hax:Ax x1 x2 x3 y1 y2 y3 z1 z2 z3) (w:World) (hG:Gl w) :
 Calls Tryz.prog 73 #[.agg #[.string (writeB o1),.string (writeB o2),.string (writeB o3),.string (writeB x1),.string (writeB x2),.string (writeB x3),.string (writeB y1),.string (writeB y2),.string (writeB y3),.string (writeB z1),.string (writeB z2),.string (writeB z3)]] w fun e w' => ∃ o x y z:C9,e = .returned (.tuple #[.agg (fK o x y z).toArray,.int .i64 0])∧Vc w' o.val o1 o2 o3∧Vc w' x.val x1 x2 x3∧Vc w' y.val y1 y2 y3∧Vc w' z.val z1 z2 z3∧Below w.heap.size w w':=by
 have h:=wW (writeB o1) (writeB o2) (writeB o3) (writeB x1) (writeB x2) (writeB x3) (writeB y1) (writeB y2) (writeB y3) (writeB z1) (writeB z2) (writeB z3) o1 o2 o3 x1 x2 x3 y1 y2 y3 z1 z2 z3 0 0 0 0 0 0
  (.inl rfl) (.inl rfl) (.inl rfl) (.inl rfl) rfl (fun W hW=>kG ho W hW) (fun W hW=>kG hx W hW) (fun W hW=>kG hy W hW) (fun W hW=>kG hz W hW)
  (fun _ _ _ _ _ _ v0 v1 v2 v3=>check_any v0 v1 v2 v3 lm hax) w hG
 rw [if_pos rfl] at h
 simpa only [if_true] using h
theorem yJ {β:List Nat} {w:World}:∀ (l:List ByteArray) (cs:List Value),holdsL β (l.map cT) cs w→cs=l.map Value.string
 | [],cs,h=>h
 | b::l,cs,⟨x,y,e,h1,h2⟩=>by
   have h1:x = [.string b]:=h1
   rw [e,h1,yJ l y h2]
   rfl
section
variable {o1 o2 o3 x1 x2 x3 y1 y2 y3 z1 z2 z3:Rat}
theorem readFrameF (h:Wf o1 o2 o3 x1 x2 x3 y1 y2 y3 z1 z2 z3) (hax:Ax x1 x2 x3 y1 y2 y3 z1 z2 z3):jX 73 [kF o1 o2 o3 x1 x2 x3 y1 y2 y3 z1 z2 z3] (okFr o1 o2 o3 x1 x2 x3 y1 y2 y3 z1 z2 z3):=by
 intro β w vs hG hv
 obtain ⟨v,rfl,cs,rfl,h1⟩:=dQ hv
 have e:=yJ [writeB o1,writeB o2,writeB o3,writeB x1,writeB x2,writeB x3,writeB y1,writeB y2,writeB y3,writeB z1,writeB z2,writeB z3] cs h1
 rw [e]
 refine (wX o1 o2 o3 x1 x2 x3 y1 y2 y3 z1 z2 z3 h.o h.x h.y h.z (h.lm.mono (by decide)) hax w hG).mono ?_
 rintro e w' ⟨o,x,y,z,e1,v0,v1,v2,v3,hb⟩
 exact ⟨_,e1,hb,[.agg (fK o x y z).toArray,.int .i64 0],rfl,_,_,rfl,fr_holds v0 v1 v2 v3,_,_,rfl,⟨rfl,rfl⟩,rfl⟩
theorem fv_of (h:Wf o1 o2 o3 x1 x2 x3 y1 y2 y3 z1 z2 z3) (hax:Ax x1 x2 x3 y1 y2 y3 z1 z2 z3):Fv o1 o2 o3 x1 x2 x3 y1 y2 y3 z1 z2 z3:=⟨h,hax,readFrameF h hax⟩
end
end Fr
namespace Ab
open Go.RowKit Pl
inductive AvL:List (AV Kn)→List (AV Kn)→Prop where
 | nil:AvL [] []
 | ag {k m l l'}:LitL k m→AvL l l'→AvL (.fv (.ag k)::l) (.fv (.ag m)::l')
 | txt {b:ByteArray} {l l'}:AvL l l'→AvL (.fv (.sc (cT b))::l) (.fv (.sc (.lit (.string b)))::l')
 | same {x:AV Kn} {l l'}:AvL l l'→AvL (x::l) (x::l')
theorem AvL.to {β:List Nat} {w:World} {l m:List (AV Kn)} (h:AvL l m):∀ {vs:List Value},holdsA β m vs w→holdsA β l vs w:=by
 induction h with
 | nil=>intro vs h;exact h
 | ag hl _ ih=>rintro vs ⟨v,r,e,h1,h2⟩;exact ⟨v,r,e,(zM hl).2 h1,ih h2⟩
 | txt _ ih=>rintro vs ⟨v,r,e,h1,h2⟩;exact ⟨v,r,e,sc_lit.2 h1,ih h2⟩
 | same _ ih=>rintro vs ⟨v,r,e,h1,h2⟩;exact ⟨v,r,e,h1,ih h2⟩
inductive FvL:List (FV Kn)→List (FV Kn)→Prop where
 | nil:FvL [] []
 | ag {k m l l'}:LitL k m→FvL l l'→FvL (.ag k::l) (.ag m::l')
 | txt {b:ByteArray} {l l'}:FvL l l'→FvL (.sc (cT b)::l) (.sc (.lit (.string b))::l')
 | same {x:FV Kn} {l l'}:FvL l l'→FvL (x::l) (x::l')
theorem FvL.to {β:List Nat} {w:World} {l m:List (FV Kn)} (h:FvL l m):∀ {vs:List Value},holdsF β l vs w→holdsF β m vs w:=by
 induction h with
 | nil=>intro vs h;exact h
 | ag hl _ ih=>rintro vs ⟨v,r,e,h1,h2⟩;exact ⟨v,r,e,(zM hl).1 h1,ih h2⟩
 | txt _ ih=>rintro vs ⟨v,r,e,h1,h2⟩;exact ⟨v,r,e,(sc_lit (β:=β)).1 h1,ih h2⟩
 | same _ ih=>rintro vs ⟨v,r,e,h1,h2⟩;exact ⟨v,r,e,h1,ih h2⟩
theorem FitsW.lits {P:Program} {I:World→Prop} {f:FuncId} {l l' : List (AV Kn)} {r r' : List (FV Kn)} (h:FitsW P I f l (.tup r)) (ha:AvL l l') (hr:FvL r r'):FitsW P I f l' (.tup r') :=
 (h.args fun _ _ _ hv=>ha.to hv).res fun _ _ _ ⟨vs,e,hv⟩=>⟨vs,e,hr.to hv⟩
theorem Fits.lits {P:Program} {f:FuncId} {l l' : List (AV Kn)} {k m:List (Seg Kn)} (h:Fits P f l (.fv (.ag k))) (ha:AvL l l') (hr:LitL k m):Fits P f l' (.fv (.ag m)):=fun β w vs hv =>
 (h β w vs (ha.to hv)).mono fun e w' ⟨v,e1,e2,e3⟩=>⟨v,e1,e2,(zM hr).1 e3⟩
theorem vc_eq {P:Program} {f:FuncId} {l:List (AV Kn)} {a b c a' b' c' : Rat} (h:Fits P f l (vc a b c)) (e1:a=a') (e2:b=b') (e3:c=c'):Fits P f l (vc a' b' c'):=by
 subst e1
 subst e2
 subst e3
 exact h
theorem zZ {q:Rat} (hn:q.num.natAbs<1000000000) (hd:q.den<1000000000):Wr q :=
 ⟨Nat.le_trans (decB_size (k:=8) hn) (by decide),Nat.le_trans (decB_size (k:=8) hd) (by decide)⟩
theorem oB {z:Int} (h:z.natAbs<1000000000):Wr (z:Rat):=zZ h (show 1<1000000000 by omega)
theorem jU {q:Rat} {n:Int} {d:Nat} {a b:ByteArray} (hn:q.num=n) (hd:q.den=d) (h1:d≠1) (ha:aX n=a) (hb:decB d=b):writeB q=a++(⟨#[47]⟩++b):=by
 rw [eT (by rw [hd];exact h1),hn,hd,ha,hb]
theorem x0:writeB ((0:Int):Rat)=⟨#[48]⟩:=cW (by omega) (bH (n:=0) (by omega))
theorem x1:writeB ((1:Int):Rat)=⟨#[49]⟩:=cW (by omega) (bH (n:=1) (by omega))
theorem x2:writeB ((2:Int):Rat)=⟨#[50]⟩:=cW (by omega) (bH (n:=2) (by omega))
theorem x3:writeB ((3:Int):Rat)=⟨#[51]⟩:=cW (by omega) (bH (n:=3) (by omega))
theorem x4:writeB ((4:Int):Rat)=⟨#[52]⟩:=cW (by omega) (bH (n:=4) (by omega))
theorem x5:writeB ((5:Int):Rat)=⟨#[53]⟩:=cW (by omega) (bH (n:=5) (by omega))
theorem x7:writeB ((7:Int):Rat)=⟨#[55]⟩:=cW (by omega) (bH (n:=7) (by omega))
theorem x10:writeB ((10:Int):Rat)=⟨#[49,48]⟩:=cW (by omega) (lO (n:=10) (by omega) (by omega))
theorem x24:writeB ((24:Int):Rat)=⟨#[50,52]⟩:=cW (by omega) (lO (n:=24) (by omega) (by omega))
theorem x25:writeB ((25:Int):Rat)=⟨#[50,53]⟩:=cW (by omega) (lO (n:=25) (by omega) (by omega))
theorem x28:writeB ((28:Int):Rat)=⟨#[50,56]⟩:=cW (by omega) (lO (n:=28) (by omega) (by omega))
theorem x30:writeB ((30:Int):Rat)=⟨#[51,48]⟩:=cW (by omega) (lO (n:=30) (by omega) (by omega))
theorem xm1:writeB ((-1:Int):Rat)=⟨#[45,49]⟩:=(fH (z := -1) (by omega) (b:=⟨#[49]⟩) (by rw [show Int.natAbs (-1)=1 from rfl];exact bH (n:=1) (by omega))).trans (ba_ext rfl)
theorem xm2:writeB ((-2:Int):Rat)=⟨#[45,50]⟩:=(fH (z := -2) (by omega) (b:=⟨#[50]⟩) (by rw [show Int.natAbs (-2)=2 from rfl];exact bH (n:=2) (by omega))).trans (ba_ext rfl)
theorem xm4:writeB ((-4:Int):Rat)=⟨#[45,52]⟩:=(fH (z := -4) (by omega) (b:=⟨#[52]⟩) (by rw [show Int.natAbs (-4)=4 from rfl];exact bH (n:=4) (by omega))).trans (ba_ext rfl)
theorem xm7:writeB ((-7:Int):Rat)=⟨#[45,55]⟩:=(fH (z := -7) (by omega) (b:=⟨#[55]⟩) (by rw [show Int.natAbs (-7)=7 from rfl];exact bH (n:=7) (by omega))).trans (ba_ext rfl)
theorem xm24:writeB ((-24:Int):Rat)=⟨#[45,50,52]⟩:=(fH (z := -24) (by omega) (b:=⟨#[50,52]⟩) (by rw [show Int.natAbs (-24)=24 from rfl];exact lO (n:=24) (by omega) (by omega))).trans (ba_ext rfl)
theorem r0:Wr ((0:Int):Rat):=oB (by decide)
theorem r1:Wr ((1:Int):Rat):=oB (by decide)
theorem r2:Wr ((2:Int):Rat):=oB (by decide)
theorem r3:Wr ((3:Int):Rat):=oB (by decide)
theorem r4:Wr ((4:Int):Rat):=oB (by decide)
theorem r5:Wr ((5:Int):Rat):=oB (by decide)
theorem r7:Wr ((7:Int):Rat):=oB (by decide)
theorem r10:Wr ((10:Int):Rat):=oB (by decide)
theorem r24:Wr ((24:Int):Rat):=oB (by decide)
theorem r25:Wr ((25:Int):Rat):=oB (by decide)
theorem r28:Wr ((28:Int):Rat):=oB (by decide)
theorem r30:Wr ((30:Int):Rat):=oB (by decide)
theorem rm1:Wr ((-1:Int):Rat):=oB (by decide)
theorem rm2:Wr ((-2:Int):Rat):=oB (by decide)
theorem rm4:Wr ((-4:Int):Rat):=oB (by decide)
theorem rm7:Wr ((-7:Int):Rat):=oB (by decide)
theorem rm24:Wr ((-24:Int):Rat):=oB (by decide)
theorem nh12:(mkRat (1) 2).num=1:=by kernel_rfl
theorem dh12:(mkRat (1) 2).den=2:=by kernel_rfl
theorem xh12:writeB (mkRat (1) 2)=⟨#[49,47,50]⟩:=(jU nh12 dh12 (by decide) (a:=⟨#[49]⟩) ((dF (1)).trans x1) (bH (n:=2) (by omega))).trans (ba_ext rfl)
theorem rh12:Wr (mkRat (1) 2):=zZ (by rw [nh12];decide) (by rw [dh12];decide)
theorem nm13:(mkRat (-1) 3).num = -1:=by kernel_rfl
theorem dm13:(mkRat (-1) 3).den=3:=by kernel_rfl
theorem xm13:writeB (mkRat (-1) 3)=⟨#[45,49,47,51]⟩:=(jU nm13 dm13 (by decide) (a:=⟨#[45,49]⟩) ((dF (-1)).trans xm1) (bH (n:=3) (by omega))).trans (ba_ext rfl)
theorem rm13:Wr (mkRat (-1) 3):=zZ (by rw [nm13];decide) (by rw [dm13];decide)
theorem nq252:(mkRat (25) 2).num=25:=by kernel_rfl
theorem dq252:(mkRat (25) 2).den=2:=by kernel_rfl
theorem xq252:writeB (mkRat (25) 2)=⟨#[50,53,47,50]⟩:=(jU nq252 dq252 (by decide) (a:=⟨#[50,53]⟩) ((dF (25)).trans x25) (bH (n:=2) (by omega))).trans (ba_ext rfl)
theorem rq252:Wr (mkRat (25) 2):=zZ (by rw [nq252];decide) (by rw [dq252];decide)
theorem nm12:(mkRat (-1) 2).num = -1:=by kernel_rfl
theorem dm12:(mkRat (-1) 2).den=2:=by kernel_rfl
theorem xm12:writeB (mkRat (-1) 2)=⟨#[45,49,47,50]⟩:=(jU nm12 dm12 (by decide) (a:=⟨#[45,49]⟩) ((dF (-1)).trans xm1) (bH (n:=2) (by omega))).trans (ba_ext rfl)
theorem rm12:Wr (mkRat (-1) 2):=zZ (by rw [nm12];decide) (by rw [dm12];decide)
theorem nq23:(mkRat (2) 3).num=2:=by kernel_rfl
theorem dq23:(mkRat (2) 3).den=3:=by kernel_rfl
theorem xq23:writeB (mkRat (2) 3)=⟨#[50,47,51]⟩:=(jU nq23 dq23 (by decide) (a:=⟨#[50]⟩) ((dF (2)).trans x2) (bH (n:=3) (by omega))).trans (ba_ext rfl)
theorem rq23:Wr (mkRat (2) 3):=zZ (by rw [nq23];decide) (by rw [dq23];decide)
theorem lv_2_0_4:jF 20 [it (2),it (0),it (4)] (.fv (.ag [.lit (.string ⟨#[50]⟩),.lit (.string ⟨#[48]⟩),.lit (.string ⟨#[52]⟩)]):AV Kn):=by
 have h:=dJ (a:=2) (b:=0) (c:=4) (by constructor <;> omega) (by constructor <;> omega) (by constructor <;> omega)
 simp only [vS,jV,dU,qN,hS,kF,gF,x0,x2,x4] at h
 exact h.lits (.same (.same (.same .nil))) (.txt (.txt (.txt .nil)))
theorem lv_m1_0_m2:jF 20 [it (-1),it (0),it (-2)] (.fv (.ag [.lit (.string ⟨#[45,49]⟩),.lit (.string ⟨#[48]⟩),.lit (.string ⟨#[45,50]⟩)]):AV Kn):=by
 have h:=dJ (a := -1) (b:=0) (c := -2) (by constructor <;> omega) (by constructor <;> omega) (by constructor <;> omega)
 simp only [vS,jV,dU,qN,hS,kF,gF,x0,xm1,xm2] at h
 exact h.lits (.same (.same (.same .nil))) (.txt (.txt (.txt .nil)))
theorem lv_1_0_0:jF 20 [it (1),it (0),it (0)] (.fv (.ag [.lit (.string ⟨#[49]⟩),.lit (.string ⟨#[48]⟩),.lit (.string ⟨#[48]⟩)]):AV Kn):=by
 have h:=dJ (a:=1) (b:=0) (c:=0) (by constructor <;> omega) (by constructor <;> omega) (by constructor <;> omega)
 simp only [vS,jV,dU,qN,hS,kF,gF,x0,x1] at h
 exact h.lits (.same (.same (.same .nil))) (.txt (.txt (.txt .nil)))
theorem lv_0_1_0:jF 20 [it (0),it (1),it (0)] (.fv (.ag [.lit (.string ⟨#[48]⟩),.lit (.string ⟨#[49]⟩),.lit (.string ⟨#[48]⟩)]):AV Kn):=by
 have h:=dJ (a:=0) (b:=1) (c:=0) (by constructor <;> omega) (by constructor <;> omega) (by constructor <;> omega)
 simp only [vS,jV,dU,qN,hS,kF,gF,x0,x1] at h
 exact h.lits (.same (.same (.same .nil))) (.txt (.txt (.txt .nil)))
theorem lv_0_0_1:jF 20 [it (0),it (0),it (1)] (.fv (.ag [.lit (.string ⟨#[48]⟩),.lit (.string ⟨#[48]⟩),.lit (.string ⟨#[49]⟩)]):AV Kn):=by
 have h:=dJ (a:=0) (b:=0) (c:=1) (by constructor <;> omega) (by constructor <;> omega) (by constructor <;> omega)
 simp only [vS,jV,dU,qN,hS,kF,gF,x0,x1] at h
 exact h.lits (.same (.same (.same .nil))) (.txt (.txt (.txt .nil)))
theorem lv_0_0_0:jF 20 [it (0),it (0),it (0)] (.fv (.ag [.lit (.string ⟨#[48]⟩),.lit (.string ⟨#[48]⟩),.lit (.string ⟨#[48]⟩)]):AV Kn):=by
 have h:=dJ (a:=0) (b:=0) (c:=0) (by constructor <;> omega) (by constructor <;> omega) (by constructor <;> omega)
 simp only [vS,jV,dU,qN,hS,kF,gF,x0] at h
 exact h.lits (.same (.same (.same .nil))) (.txt (.txt (.txt .nil)))
theorem lv_1_1_1:jF 20 [it (1),it (1),it (1)] (.fv (.ag [.lit (.string ⟨#[49]⟩),.lit (.string ⟨#[49]⟩),.lit (.string ⟨#[49]⟩)]):AV Kn):=by
 have h:=dJ (a:=1) (b:=1) (c:=1) (by constructor <;> omega) (by constructor <;> omega) (by constructor <;> omega)
 simp only [vS,jV,dU,qN,hS,kF,gF,x1] at h
 exact h.lits (.same (.same (.same .nil))) (.txt (.txt (.txt .nil)))
theorem lv_1_1_0:jF 20 [it (1),it (1),it (0)] (.fv (.ag [.lit (.string ⟨#[49]⟩),.lit (.string ⟨#[49]⟩),.lit (.string ⟨#[48]⟩)]):AV Kn):=by
 have h:=dJ (a:=1) (b:=1) (c:=0) (by constructor <;> omega) (by constructor <;> omega) (by constructor <;> omega)
 simp only [vS,jV,dU,qN,hS,kF,gF,x0,x1] at h
 exact h.lits (.same (.same (.same .nil))) (.txt (.txt (.txt .nil)))
theorem lv_0_7_5:jF 20 [it (0),it (7),it (5)] (.fv (.ag [.lit (.string ⟨#[48]⟩),.lit (.string ⟨#[55]⟩),.lit (.string ⟨#[53]⟩)]):AV Kn):=by
 have h:=dJ (a:=0) (b:=7) (c:=5) (by constructor <;> omega) (by constructor <;> omega) (by constructor <;> omega)
 simp only [vS,jV,dU,qN,hS,kF,gF,x0,x5,x7] at h
 exact h.lits (.same (.same (.same .nil))) (.txt (.txt (.txt .nil)))
theorem lv_m1_0_0:jF 20 [it (-1),it (0),it (0)] (.fv (.ag [.lit (.string ⟨#[45,49]⟩),.lit (.string ⟨#[48]⟩),.lit (.string ⟨#[48]⟩)]):AV Kn):=by
 have h:=dJ (a := -1) (b:=0) (c:=0) (by constructor <;> omega) (by constructor <;> omega) (by constructor <;> omega)
 simp only [vS,jV,dU,qN,hS,kF,gF,x0,xm1] at h
 exact h.lits (.same (.same (.same .nil))) (.txt (.txt (.txt .nil)))
theorem lv_4_4_0:jF 20 [it (4),it (4),it (0)] (.fv (.ag [.lit (.string ⟨#[52]⟩),.lit (.string ⟨#[52]⟩),.lit (.string ⟨#[48]⟩)]):AV Kn):=by
 have h:=dJ (a:=4) (b:=4) (c:=0) (by constructor <;> omega) (by constructor <;> omega) (by constructor <;> omega)
 simp only [vS,jV,dU,qN,hS,kF,gF,x0,x4] at h
 exact h.lits (.same (.same (.same .nil))) (.txt (.txt (.txt .nil)))
theorem lv_m7_24_0:jF 20 [it (-7),it (24),it (0)] (.fv (.ag [.lit (.string ⟨#[45,55]⟩),.lit (.string ⟨#[50,52]⟩),.lit (.string ⟨#[48]⟩)]):AV Kn):=by
 have h:=dJ (a := -7) (b:=24) (c:=0) (by constructor <;> omega) (by constructor <;> omega) (by constructor <;> omega)
 simp only [vS,jV,dU,qN,hS,kF,gF,x0,x24,xm7] at h
 exact h.lits (.same (.same (.same .nil))) (.txt (.txt (.txt .nil)))
theorem lv_5_5_0:jF 20 [it (5),it (5),it (0)] (.fv (.ag [.lit (.string ⟨#[53]⟩),.lit (.string ⟨#[53]⟩),.lit (.string ⟨#[48]⟩)]):AV Kn):=by
 have h:=dJ (a:=5) (b:=5) (c:=0) (by constructor <;> omega) (by constructor <;> omega) (by constructor <;> omega)
 simp only [vS,jV,dU,qN,hS,kF,gF,x0,x5] at h
 exact h.lits (.same (.same (.same .nil))) (.txt (.txt (.txt .nil)))
theorem lv_10_7_1:jF 20 [it (10),it (7),it (1)] (.fv (.ag [.lit (.string ⟨#[49,48]⟩),.lit (.string ⟨#[55]⟩),.lit (.string ⟨#[49]⟩)]):AV Kn):=by
 have h:=dJ (a:=10) (b:=7) (c:=1) (by constructor <;> omega) (by constructor <;> omega) (by constructor <;> omega)
 simp only [vS,jV,dU,qN,hS,kF,gF,x1,x10,x7] at h
 exact h.lits (.same (.same (.same .nil))) (.txt (.txt (.txt .nil)))
theorem aAa:jF 25 ([]:List (AV Kn)) (.fv (.ag [.lit (.string ⟨#[49]⟩),.lit (.string ⟨#[48]⟩),.lit (.string ⟨#[48]⟩),.lit (.string ⟨#[51]⟩),.lit (.string ⟨#[52]⟩),.lit (.string ⟨#[48]⟩),.lit (.string ⟨#[45,52]⟩),.lit (.string ⟨#[51]⟩),.lit (.string ⟨#[48]⟩),.lit (.string ⟨#[48]⟩),.lit (.string ⟨#[48]⟩),.lit (.string ⟨#[53]⟩)]):AV Kn):=by
 have h:=lawFrameF
 simp only [vS,jV,dU,qN,hS,kF,gF,x0,x1,x3,x4,x5,xm4] at h
 exact h.lits .nil (.txt (.txt (.txt (.txt (.txt (.txt (.txt (.txt (.txt (.txt (.txt (.txt (.nil)))))))))))))
theorem wfF:Wf ((1:Int):Rat) ((0:Int):Rat) ((0:Int):Rat) ((3:Int):Rat) ((4:Int):Rat) ((0:Int):Rat) ((-4:Int):Rat) ((3:Int):Rat) ((0:Int):Rat) ((0:Int):Rat) ((0:Int):Rat) ((5:Int):Rat):=⟨⟨r1,r0,r0⟩,⟨r3,r4,r0⟩,⟨rm4,r3,r0⟩,⟨r0,r0,r5⟩⟩
theorem axF:Ax ((3:Int):Rat) ((4:Int):Rat) ((0:Int):Rat) ((-4:Int):Rat) ((3:Int):Rat) ((0:Int):Rat) ((0:Int):Rat) ((0:Int):Rat) ((5:Int):Rat):=⟨by kernel_rfl,by kernel_rfl,by kernel_rfl,by kernel_rfl,by kernel_rfl,by kernel_rfl,by kernel_rfl⟩
theorem fvF:Fv ((1:Int):Rat) ((0:Int):Rat) ((0:Int):Rat) ((3:Int):Rat) ((4:Int):Rat) ((0:Int):Rat) ((-4:Int):Rat) ((3:Int):Rat) ((0:Int):Rat) ((0:Int):Rat) ((0:Int):Rat) ((5:Int):Rat):=Go.Proofs.YtpjknnddanhgkaaGreatDoor.Fr.fv_of wfF axF
theorem hv111 {d:Rat} (h:Wr d):Hv 1 1 1 d:=⟨by constructor <;> omega,by constructor <;> omega,by constructor <;> omega,h,ck_111⟩
theorem hv100 {d:Rat} (h:Wr d):Hv 1 0 0 d:=⟨by constructor <;> omega,by constructor <;> omega,by constructor <;> omega,h,ck_100⟩
theorem hv302 {d:Rat} (h:Wr d):Hv 3 0 (-2) d:=⟨by constructor <;> omega,by constructor <;> omega,by constructor <;> omega,h,ck_302⟩
theorem mX {a:Rat} (h:decide (a=0)=false):a≠0:=of_decide_eq_false h
theorem asc_1250:∀ (j:Nat) (b:UInt8),(⟨#[49,50,46,53,48]⟩:ByteArray).data.toList[j]?=some b→b.toNat<128:=by
 intro j b h
 have:=List.mem_of_getElem? h
 simp at this
 rcases this with rfl|rfl|rfl|rfl|rfl <;> decide
theorem dig_12:AllDig (aC ⟨#[49,50]⟩):=by intro c hc;simp [aC] at hc;rcases hc with rfl|rfl <;> decide
theorem dig_50:AllDig (aC ⟨#[53,48]⟩):=by intro c hc;simp [aC] at hc;rcases hc with rfl|rfl <;> decide
theorem dec_100:decB 100=⟨#[49,48,48]⟩:=by unfold decB;rw [eH (by omega),eH (by omega),cG (by omega)];rfl
theorem dec_1250:decB 1250=⟨#[49,50,53,48]⟩:=by unfold decB;rw [eH (by omega),eH (by omega),eH (by omega),cG (by omega)];rfl
theorem q1250:mkRat (sg false 1250) 100=mkRat 25 2:=by kernel_rfl
theorem lv_small {n k:Nat} (h:n<1000000000):Lv k n:=(Lv.one n (by rw [aL];omega)).mono (Nat.zero_le _)
theorem eParse:jX 19 [lt ⟨#[49,50,46,53,48]⟩] (.tup [.sc (.lit (.string ⟨#[50,53,47,50]⟩)),.sc z0]):=by
 have hp:jF 58 [tx ⟨#[49,50,46,53,48]⟩] (.tup [.sc (cT (decB 1250)),.sc (cT (decB 100)),.sc z0]):=by
  have h:=partsDot (s:=⟨#[49,50,46,53,48]⟩) (a:=⟨#[49,50]⟩) (b:=⟨#[53,48]⟩) (z:=⟨#[48,48]⟩) (k:=2) (indexAnyF (by decide) asc_1250 (by kernel_rfl)) (by decide) (by decide) (ba_ext rfl) (ba_ext rfl) dig_12 (by decide) dig_50 (by decide) rfl (repeatF (by decide) (by decide) (ba_ext (by kernel_rfl))) (by decide)
  have e1:(⟨#[49,50]⟩++⟨#[53,48]⟩:ByteArray)=decB 1250:=dec_1250.symm
  have e2:(⟨#[49]⟩++⟨#[48,48]⟩:ByteArray)=decB 100:=dec_100.symm
  rw [e1,e2] at h
  exact h
 have h:=parseF' (s:=⟨#[49,50,46,53,48]⟩) (n:=1250) (d:=100) (by decide) (by kernel_rfl) hp (by rw [dec_1250];decide) (by rw [dec_100];decide) (lv_small (by decide)) (lv_small (by decide)) (by decide) (by rw [q1250];exact rq252.lf.mono (by decide)) (by rw [q1250];exact rq252.n) (by rw [q1250];exact rq252.d)
 rw [q1250,xq252] at h
 exact h.lits (.txt .nil) (.txt (.same .nil))
theorem eAlong:jX 18 [(.fv (.ag [.lit (.string ⟨#[50]⟩),.lit (.string ⟨#[48]⟩),.lit (.string ⟨#[52]⟩)]):AV Kn),(.fv (.ag [.lit (.string ⟨#[45,49]⟩),.lit (.string ⟨#[48]⟩),.lit (.string ⟨#[45,50]⟩)]):AV Kn)] (.tup [.sc (.lit (.string ⟨#[45,49,47,50]⟩)),.sc z0]):=by
 have h:=sG (a:=((2:Int):Rat)) (b:=((0:Int):Rat)) (c:=((4:Int):Rat)) (x:=((-1:Int):Rat)) (y:=((0:Int):Rat)) (z:=((-2:Int):Rat)) ⟨r2,r0,r4⟩ ⟨rm1,r0,rm2⟩ (by kernel_rfl) (by kernel_rfl) (mX (by kernel_rfl)) (by rw [show dt ((-1:Int):Rat) ((0:Int):Rat) ((-2:Int):Rat) ((2:Int):Rat) ((0:Int):Rat) ((4:Int):Rat)/dt ((2:Int):Rat) ((0:Int):Rat) ((4:Int):Rat) ((2:Int):Rat) ((0:Int):Rat) ((4:Int):Rat)=mkRat (-1) 2 from by kernel_rfl];exact rm12)
 rw [show dt ((-1:Int):Rat) ((0:Int):Rat) ((-2:Int):Rat) ((2:Int):Rat) ((0:Int):Rat) ((4:Int):Rat)/dt ((2:Int):Rat) ((0:Int):Rat) ((4:Int):Rat) ((2:Int):Rat) ((0:Int):Rat) ((4:Int):Rat)=mkRat (-1) 2 from by kernel_rfl] at h
 simp only [vS,jV,dU,qN,hS,kF,gF,x0,x2,x4,xm1,xm12,xm2] at h
 exact h.lits (.ag (.txt (.txt (.txt .nil))) (.ag (.txt (.txt (.txt .nil))) .nil)) (.txt (.same .nil))
theorem eMake:jX 21 [(.fv (.ag [.lit (.string ⟨#[49,47,50]⟩),.lit (.string ⟨#[48]⟩),.lit (.string ⟨#[45,49,47,51]⟩)]):AV Kn),lt ⟨#[53]⟩] (.tup [.ag [.lit (.int .i64 (3)),.lit (.int .i64 (0)),.lit (.int .i64 (-2)),.lit (.string ⟨#[51,48]⟩)],.sc z0]):=by
 have h:=zH (n1:=mkRat 1 2) (n2:=((0:Int):Rat)) (n3:=mkRat (-1) 3) (d:=((5:Int):Rat)) (z1:=3) (z2:=0) (z3 := -2) (e:=((30:Int):Rat)) ⟨rh12,r0,rm13⟩ r5 ⟨rh12.lf.mono (by decide),r0.lf.mono (by decide),rm13.lf.mono (by decide),r5.lf.mono (by decide),fun ⟨e,_,_⟩=>mX (a:=mkRat 1 2) (by kernel_rfl) e,by kernel_rfl,by kernel_rfl,by kernel_rfl,by kernel_rfl,by constructor <;> omega,by constructor <;> omega,by constructor <;> omega,r30⟩
 simp only [vS,jV,dU,qN,hS,kF,gF,x0,x30,x5,xh12,xm13] at h
 exact h.lits (.ag (.txt (.txt (.txt .nil))) (.txt .nil)) (.ag (.same (.same (.same (.txt .nil)))) (.same .nil))
theorem eThrough:jX 22 [(.fv (.ag [.lit (.string ⟨#[49]⟩),.lit (.string ⟨#[48]⟩),.lit (.string ⟨#[48]⟩)]):AV Kn),(.fv (.ag [.lit (.string ⟨#[48]⟩),.lit (.string ⟨#[49]⟩),.lit (.string ⟨#[48]⟩)]):AV Kn),(.fv (.ag [.lit (.string ⟨#[48]⟩),.lit (.string ⟨#[48]⟩),.lit (.string ⟨#[49]⟩)]):AV Kn)] (.tup [.ag [.lit (.int .i64 (1)),.lit (.int .i64 (1)),.lit (.int .i64 (1)),.lit (.string ⟨#[49]⟩)],.sc z0]):=by
 have h:=apiThroughF (a1:=((1:Int):Rat)) (a2:=((0:Int):Rat)) (a3:=((0:Int):Rat)) (b1:=((0:Int):Rat)) (b2:=((1:Int):Rat)) (b3:=((0:Int):Rat)) (c1:=((0:Int):Rat)) (c2:=((0:Int):Rat)) (c3:=((1:Int):Rat)) (m1:=((1:Int):Rat)) (m2:=((1:Int):Rat)) (m3:=((1:Int):Rat)) (z1:=1) (z2:=1) (z3:=1) (e:=((1:Int):Rat)) ⟨r1,r0,r0⟩ ⟨r0,r1,r0⟩ ⟨r0,r0,r1⟩ (by kernel_rfl) (by kernel_rfl) (by kernel_rfl) ⟨r1.lf.mono (by decide),r1.lf.mono (by decide),r1.lf.mono (by decide),by rw [show dt ((1:Int):Rat) ((1:Int):Rat) ((1:Int):Rat) ((1:Int):Rat) ((0:Int):Rat) ((0:Int):Rat)=((1:Int):Rat) from by kernel_rfl];exact r1.lf.mono (by decide),fun ⟨e,_,_⟩=>mX (a:=((1:Int):Rat)) (by kernel_rfl) e,by kernel_rfl,by kernel_rfl,by kernel_rfl,by kernel_rfl,by constructor <;> omega,by constructor <;> omega,by constructor <;> omega,r1⟩
 simp only [vS,jV,dU,qN,hS,kF,gF,x0,x1] at h
 exact h.lits (.ag (.txt (.txt (.txt .nil))) (.ag (.txt (.txt (.txt .nil))) (.ag (.txt (.txt (.txt .nil))) .nil))) (.ag (.same (.same (.same (.txt .nil)))) (.same .nil))
theorem eMirror:jX 23 [(.fv (.ag [.lit (.int .i64 (1)),.lit (.int .i64 (1)),.lit (.int .i64 (1)),.lit (.string ⟨#[49]⟩)]):AV Kn),(.fv (.ag [.lit (.string ⟨#[48]⟩),.lit (.string ⟨#[48]⟩),.lit (.string ⟨#[48]⟩)]):AV Kn)] (.tup [.ag [.lit (.string ⟨#[50,47,51]⟩),.lit (.string ⟨#[50,47,51]⟩),.lit (.string ⟨#[50,47,51]⟩)],.sc z0]):=by
 have h:=apiMirrorF (z1:=1) (z2:=1) (z3:=1) (d:=((1:Int):Rat)) (p1:=((0:Int):Rat)) (p2:=((0:Int):Rat)) (p3:=((0:Int):Rat)) (m1:=mkRat 2 3) (m2:=mkRat 2 3) (m3:=mkRat 2 3) (hv111 r1) ⟨r0,r0,r0⟩ (mX (by kernel_rfl)) (by kernel_rfl) (by kernel_rfl) (by kernel_rfl) ⟨rq23,rq23,rq23⟩
 simp only [vS,jV,dU,qN,hS,kF,gF,x0,x1,xq23] at h
 exact h.lits (.ag (.same (.same (.same (.txt .nil)))) (.ag (.txt (.txt (.txt .nil))) .nil)) (.ag (.txt (.txt (.txt .nil))) (.same .nil))
theorem ePlace:jX 24 [(.fv (.ag [.lit (.string ⟨#[49]⟩),.lit (.string ⟨#[48]⟩),.lit (.string ⟨#[48]⟩),.lit (.string ⟨#[51]⟩),.lit (.string ⟨#[52]⟩),.lit (.string ⟨#[48]⟩),.lit (.string ⟨#[45,52]⟩),.lit (.string ⟨#[51]⟩),.lit (.string ⟨#[48]⟩),.lit (.string ⟨#[48]⟩),.lit (.string ⟨#[48]⟩),.lit (.string ⟨#[53]⟩)]):AV Kn),(.fv (.ag [.lit (.string ⟨#[49]⟩),.lit (.string ⟨#[49]⟩),.lit (.string ⟨#[49]⟩)]):AV Kn)] (.tup [.ag [.lit (.string ⟨#[48]⟩),.lit (.string ⟨#[55]⟩),.lit (.string ⟨#[53]⟩)],.sc z0]):=by
 have h:=apiPlaceF (o1:=((1:Int):Rat)) (o2:=((0:Int):Rat)) (o3:=((0:Int):Rat)) (x1:=((3:Int):Rat)) (x2:=((4:Int):Rat)) (x3:=((0:Int):Rat)) (y1:=((-4:Int):Rat)) (y2:=((3:Int):Rat)) (y3:=((0:Int):Rat)) (z1:=((0:Int):Rat)) (z2:=((0:Int):Rat)) (z3:=((5:Int):Rat)) (p1:=((1:Int):Rat)) (p2:=((1:Int):Rat)) (p3:=((1:Int):Rat)) (m1:=((0:Int):Rat)) (m2:=((7:Int):Rat)) (m3:=((5:Int):Rat)) fvF ⟨r1,r1,r1⟩ (by kernel_rfl) (by kernel_rfl) (by kernel_rfl) ⟨r0,r7,r5⟩
 simp only [vS,jV,dU,qN,hS,kF,gF,x0,x1,x3,x4,x5,x7,xm4] at h
 exact h.lits (.ag (.txt (.txt (.txt (.txt (.txt (.txt (.txt (.txt (.txt (.txt (.txt (.txt (.nil))))))))))))) (.ag (.txt (.txt (.txt .nil))) .nil)) (.ag (.txt (.txt (.txt .nil))) (.same .nil))
theorem r325:Wr (mkRat 3 25):=zZ (by rw [show (mkRat 3 25).num=3 from by kernel_rfl];decide) (by rw [show (mkRat 3 25).den=25 from by kernel_rfl];decide)
theorem r425:Wr (mkRat 4 25):=zZ (by rw [show (mkRat 4 25).num=4 from by kernel_rfl];decide) (by rw [show (mkRat 4 25).den=25 from by kernel_rfl];decide)
theorem r2825:Wr (mkRat 28 25):=zZ (by rw [show (mkRat 28 25).num=28 from by kernel_rfl];decide) (by rw [show (mkRat 28 25).den=25 from by kernel_rfl];decide)
theorem ePlaceHalf:jX 26 [(.fv (.ag [.lit (.string ⟨#[49]⟩),.lit (.string ⟨#[48]⟩),.lit (.string ⟨#[48]⟩),.lit (.string ⟨#[51]⟩),.lit (.string ⟨#[52]⟩),.lit (.string ⟨#[48]⟩),.lit (.string ⟨#[45,52]⟩),.lit (.string ⟨#[51]⟩),.lit (.string ⟨#[48]⟩),.lit (.string ⟨#[48]⟩),.lit (.string ⟨#[48]⟩),.lit (.string ⟨#[53]⟩)]):AV Kn),(.fv (.ag [.lit (.int .i64 (1)),.lit (.int .i64 (0)),.lit (.int .i64 (0)),.lit (.string ⟨#[49]⟩)]):AV Kn)] (.tup [.ag [.lit (.int .i64 (3)),.lit (.int .i64 (4)),.lit (.int .i64 (0)),.lit (.string ⟨#[50,56]⟩)],.sc z0]):=by
 have h:=wP (o1:=((1:Int):Rat)) (o2:=((0:Int):Rat)) (o3:=((0:Int):Rat)) (x1:=((3:Int):Rat)) (x2:=((4:Int):Rat)) (x3:=((0:Int):Rat)) (y1:=((-4:Int):Rat)) (y2:=((3:Int):Rat)) (y3:=((0:Int):Rat)) (z1:=((0:Int):Rat)) (z2:=((0:Int):Rat)) (z3:=((5:Int):Rat)) (n1:=1) (n2:=0) (n3:=0) (d:=((1:Int):Rat)) (k1:=3) (k2:=4) (k3:=0) (e:=((28:Int):Rat)) fvF (hv100 r1) ⟨mX (by kernel_rfl),mX (by kernel_rfl),mX (by kernel_rfl)⟩ (q1:=mkRat 3 25) (q2:=mkRat 4 25) (q3:=((0:Int):Rat)) (by kernel_rfl) (by kernel_rfl) (by kernel_rfl) ⟨r325.lf.mono (by decide),r425.lf.mono (by decide),r0.lf.mono (by decide),by rw [show ((1:Int):Rat)+dt (mkRat 3 25) (mkRat 4 25) ((0:Int):Rat) ((1:Int):Rat) ((0:Int):Rat) ((0:Int):Rat)=mkRat 28 25 from by kernel_rfl];exact r2825.lf.mono (by decide),fun ⟨e,_,_⟩=>mX (a:=mkRat 3 25) (by kernel_rfl) e,by kernel_rfl,by kernel_rfl,by kernel_rfl,by kernel_rfl,by constructor <;> omega,by constructor <;> omega,by constructor <;> omega,r28⟩
 simp only [vS,jV,dU,qN,hS,kF,gF,x0,x1,x28,x3,x4,x5,xm4] at h
 exact h.lits (.ag (.txt (.txt (.txt (.txt (.txt (.txt (.txt (.txt (.txt (.txt (.txt (.txt (.nil))))))))))))) (.ag (.same (.same (.same (.txt .nil)))) .nil)) (.ag (.same (.same (.same (.txt .nil)))) (.same .nil))
theorem td_100:jF 82 [num ((1:Int):Rat),vc ((0:Int):Rat) ((0:Int):Rat) ((1:Int):Rat),vc ((1:Int):Rat) ((0:Int):Rat) ((0:Int):Rat)] (vc ((0:Int):Rat) ((1:Int):Rat) ((0:Int):Rat)):=by
 have h:=zI (w:=((1:Int):Rat)) (u1:=((0:Int):Rat)) (u2:=((0:Int):Rat)) (u3:=((1:Int):Rat)) (v1:=((1:Int):Rat)) (v2:=((0:Int):Rat)) (v3:=((0:Int):Rat)) (r1.lf.mono (by decide)) (r0.lf.mono (by decide)) (r0.lf.mono (by decide)) (r1.lf.mono (by decide)) (r1.lf.mono (by decide)) (r0.lf.mono (by decide)) (r0.lf.mono (by decide)) (mX (by kernel_rfl))
 exact vc_eq h (by kernel_rfl) (by kernel_rfl) (by kernel_rfl)
theorem td_010:jF 82 [num ((1:Int):Rat),vc ((0:Int):Rat) ((0:Int):Rat) ((1:Int):Rat),vc ((0:Int):Rat) ((1:Int):Rat) ((0:Int):Rat)] (vc ((-1:Int):Rat) ((0:Int):Rat) ((0:Int):Rat)):=by
 have h:=zI (w:=((1:Int):Rat)) (u1:=((0:Int):Rat)) (u2:=((0:Int):Rat)) (u3:=((1:Int):Rat)) (v1:=((0:Int):Rat)) (v2:=((1:Int):Rat)) (v3:=((0:Int):Rat)) (r1.lf.mono (by decide)) (r0.lf.mono (by decide)) (r0.lf.mono (by decide)) (r1.lf.mono (by decide)) (r0.lf.mono (by decide)) (r1.lf.mono (by decide)) (r0.lf.mono (by decide)) (mX (by kernel_rfl))
 exact vc_eq h (by kernel_rfl) (by kernel_rfl) (by kernel_rfl)
theorem td_001:jF 82 [num ((1:Int):Rat),vc ((0:Int):Rat) ((0:Int):Rat) ((1:Int):Rat),vc ((0:Int):Rat) ((0:Int):Rat) ((1:Int):Rat)] (vc ((0:Int):Rat) ((0:Int):Rat) ((1:Int):Rat)):=by
 have h:=zI (w:=((1:Int):Rat)) (u1:=((0:Int):Rat)) (u2:=((0:Int):Rat)) (u3:=((1:Int):Rat)) (v1:=((0:Int):Rat)) (v2:=((0:Int):Rat)) (v3:=((1:Int):Rat)) (r1.lf.mono (by decide)) (r0.lf.mono (by decide)) (r0.lf.mono (by decide)) (r1.lf.mono (by decide)) (r0.lf.mono (by decide)) (r0.lf.mono (by decide)) (r1.lf.mono (by decide)) (mX (by kernel_rfl))
 exact vc_eq h (by kernel_rfl) (by kernel_rfl) (by kernel_rfl)
theorem eTurn:jX 27 [(.fv (.ag [.lit (.string ⟨#[49]⟩),.lit (.string ⟨#[48]⟩),.lit (.string ⟨#[48]⟩),.lit (.string ⟨#[49]⟩)]):AV Kn)] (.tup [.ag [.lit (.string ⟨#[48]⟩),.lit (.string ⟨#[48]⟩),.lit (.string ⟨#[48]⟩),.lit (.string ⟨#[48]⟩),.lit (.string ⟨#[49]⟩),.lit (.string ⟨#[48]⟩),.lit (.string ⟨#[45,49]⟩),.lit (.string ⟨#[48]⟩),.lit (.string ⟨#[48]⟩),.lit (.string ⟨#[48]⟩),.lit (.string ⟨#[48]⟩),.lit (.string ⟨#[49]⟩)],.sc z0]):=by
 have h:=apiTurnF (w:=((1:Int):Rat)) (u1:=((0:Int):Rat)) (u2:=((0:Int):Rat)) (u3:=((1:Int):Rat)) (b:=false) r1 ⟨r0,r0,r1⟩ (by kernel_rfl) (fun h=>by cases h) td_100 td_010 td_001 ⟨⟨r0,r0,r0⟩,⟨r0,r1,r0⟩,⟨rm1,r0,r0⟩,⟨r0,r0,r1⟩⟩
 simp only [vS,jV,dU,qN,hS,kF,gF,x0,x1,xm1] at h
 exact h.lits (.ag (.txt (.txt (.txt (.txt .nil)))) .nil) (.ag (.txt (.txt (.txt (.txt (.txt (.txt (.txt (.txt (.txt (.txt (.txt (.txt (.nil))))))))))))) (.same .nil))
theorem eCompose:jX 28 [(.fv (.ag [.lit (.string ⟨#[49]⟩),.lit (.string ⟨#[48]⟩),.lit (.string ⟨#[48]⟩),.lit (.string ⟨#[51]⟩),.lit (.string ⟨#[52]⟩),.lit (.string ⟨#[48]⟩),.lit (.string ⟨#[45,52]⟩),.lit (.string ⟨#[51]⟩),.lit (.string ⟨#[48]⟩),.lit (.string ⟨#[48]⟩),.lit (.string ⟨#[48]⟩),.lit (.string ⟨#[53]⟩)]):AV Kn),(.fv (.ag [.lit (.string ⟨#[49]⟩),.lit (.string ⟨#[48]⟩),.lit (.string ⟨#[48]⟩),.lit (.string ⟨#[51]⟩),.lit (.string ⟨#[52]⟩),.lit (.string ⟨#[48]⟩),.lit (.string ⟨#[45,52]⟩),.lit (.string ⟨#[51]⟩),.lit (.string ⟨#[48]⟩),.lit (.string ⟨#[48]⟩),.lit (.string ⟨#[48]⟩),.lit (.string ⟨#[53]⟩)]):AV Kn)] (.tup [.ag [.lit (.string ⟨#[52]⟩),.lit (.string ⟨#[52]⟩),.lit (.string ⟨#[48]⟩),.lit (.string ⟨#[45,55]⟩),.lit (.string ⟨#[50,52]⟩),.lit (.string ⟨#[48]⟩),.lit (.string ⟨#[45,50,52]⟩),.lit (.string ⟨#[45,55]⟩),.lit (.string ⟨#[48]⟩),.lit (.string ⟨#[48]⟩),.lit (.string ⟨#[48]⟩),.lit (.string ⟨#[50,53]⟩)],.sc z0]):=by
 have h:=apiComposeF fvF fvF (q1:=((4:Int):Rat)) (q2:=((4:Int):Rat)) (q3:=((0:Int):Rat)) (r1:=((-7:Int):Rat)) (r2:=((24:Int):Rat)) (r3:=((0:Int):Rat)) (s1:=((-24:Int):Rat)) (s2:=((-7:Int):Rat)) (s3:=((0:Int):Rat)) (t1:=((0:Int):Rat)) (t2:=((0:Int):Rat)) (t3:=((25:Int):Rat)) (by kernel_rfl) (by kernel_rfl) (by kernel_rfl) (by kernel_rfl) (by kernel_rfl) (by kernel_rfl) (by kernel_rfl) (by kernel_rfl) (by kernel_rfl) (by kernel_rfl) (by kernel_rfl) (by kernel_rfl) ⟨⟨r4,r4,r0⟩,⟨rm7,r24,r0⟩,⟨rm24,rm7,r0⟩,⟨r0,r0,r25⟩⟩ (by kernel_rfl) (by kernel_rfl) (by kernel_rfl)
 simp only [vS,jV,dU,qN,hS,kF,gF,x0,x1,x24,x25,x3,x4,x5,xm24,xm4,xm7] at h
 exact h.lits (.ag (.txt (.txt (.txt (.txt (.txt (.txt (.txt (.txt (.txt (.txt (.txt (.txt (.nil))))))))))))) (.ag (.txt (.txt (.txt (.txt (.txt (.txt (.txt (.txt (.txt (.txt (.txt (.txt (.nil))))))))))))) .nil)) (.ag (.txt (.txt (.txt (.txt (.txt (.txt (.txt (.txt (.txt (.txt (.txt (.txt (.nil))))))))))))) (.same .nil))
theorem eMeet:jX 29 [(.fv (.ag [.lit (.int .i64 (1)),.lit (.int .i64 (1)),.lit (.int .i64 (1)),.lit (.string ⟨#[49,48]⟩)]):AV Kn),(.fv (.ag [.lit (.string ⟨#[48]⟩),.lit (.string ⟨#[48]⟩),.lit (.string ⟨#[48]⟩)]):AV Kn),(.fv (.ag [.lit (.string ⟨#[49]⟩),.lit (.string ⟨#[49]⟩),.lit (.string ⟨#[48]⟩)]):AV Kn)] (.tup [.ag [.lit (.string ⟨#[53]⟩),.lit (.string ⟨#[53]⟩),.lit (.string ⟨#[48]⟩)],.sc z0]):=by
 have h:=apiMeetF (z1:=1) (z2:=1) (z3:=1) (d:=((10:Int):Rat)) (p1:=((0:Int):Rat)) (p2:=((0:Int):Rat)) (p3:=((0:Int):Rat)) (v1:=((1:Int):Rat)) (v2:=((1:Int):Rat)) (v3:=((0:Int):Rat)) (m1:=((5:Int):Rat)) (m2:=((5:Int):Rat)) (m3:=((0:Int):Rat)) (hv111 r10) ⟨r0,r0,r0⟩ ⟨r1,r1,r0⟩ (mX (by kernel_rfl)) (by kernel_rfl) (by kernel_rfl) (by kernel_rfl) ⟨r5,r5,r0⟩
 simp only [vS,jV,dU,qN,hS,kF,gF,x0,x1,x10,x5] at h
 exact h.lits (.ag (.same (.same (.same (.txt .nil)))) (.ag (.txt (.txt (.txt .nil))) (.ag (.txt (.txt (.txt .nil))) .nil))) (.ag (.txt (.txt (.txt .nil))) (.same .nil))
theorem eSide:jX 30 [(.fv (.ag [.lit (.int .i64 (3)),.lit (.int .i64 (0)),.lit (.int .i64 (-2)),.lit (.string ⟨#[51,48]⟩)]):AV Kn),(.fv (.ag [.lit (.string ⟨#[49,48]⟩),.lit (.string ⟨#[55]⟩),.lit (.string ⟨#[49]⟩)]):AV Kn)] (.tup [.sc (.lit (.int .i64 (-1))),.sc z0]):=by
 have h:=apiSideF (z1:=3) (z2:=0) (z3 := -2) (d:=((30:Int):Rat)) (p1:=((10:Int):Rat)) (p2:=((7:Int):Rat)) (p3:=((1:Int):Rat)) (s := -1) (hv302 r30) ⟨r10,r7,r1⟩ (by kernel_rfl)
 simp only [vS,jV,dU,qN,hS,kF,gF,x1,x10,x30,x7] at h
 exact h.lits (.ag (.same (.same (.same (.txt .nil)))) (.ag (.txt (.txt (.txt .nil))) .nil)) (.same (.same .nil))
set_option maxRecDepth 100000 in
theorem mU:jX 4 ([]:List (AV Kn)) (bl true):=by
 refine jY Tryz.func4 fun w00 hI=>?_
 refine jW hI 19 [lt ⟨#[49,50,46,53,48]⟩] (eParse) ?_
 refine jC 20 [it (2),it (0),it (4)] (lv_2_0_4) ?_
 refine jC 20 [it (-1),it (0),it (-2)] (lv_m1_0_m2) ?_
 refine jW hI 18 [(.fv (.ag [.lit (.string ⟨#[50]⟩),.lit (.string ⟨#[48]⟩),.lit (.string ⟨#[52]⟩)])),(.fv (.ag [.lit (.string ⟨#[45,49]⟩),.lit (.string ⟨#[48]⟩),.lit (.string ⟨#[45,50]⟩)]))] (eAlong) ?_
 refine jW hI 21 [(.fv (.ag [.lit (.string ⟨#[49,47,50]⟩),.lit (.string ⟨#[48]⟩),.lit (.string ⟨#[45,49,47,51]⟩)])),lt ⟨#[53]⟩] (eMake) ?_
 refine jC 20 [it (1),it (0),it (0)] (lv_1_0_0) ?_
 refine jC 20 [it (0),it (1),it (0)] (lv_0_1_0) ?_
 refine jC 20 [it (0),it (0),it (1)] (lv_0_0_1) ?_
 refine jW hI 22 [(.fv (.ag [.lit (.string ⟨#[49]⟩),.lit (.string ⟨#[48]⟩),.lit (.string ⟨#[48]⟩)])),(.fv (.ag [.lit (.string ⟨#[48]⟩),.lit (.string ⟨#[49]⟩),.lit (.string ⟨#[48]⟩)])),(.fv (.ag [.lit (.string ⟨#[48]⟩),.lit (.string ⟨#[48]⟩),.lit (.string ⟨#[49]⟩)]))] (eThrough) ?_
 refine jC 20 [it (0),it (0),it (0)] (lv_0_0_0) ?_
 refine jW hI 23 [(.fv (.ag [.lit (.int .i64 (1)),.lit (.int .i64 (1)),.lit (.int .i64 (1)),.lit (.string ⟨#[49]⟩)])),(.fv (.ag [.lit (.string ⟨#[48]⟩),.lit (.string ⟨#[48]⟩),.lit (.string ⟨#[48]⟩)]))] (eMirror) ?_
 refine jC 25 [] (aAa) ?_
 refine jC 20 [it (1),it (1),it (1)] (lv_1_1_1) ?_
 refine jW hI 24 [(.fv (.ag [.lit (.string ⟨#[49]⟩),.lit (.string ⟨#[48]⟩),.lit (.string ⟨#[48]⟩),.lit (.string ⟨#[51]⟩),.lit (.string ⟨#[52]⟩),.lit (.string ⟨#[48]⟩),.lit (.string ⟨#[45,52]⟩),.lit (.string ⟨#[51]⟩),.lit (.string ⟨#[48]⟩),.lit (.string ⟨#[48]⟩),.lit (.string ⟨#[48]⟩),.lit (.string ⟨#[53]⟩)])),(.fv (.ag [.lit (.string ⟨#[49]⟩),.lit (.string ⟨#[49]⟩),.lit (.string ⟨#[49]⟩)]))] (ePlace) ?_
 refine jC 25 [] (aAa) ?_
 refine jW hI 26 [(.fv (.ag [.lit (.string ⟨#[49]⟩),.lit (.string ⟨#[48]⟩),.lit (.string ⟨#[48]⟩),.lit (.string ⟨#[51]⟩),.lit (.string ⟨#[52]⟩),.lit (.string ⟨#[48]⟩),.lit (.string ⟨#[45,52]⟩),.lit (.string ⟨#[51]⟩),.lit (.string ⟨#[48]⟩),.lit (.string ⟨#[48]⟩),.lit (.string ⟨#[48]⟩),.lit (.string ⟨#[53]⟩)])),(.fv (.ag [.lit (.int .i64 (1)),.lit (.int .i64 (0)),.lit (.int .i64 (0)),.lit (.string ⟨#[49]⟩)]))] (ePlaceHalf) ?_
 refine jW hI 27 [(.fv (.ag [.lit (.string ⟨#[49]⟩),.lit (.string ⟨#[48]⟩),.lit (.string ⟨#[48]⟩),.lit (.string ⟨#[49]⟩)]))] (eTurn) ?_
 refine jC 25 [] (aAa) ?_
 refine jC 25 [] (aAa) ?_
 refine jW hI 28 [(.fv (.ag [.lit (.string ⟨#[49]⟩),.lit (.string ⟨#[48]⟩),.lit (.string ⟨#[48]⟩),.lit (.string ⟨#[51]⟩),.lit (.string ⟨#[52]⟩),.lit (.string ⟨#[48]⟩),.lit (.string ⟨#[45,52]⟩),.lit (.string ⟨#[51]⟩),.lit (.string ⟨#[48]⟩),.lit (.string ⟨#[48]⟩),.lit (.string ⟨#[48]⟩),.lit (.string ⟨#[53]⟩)])),(.fv (.ag [.lit (.string ⟨#[49]⟩),.lit (.string ⟨#[48]⟩),.lit (.string ⟨#[48]⟩),.lit (.string ⟨#[51]⟩),.lit (.string ⟨#[52]⟩),.lit (.string ⟨#[48]⟩),.lit (.string ⟨#[45,52]⟩),.lit (.string ⟨#[51]⟩),.lit (.string ⟨#[48]⟩),.lit (.string ⟨#[48]⟩),.lit (.string ⟨#[48]⟩),.lit (.string ⟨#[53]⟩)]))] (eCompose) ?_
 refine jC 20 [it (0),it (0),it (0)] (lv_0_0_0) ?_
 refine jC 20 [it (1),it (1),it (0)] (lv_1_1_0) ?_
 refine jW hI 29 [(.fv (.ag [.lit (.int .i64 (1)),.lit (.int .i64 (1)),.lit (.int .i64 (1)),.lit (.string ⟨#[49,48]⟩)])),(.fv (.ag [.lit (.string ⟨#[48]⟩),.lit (.string ⟨#[48]⟩),.lit (.string ⟨#[48]⟩)])),(.fv (.ag [.lit (.string ⟨#[49]⟩),.lit (.string ⟨#[49]⟩),.lit (.string ⟨#[48]⟩)]))] (eMeet) ?_
 refine jC 20 [it (0),it (7),it (5)] (lv_0_7_5) ?_
 refine jC 20 [it (0),it (1),it (0)] (lv_0_1_0) ?_
 refine jC 20 [it (-1),it (0),it (0)] (lv_m1_0_0) ?_
 refine jC 20 [it (4),it (4),it (0)] (lv_4_4_0) ?_
 refine jC 20 [it (-7),it (24),it (0)] (lv_m7_24_0) ?_
 refine jC 20 [it (5),it (5),it (0)] (lv_5_5_0) ?_
 refine jC 20 [it (10),it (7),it (1)] (lv_10_7_1) ?_
 refine jW hI 30 [(.fv (.ag [.lit (.int .i64 (3)),.lit (.int .i64 (0)),.lit (.int .i64 (-2)),.lit (.string ⟨#[51,48]⟩)])),(.fv (.ag [.lit (.string ⟨#[49,48]⟩),.lit (.string ⟨#[55]⟩),.lit (.string ⟨#[49]⟩)]))] (eSide) ?_
 refine jC 31 [lt ⟨#[112,111,115,116,95,49]⟩] (isNameF (b:=true) (by kernel_rfl)) ?_
 refine jC 31 [lt ⟨#[49,112,111,115,116]⟩] (isNameF (b:=false) (by kernel_rfl)) ?_
 exact jR Tryz.func4
def Bq (k:Nat) (q:Rat):Prop:=q.num.natAbs<10^k∧q.den<10^k
theorem Bq.mono {k l:Nat} {q:Rat} (h:Bq k q) (hk:k≤l):Bq l q :=
 ⟨Nat.lt_of_lt_of_le h.1 (Nat.pow_le_pow_right (by omega) hk),Nat.lt_of_lt_of_le h.2 (Nat.pow_le_pow_right (by omega) hk)⟩
theorem Bq.mul {j k:Nat} {p q:Rat} (hp:Bq j p) (hq:Bq k q):Bq (j+k) (p*q):=by
 rw [Rat.mul_def']
 obtain ⟨h1,h2⟩:=dO (p.num*q.num) (Nat.ne_of_gt (Nat.mul_pos p.den_pos q.den_pos))
 rw [Int.natAbs_mul] at h1
 refine ⟨Nat.lt_of_le_of_lt h1 ?_,Nat.lt_of_le_of_lt h2 ?_⟩
 ·rw [Nat.pow_add];exact Nat.mul_lt_mul'' hp.1 hq.1
 ·rw [Nat.pow_add];exact Nat.mul_lt_mul'' hp.2 hq.2
theorem Bq.add {j k:Nat} {p q:Rat} (hp:Bq j p) (hq:Bq k q):Bq (j+k+1) (p+q):=by
 rw [Rat.add_def']
 obtain ⟨h1,h2⟩:=dO (p.num*q.den+q.num*p.den) (Nat.ne_of_gt (Nat.mul_pos p.den_pos q.den_pos))
 have a1:p.num.natAbs*q.den<10^(j+k):=by rw [Nat.pow_add];exact Nat.mul_lt_mul'' hp.1 hq.2
 have a2:q.num.natAbs*p.den<10^(j+k):=by rw [Nat.pow_add,Nat.mul_comm];exact Nat.mul_lt_mul'' hp.2 hq.1
 have a3:p.den*q.den<10^(j+k):=by rw [Nat.pow_add];exact Nat.mul_lt_mul'' hp.2 hq.2
 have a4:10^(j+k+1)=10^(j+k)*10:=Nat.pow_succ _ _
 have a5:=Int.natAbs_add_le (p.num*q.den) (q.num*p.den)
 rw [Int.natAbs_mul,Int.natAbs_mul,Int.natAbs_natCast,Int.natAbs_natCast] at a5
 exact ⟨by omega,by omega⟩
theorem Bq.neg {k:Nat} {p:Rat} (hp:Bq k p):Bq k (-p):=by
 refine ⟨?_,hp.2⟩
 rw [Rat.neg_num,Int.natAbs_neg];exact hp.1
theorem Bq.sub {j k:Nat} {p q:Rat} (hp:Bq j p) (hq:Bq k q):Bq (j+k+1) (p-q):=by
 rw [Rat.sub_eq_add_neg]
 exact hp.add hq.neg
theorem Bq.inv {k:Nat} {p:Rat} (hp:Bq k p):Bq k p⁻¹:=by
 by_cases h0:p=0
 ·subst h0;rw [Rat.inv_zero];exact hp
 ·obtain ⟨_,e1,e2⟩:=Parts.inv (Parts.self p) h0
  exact ⟨by rw [← e1];exact hp.2,by rw [← e2];exact hp.1⟩
theorem Bq.div {j k:Nat} {p q:Rat} (hp:Bq j p) (hq:Bq k q):Bq (j+k) (p/q):=by
 rw [Rat.div_def]
 exact hp.mul hq.inv
theorem Bq.dt {k l n:Nat} {a b c x y z:Rat} (h1:Bq k a) (h2:Bq k b) (h3:Bq k c) (g1:Bq l x) (g2:Bq l y) (g3:Bq l z) (hn:3*(k+l)+2≤n):Bq n (dt a b c x y z) :=
 (((h1.mul g1).add (h2.mul g2)).add (h3.mul g3)).mono (by omega)
theorem Bq.wr {k:Nat} {q:Rat} (h:Bq k q) (hk:k≤600):Wr q:=by
 have h':=h.mono (l:=599+1) hk
 exact ⟨decB_size h'.1,decB_size h'.2⟩
theorem Bq.zs {k:Nat} {q:Rat} (h:Bq k q) (hk:k≤10000):Zs 10000 q:=by
 have h':=h.mono (l:=10000+1) (by omega)
 exact h'
theorem wH {k:Nat} {q:Rat} (h:Fw k q):Bq k q:=⟨mS h.1,mS h.2⟩
theorem sR (x:Rat):0≤x*x:=by
 rcases Rat.le_total (a:=0) (b:=x) with h|h
 ·exact Rat.mul_nonneg h h
 ·have h' : 0≤-x:=by grind
  have:=Rat.mul_nonneg h' h'
  grind
theorem sum_sq {x y z:Rat} (h:dt x y z x y z=0):x=0∧y=0∧z=0:=by
 have h1:=sR x
 have h2:=sR y
 have h3:=sR z
 have a1:x*x=0:=by grind
 have a2:y*y=0:=by grind
 have a3:z*z=0:=by grind
 exact ⟨by grind,by grind,by grind⟩
theorem numr_ne {q:Rat} (h:q≠0):q.num≠0:=fun e=>h (Rat.num_eq_zero.1 e)
theorem uE {p q r:Prop} [Decidable p] [Decidable q] [Decidable r] (h:¬ (p∧q∧r)):(decide p&&decide q&&decide r)=false:=by
 rw [Bool.eq_false_iff]
 intro hh
 simp only [Bool.and_eq_true,decide_eq_true_eq] at hh
 exact h ⟨hh.1.1,hh.1.2,hh.2⟩
theorem dec_and' {p q r:Prop} [Decidable p] [Decidable q] [Decidable r] (h:p∧q∧r):(decide p&&decide q&&decide r)=true:=by
 simp [h.1,h.2.1,h.2.2]
section
variable {a b c x y z:Rat}
theorem wY (h:iC a b c) (k:iC x y z) (h0:(decide (a=0)&&decide (b=0)&&decide (c=0))=false) (hc:(decide (b*z-c*y=0)&&decide (c*x-a*z=0)&&decide (a*y-b*x=0))=false) :
 jX 18 [vS a b c,vS x y z] (.tup [.sc (.lit (.string ⟨#[]⟩)),.sc (.lit (.int .i64 7))]):=by
 have l1:=h.1.lf
 have l2:=h.2.1.lf
 have l3:=h.2.2.lf
 have m1:=k.1.lf
 have m2:=k.2.1.lf
 have m3:=k.2.2.lf
 refine jY Tryz.func18 fun w00 hI=>?_
 refine jW hI 37 [gJ 38,vS a b c,gJ 38,vS x y z] (vU h k) ?_
 refine jC 55 [vc a b c] (fF h0) ?_
 refine jC 36 [vc a b c,vc x y z] (sC (l1.mono (by decide)) (l2.mono (by decide)) (l3.mono (by decide)) (m1.mono (by decide)) (m2.mono (by decide)) (m3.mono (by decide))) ?_
 refine jC 55 [vc (b*z-c*y) (c*x-a*z) (a*y-b*x)] (fF hc) ?_
 exact jR Tryz.func18
end
section
variable {a1 a2 a3 b1 b2 b3 t x1 x2 x3 y1 y2 y3 d u v s c1 c2 c3 k:Rat}
set_option maxRecDepth 100000 in
theorem lag_zero (fa1:Fw 8 a1) (fa2:Fw 8 a2) (fa3:Fw 8 a3) (fb1:Fw 8 b1) (fb2:Fw 8 b2) (fb3:Fw 8 b3) (ft:Fw 8 t)
 (cX:jX 7 [t3 (writeB a1) (writeB a2) (writeB a3),t3 (writeB b1) (writeB b2) (writeB b3)] (dU x1 x2 x3)) (cY:jX 7 [t3 (writeB b1) (writeB b2) (writeB b3),t3 (writeB a1) (writeB a2) (writeB a3)] (dU y1 y2 y3)) (cD:jX 8 [t3 (writeB a1) (writeB a2) (writeB a3),t3 (writeB b1) (writeB b2) (writeB b3)] (jV d)) (cU:jX 9 [t3 (writeB a1) (writeB a2) (writeB a3)] (jV u)) (cV:jX 9 [t3 (writeB b1) (writeB b2) (writeB b3)] (jV v))
 (kX:jF 10 [t3 (writeB x1) (writeB x2) (writeB x3)] (it 0)) (kY:jF 10 [t3 (writeB y1) (writeB y2) (writeB y3)] (it 0)) (kR:jF 11 [.fv (.nsl 3 22 [cT (writeB d),cT (writeB u),cT (writeB v)])] (it 0))
 (cS:jX 9 [t3 (writeB x1) (writeB x2) (writeB x3)] (jV s)) (cP:jX 8 [t3 (writeB x1) (writeB x2) (writeB x3),t3 (writeB a1) (writeB a2) (writeB a3)] (.tup [.sc (.lit (.string ⟨#[48]⟩)),.sc z0])) (cQ:jX 8 [t3 (writeB x1) (writeB x2) (writeB x3),t3 (writeB b1) (writeB b2) (writeB b3)] (.tup [.sc (.lit (.string ⟨#[48]⟩)),.sc z0]))
 (kS:jF 12 [tx (writeB s)] (it 0)) (cO:jF 13 [t3 (writeB x1) (writeB x2) (writeB x3),t3 (writeB y1) (writeB y2) (writeB y3)] (.fv (.ag [.lit (.string ⟨#[48]⟩),.lit (.string ⟨#[48]⟩),.lit (.string ⟨#[48]⟩)])))
 (cM:jF 16 [tx (writeB d),tx (writeB d)] (tx (writeB (d*d)))) (cA:jF 15 [tx (writeB s),tx (writeB (d*d))] (tx (writeB (u*v)))) (cM2:jF 16 [tx (writeB u),tx (writeB v)] (tx (writeB (u*v))))
 (hu:((writeB u).toList==(⟨#[48]⟩:ByteArray).toList)=true):jX 3 [t3 (writeB a1) (writeB a2) (writeB a3),t3 (writeB b1) (writeB b2) (writeB b3),tx (writeB t)] (bl true):=by
 refine jY Tryz.func3 fun w00 hI=>?_
 refine jW hI 4 [] (mU) ?_
 refine jC 5 [t3 (writeB a1) (writeB a2) (writeB a3),it 8] (mT (jP (cF fa1)) (jP (cF fa2)) (jP (cF fa3))) ?_
 refine jC 5 [t3 (writeB b1) (writeB b2) (writeB b3),it 8] (mT (jP (cF fb1)) (jP (cF fb2)) (jP (cF fb3))) ?_
 refine jC 6 [tx (writeB t),it 8] (jP (cF ft)) ?_
 refine jW hI 7 [t3 (writeB a1) (writeB a2) (writeB a3),t3 (writeB b1) (writeB b2) (writeB b3)] (cX) ?_
 refine jW hI 7 [t3 (writeB b1) (writeB b2) (writeB b3),t3 (writeB a1) (writeB a2) (writeB a3)] (cY) ?_
 refine jW hI 8 [t3 (writeB a1) (writeB a2) (writeB a3),t3 (writeB b1) (writeB b2) (writeB b3)] (cD) ?_
 refine jW hI 9 [t3 (writeB a1) (writeB a2) (writeB a3)] (cU) ?_
 refine jW hI 9 [t3 (writeB b1) (writeB b2) (writeB b3)] (cV) ?_
 refine jC 10 [t3 (writeB x1) (writeB x2) (writeB x3)] (kX) ?_
 refine jC 10 [t3 (writeB y1) (writeB y2) (writeB y3)] (kY) ?_
 refine jC 11 [.fv (.nsl 3 22 [cT (writeB d),cT (writeB u),cT (writeB v)])] (kR) ?_
 refine jW hI 9 [t3 (writeB x1) (writeB x2) (writeB x3)] (cS) ?_
 refine jW hI 8 [t3 (writeB x1) (writeB x2) (writeB x3),t3 (writeB a1) (writeB a2) (writeB a3)] (cP) ?_
 refine jW hI 8 [t3 (writeB x1) (writeB x2) (writeB x3),t3 (writeB b1) (writeB b2) (writeB b3)] (cQ) ?_
 refine jC 12 [tx (writeB s)] (kS) ?_
 refine jC 13 [t3 (writeB x1) (writeB x2) (writeB x3),t3 (writeB y1) (writeB y2) (writeB y3)] (cO) ?_
 refine jC 14 [] (zY) ?_
 refine jC 16 [tx (writeB d),tx (writeB d)] (cM) ?_
 refine jC 15 [tx (writeB s),tx (writeB (d*d))] (cA) ?_
 refine jC 16 [tx (writeB u),tx (writeB v)] (cM2) ?_
 refine jK (.binOp .neq 22 (.tmp 150) (.tmp 153) 22) (.tmp 150) (.tmp 153) (tx (writeB (u*v))) (tx (writeB (u*v))) (bl false) (fun ρ o β w ho hx hy=>⟨_,zD ho (aP hx) (aP hy) (by rw [beq_self_eq_true];rfl),bB rfl⟩) ?_
 refine jK (.binOp .eql 22 (.tmp 155) (.const (.string ⟨#[48]⟩)) 22) (.tmp 155) (.const (.string ⟨#[48]⟩)) (tx (writeB u)) (lt ⟨#[48]⟩) (bl true) (fun ρ o β w ho hx hy=>⟨_,gE ho (aP hx) (aO hy) hu,bB rfl⟩) ?_
 exact jR Tryz.func3
set_option maxRecDepth 100000 in
theorem lag_along (fa1:Fw 8 a1) (fa2:Fw 8 a2) (fa3:Fw 8 a3) (fb1:Fw 8 b1) (fb2:Fw 8 b2) (fb3:Fw 8 b3) (ft:Fw 8 t)
 (cX:jX 7 [t3 (writeB a1) (writeB a2) (writeB a3),t3 (writeB b1) (writeB b2) (writeB b3)] (dU x1 x2 x3)) (cY:jX 7 [t3 (writeB b1) (writeB b2) (writeB b3),t3 (writeB a1) (writeB a2) (writeB a3)] (dU y1 y2 y3)) (cD:jX 8 [t3 (writeB a1) (writeB a2) (writeB a3),t3 (writeB b1) (writeB b2) (writeB b3)] (jV d)) (cU:jX 9 [t3 (writeB a1) (writeB a2) (writeB a3)] (jV u)) (cV:jX 9 [t3 (writeB b1) (writeB b2) (writeB b3)] (jV v))
 (kX:jF 10 [t3 (writeB x1) (writeB x2) (writeB x3)] (it 0)) (kY:jF 10 [t3 (writeB y1) (writeB y2) (writeB y3)] (it 0)) (kR:jF 11 [.fv (.nsl 3 22 [cT (writeB d),cT (writeB u),cT (writeB v)])] (it 0))
 (cS:jX 9 [t3 (writeB x1) (writeB x2) (writeB x3)] (jV s)) (cP:jX 8 [t3 (writeB x1) (writeB x2) (writeB x3),t3 (writeB a1) (writeB a2) (writeB a3)] (.tup [.sc (.lit (.string ⟨#[48]⟩)),.sc z0])) (cQ:jX 8 [t3 (writeB x1) (writeB x2) (writeB x3),t3 (writeB b1) (writeB b2) (writeB b3)] (.tup [.sc (.lit (.string ⟨#[48]⟩)),.sc z0]))
 (kS:jF 12 [tx (writeB s)] (it 0)) (cO:jF 13 [t3 (writeB x1) (writeB x2) (writeB x3),t3 (writeB y1) (writeB y2) (writeB y3)] (.fv (.ag [.lit (.string ⟨#[48]⟩),.lit (.string ⟨#[48]⟩),.lit (.string ⟨#[48]⟩)])))
 (cM:jF 16 [tx (writeB d),tx (writeB d)] (tx (writeB (d*d)))) (cA:jF 15 [tx (writeB s),tx (writeB (d*d))] (tx (writeB (u*v)))) (cM2:jF 16 [tx (writeB u),tx (writeB v)] (tx (writeB (u*v))))
 (hu:((writeB u).toList==(⟨#[48]⟩:ByteArray).toList)=false) (cC:jX 17 [tx (writeB t),t3 (writeB a1) (writeB a2) (writeB a3)] (dU c1 c2 c3)) (cK:jX 18 [t3 (writeB a1) (writeB a2) (writeB a3),.fv (.ag [cT (writeB c1),cT (writeB c2),cT (writeB c3)])] (jV t))
 (cN:jX 18 [t3 (writeB a1) (writeB a2) (writeB a3),t3 (writeB b1) (writeB b2) (writeB b3)] (jV k)) (hs:((writeB s).toList==(⟨#[48]⟩:ByteArray).toList)=true):jX 3 [t3 (writeB a1) (writeB a2) (writeB a3),t3 (writeB b1) (writeB b2) (writeB b3),tx (writeB t)] (bl true):=by
 refine jY Tryz.func3 fun w00 hI=>?_
 refine jW hI 4 [] (mU) ?_
 refine jC 5 [t3 (writeB a1) (writeB a2) (writeB a3),it 8] (mT (jP (cF fa1)) (jP (cF fa2)) (jP (cF fa3))) ?_
 refine jC 5 [t3 (writeB b1) (writeB b2) (writeB b3),it 8] (mT (jP (cF fb1)) (jP (cF fb2)) (jP (cF fb3))) ?_
 refine jC 6 [tx (writeB t),it 8] (jP (cF ft)) ?_
 refine jW hI 7 [t3 (writeB a1) (writeB a2) (writeB a3),t3 (writeB b1) (writeB b2) (writeB b3)] (cX) ?_
 refine jW hI 7 [t3 (writeB b1) (writeB b2) (writeB b3),t3 (writeB a1) (writeB a2) (writeB a3)] (cY) ?_
 refine jW hI 8 [t3 (writeB a1) (writeB a2) (writeB a3),t3 (writeB b1) (writeB b2) (writeB b3)] (cD) ?_
 refine jW hI 9 [t3 (writeB a1) (writeB a2) (writeB a3)] (cU) ?_
 refine jW hI 9 [t3 (writeB b1) (writeB b2) (writeB b3)] (cV) ?_
 refine jC 10 [t3 (writeB x1) (writeB x2) (writeB x3)] (kX) ?_
 refine jC 10 [t3 (writeB y1) (writeB y2) (writeB y3)] (kY) ?_
 refine jC 11 [.fv (.nsl 3 22 [cT (writeB d),cT (writeB u),cT (writeB v)])] (kR) ?_
 refine jW hI 9 [t3 (writeB x1) (writeB x2) (writeB x3)] (cS) ?_
 refine jW hI 8 [t3 (writeB x1) (writeB x2) (writeB x3),t3 (writeB a1) (writeB a2) (writeB a3)] (cP) ?_
 refine jW hI 8 [t3 (writeB x1) (writeB x2) (writeB x3),t3 (writeB b1) (writeB b2) (writeB b3)] (cQ) ?_
 refine jC 12 [tx (writeB s)] (kS) ?_
 refine jC 13 [t3 (writeB x1) (writeB x2) (writeB x3),t3 (writeB y1) (writeB y2) (writeB y3)] (cO) ?_
 refine jC 14 [] (zY) ?_
 refine jC 16 [tx (writeB d),tx (writeB d)] (cM) ?_
 refine jC 15 [tx (writeB s),tx (writeB (d*d))] (cA) ?_
 refine jC 16 [tx (writeB u),tx (writeB v)] (cM2) ?_
 refine jK (.binOp .neq 22 (.tmp 150) (.tmp 153) 22) (.tmp 150) (.tmp 153) (tx (writeB (u*v))) (tx (writeB (u*v))) (bl false) (fun ρ o β w ho hx hy=>⟨_,zD ho (aP hx) (aP hy) (by rw [beq_self_eq_true];rfl),bB rfl⟩) ?_
 refine jK (.binOp .eql 22 (.tmp 155) (.const (.string ⟨#[48]⟩)) 22) (.tmp 155) (.const (.string ⟨#[48]⟩)) (tx (writeB u)) (lt ⟨#[48]⟩) (bl false) (fun ρ o β w ho hx hy=>⟨_,gE ho (aP hx) (aO hy) hu,bB rfl⟩) ?_
 refine jW hI 17 [tx (writeB t),t3 (writeB a1) (writeB a2) (writeB a3)] (cC) ?_
 refine jW hI 18 [t3 (writeB a1) (writeB a2) (writeB a3),.fv (.ag [cT (writeB c1),cT (writeB c2),cT (writeB c3)])] (cK) ?_
 refine jW hI 18 [t3 (writeB a1) (writeB a2) (writeB a3),t3 (writeB b1) (writeB b2) (writeB b3)] (cN) ?_
 refine jK (.binOp .eql 22 (.tmp 180) (.tmp 181) 22) (.tmp 180) (.tmp 181) (tx (writeB t)) (tx (writeB t)) (bl true) (fun ρ o β w ho hx hy=>⟨_,gE ho (aP hx) (aP hy) (beq_self_eq_true _),bB rfl⟩) ?_
 refine jK (.binOp .eql 22 (.tmp 187) (.const (.string ⟨#[48]⟩)) 22) (.tmp 187) (.const (.string ⟨#[48]⟩)) (tx (writeB s)) (lt ⟨#[48]⟩) (bl true) (fun ρ o β w ho hx hy=>⟨_,gE ho (aP hx) (aO hy) hs,bB rfl⟩) ?_
 exact jR Tryz.func3
set_option maxRecDepth 100000 in
theorem lag_none (fa1:Fw 8 a1) (fa2:Fw 8 a2) (fa3:Fw 8 a3) (fb1:Fw 8 b1) (fb2:Fw 8 b2) (fb3:Fw 8 b3) (ft:Fw 8 t)
 (cX:jX 7 [t3 (writeB a1) (writeB a2) (writeB a3),t3 (writeB b1) (writeB b2) (writeB b3)] (dU x1 x2 x3)) (cY:jX 7 [t3 (writeB b1) (writeB b2) (writeB b3),t3 (writeB a1) (writeB a2) (writeB a3)] (dU y1 y2 y3)) (cD:jX 8 [t3 (writeB a1) (writeB a2) (writeB a3),t3 (writeB b1) (writeB b2) (writeB b3)] (jV d)) (cU:jX 9 [t3 (writeB a1) (writeB a2) (writeB a3)] (jV u)) (cV:jX 9 [t3 (writeB b1) (writeB b2) (writeB b3)] (jV v))
 (kX:jF 10 [t3 (writeB x1) (writeB x2) (writeB x3)] (it 0)) (kY:jF 10 [t3 (writeB y1) (writeB y2) (writeB y3)] (it 0)) (kR:jF 11 [.fv (.nsl 3 22 [cT (writeB d),cT (writeB u),cT (writeB v)])] (it 0))
 (cS:jX 9 [t3 (writeB x1) (writeB x2) (writeB x3)] (jV s)) (cP:jX 8 [t3 (writeB x1) (writeB x2) (writeB x3),t3 (writeB a1) (writeB a2) (writeB a3)] (.tup [.sc (.lit (.string ⟨#[48]⟩)),.sc z0])) (cQ:jX 8 [t3 (writeB x1) (writeB x2) (writeB x3),t3 (writeB b1) (writeB b2) (writeB b3)] (.tup [.sc (.lit (.string ⟨#[48]⟩)),.sc z0]))
 (kS:jF 12 [tx (writeB s)] (it 0)) (cO:jF 13 [t3 (writeB x1) (writeB x2) (writeB x3),t3 (writeB y1) (writeB y2) (writeB y3)] (.fv (.ag [.lit (.string ⟨#[48]⟩),.lit (.string ⟨#[48]⟩),.lit (.string ⟨#[48]⟩)])))
 (cM:jF 16 [tx (writeB d),tx (writeB d)] (tx (writeB (d*d)))) (cA:jF 15 [tx (writeB s),tx (writeB (d*d))] (tx (writeB (u*v)))) (cM2:jF 16 [tx (writeB u),tx (writeB v)] (tx (writeB (u*v))))
 (hu:((writeB u).toList==(⟨#[48]⟩:ByteArray).toList)=false) (cC:jX 17 [tx (writeB t),t3 (writeB a1) (writeB a2) (writeB a3)] (dU c1 c2 c3)) (cK:jX 18 [t3 (writeB a1) (writeB a2) (writeB a3),.fv (.ag [cT (writeB c1),cT (writeB c2),cT (writeB c3)])] (jV t))
 (cN:jX 18 [t3 (writeB a1) (writeB a2) (writeB a3),t3 (writeB b1) (writeB b2) (writeB b3)] (.tup [.sc (.lit (.string ⟨#[]⟩)),.sc (.lit (.int .i64 7))])) (hs:((writeB s).toList==(⟨#[48]⟩:ByteArray).toList)=false):jX 3 [t3 (writeB a1) (writeB a2) (writeB a3),t3 (writeB b1) (writeB b2) (writeB b3),tx (writeB t)] (bl true):=by
 refine jY Tryz.func3 fun w00 hI=>?_
 refine jW hI 4 [] (mU) ?_
 refine jC 5 [t3 (writeB a1) (writeB a2) (writeB a3),it 8] (mT (jP (cF fa1)) (jP (cF fa2)) (jP (cF fa3))) ?_
 refine jC 5 [t3 (writeB b1) (writeB b2) (writeB b3),it 8] (mT (jP (cF fb1)) (jP (cF fb2)) (jP (cF fb3))) ?_
 refine jC 6 [tx (writeB t),it 8] (jP (cF ft)) ?_
 refine jW hI 7 [t3 (writeB a1) (writeB a2) (writeB a3),t3 (writeB b1) (writeB b2) (writeB b3)] (cX) ?_
 refine jW hI 7 [t3 (writeB b1) (writeB b2) (writeB b3),t3 (writeB a1) (writeB a2) (writeB a3)] (cY) ?_
 refine jW hI 8 [t3 (writeB a1) (writeB a2) (writeB a3),t3 (writeB b1) (writeB b2) (writeB b3)] (cD) ?_
 refine jW hI 9 [t3 (writeB a1) (writeB a2) (writeB a3)] (cU) ?_
 refine jW hI 9 [t3 (writeB b1) (writeB b2) (writeB b3)] (cV) ?_
 refine jC 10 [t3 (writeB x1) (writeB x2) (writeB x3)] (kX) ?_
 refine jC 10 [t3 (writeB y1) (writeB y2) (writeB y3)] (kY) ?_
 refine jC 11 [.fv (.nsl 3 22 [cT (writeB d),cT (writeB u),cT (writeB v)])] (kR) ?_
 refine jW hI 9 [t3 (writeB x1) (writeB x2) (writeB x3)] (cS) ?_
 refine jW hI 8 [t3 (writeB x1) (writeB x2) (writeB x3),t3 (writeB a1) (writeB a2) (writeB a3)] (cP) ?_
 refine jW hI 8 [t3 (writeB x1) (writeB x2) (writeB x3),t3 (writeB b1) (writeB b2) (writeB b3)] (cQ) ?_
 refine jC 12 [tx (writeB s)] (kS) ?_
 refine jC 13 [t3 (writeB x1) (writeB x2) (writeB x3),t3 (writeB y1) (writeB y2) (writeB y3)] (cO) ?_
 refine jC 14 [] (zY) ?_
 refine jC 16 [tx (writeB d),tx (writeB d)] (cM) ?_
 refine jC 15 [tx (writeB s),tx (writeB (d*d))] (cA) ?_
 refine jC 16 [tx (writeB u),tx (writeB v)] (cM2) ?_
 refine jK (.binOp .neq 22 (.tmp 150) (.tmp 153) 22) (.tmp 150) (.tmp 153) (tx (writeB (u*v))) (tx (writeB (u*v))) (bl false) (fun ρ o β w ho hx hy=>⟨_,zD ho (aP hx) (aP hy) (by rw [beq_self_eq_true];rfl),bB rfl⟩) ?_
 refine jK (.binOp .eql 22 (.tmp 155) (.const (.string ⟨#[48]⟩)) 22) (.tmp 155) (.const (.string ⟨#[48]⟩)) (tx (writeB u)) (lt ⟨#[48]⟩) (bl false) (fun ρ o β w ho hx hy=>⟨_,gE ho (aP hx) (aO hy) hu,bB rfl⟩) ?_
 refine jW hI 17 [tx (writeB t),t3 (writeB a1) (writeB a2) (writeB a3)] (cC) ?_
 refine jW hI 18 [t3 (writeB a1) (writeB a2) (writeB a3),.fv (.ag [cT (writeB c1),cT (writeB c2),cT (writeB c3)])] (cK) ?_
 refine jW hI 18 [t3 (writeB a1) (writeB a2) (writeB a3),t3 (writeB b1) (writeB b2) (writeB b3)] (cN) ?_
 refine jK (.binOp .eql 22 (.tmp 180) (.tmp 181) 22) (.tmp 180) (.tmp 181) (tx (writeB t)) (tx (writeB t)) (bl true) (fun ρ o β w ho hx hy=>⟨_,gE ho (aP hx) (aP hy) (beq_self_eq_true _),bB rfl⟩) ?_
 refine jK (.binOp .eql 22 (.tmp 187) (.const (.string ⟨#[48]⟩)) 22) (.tmp 187) (.const (.string ⟨#[48]⟩)) (tx (writeB s)) (lt ⟨#[48]⟩) (bl false) (fun ρ o β w ho hx hy=>⟨_,gE ho (aP hx) (aO hy) hs,bB rfl⟩) ?_
 exact jR Tryz.func3
end
section
variable {a1 a2 a3 b1 b2 b3 t:ByteArray} {c:Bool}
set_option maxRecDepth 100000 in
theorem lag_f1 (h:jF 5 [t3 a1 a2 a3,it 8] (bl false)):jX 3 [t3 a1 a2 a3,t3 b1 b2 b3,tx t] (bl true):=by
 refine jY Tryz.func3 fun w00 hI=>?_
 refine jW hI 4 [] (mU) ?_
 refine jC 5 [t3 a1 a2 a3,it 8] (h) ?_
 refine jW hI 4 [] (mU) ?_
 exact jR Tryz.func3
set_option maxRecDepth 100000 in
theorem lag_f2 (h1:jF 5 [t3 a1 a2 a3,it 8] (bl true)) (h:jF 5 [t3 b1 b2 b3,it 8] (bl false)):jX 3 [t3 a1 a2 a3,t3 b1 b2 b3,tx t] (bl true):=by
 refine jY Tryz.func3 fun w00 hI=>?_
 refine jW hI 4 [] (mU) ?_
 refine jC 5 [t3 a1 a2 a3,it 8] (h1) ?_
 refine jC 5 [t3 b1 b2 b3,it 8] (h) ?_
 refine jW hI 4 [] (mU) ?_
 exact jR Tryz.func3
set_option maxRecDepth 100000 in
theorem lag_f3 (h1:jF 5 [t3 a1 a2 a3,it 8] (bl true)) (h2:jF 5 [t3 b1 b2 b3,it 8] (bl true)) (h:jF 6 [tx t,it 8] (bl false)):jX 3 [t3 a1 a2 a3,t3 b1 b2 b3,tx t] (bl true):=by
 refine jY Tryz.func3 fun w00 hI=>?_
 refine jW hI 4 [] (mU) ?_
 refine jC 5 [t3 a1 a2 a3,it 8] (h1) ?_
 refine jC 5 [t3 b1 b2 b3,it 8] (h2) ?_
 refine jC 6 [tx t,it 8] (h) ?_
 refine jW hI 4 [] (mU) ?_
 exact jR Tryz.func3
end
end Ab
section
open Go.RowKit Pl
end
namespace Ab
open Go.RowKit Pl
end Ab
namespace Ab
open Go.RowKit
end Ab
namespace Ab
open Go.RowKit Pl
abbrev hA (a b c:Int) (s:ByteArray):AV Kn := .fv (.ag [rH a,rH b,rH c,cT s])
abbrev hL (a b c:Int) (s:ByteArray):AV Kn := .fv (.ag [.lit (.int .i64 a),.lit (.int .i64 b),.lit (.int .i64 c),cT s])
section
variable {a b c:Int} {s:ByteArray}
abbrev In (k x:Int):Prop := -k≤x∧x≤k
end
theorem wZ {k:Nat} {q:Rat} (h:Bq k q) (hk:k≤600):jF 12 [tx (writeB q)] (it 0):=chkF (h.wr hk).n (h.wr hk).d
def Fy (k:Nat) (s:ByteArray):Prop := ∃ q,s=writeB q∧Fw k q
theorem yK {a b c:ByteArray} {n:Int} {k:Nat} (yes:∀ s,Fy k s→jF 6 [tx s,it n] (bl true)) (no:∀ s,¬ Fy k s→jF 6 [tx s,it n] (bl false)) :
 (Fy k a∧Fy k b∧Fy k c∧jF 5 [t3 a b c,it n] (bl true))∨jF 5 [t3 a b c,it n] (bl false):=by
 by_cases h1:Fy k a
 ·by_cases h2:Fy k b
  ·by_cases h3:Fy k c
   ·exact .inl ⟨h1,h2,h3,mT (yes _ h1) (yes _ h2) (yes _ h3)⟩
   ·exact .inr (fewVecF3 (yes _ h1) (yes _ h2) (no _ h3))
  ·exact .inr (fewVecF2 (yes _ h1) (no _ h2))
 ·exact .inr (fewVecF1 (no _ h1))
theorem t0_eq {q:Rat} (h:q=0):((writeB q).toList==(⟨#[48]⟩:ByteArray).toList)=true:=by
 have e:writeB q=⟨#[48]⟩:=by rw [h];exact w0
 rw [e]
 exact beq_self_eq_true _
theorem t0_ne {q:Rat} (h:q≠0):((writeB q).toList==(⟨#[48]⟩:ByteArray).toList)=false:=kJ (kQ (numr_ne h))
section
variable {a1 a2 a3 b1 b2 b3 t:Rat}
theorem yL {f:FuncId} {l:List (AV Kn)} {q:Rat} (h:jX f l (jV q)) (h0:q=0):jX f l (.tup [.sc (.lit (.string ⟨#[48]⟩)),.sc z0]):=by
 have e:writeB q=⟨#[48]⟩:=by rw [h0];exact w0
 simp only [jV,e] at h
 exact h.res fun _ _ _ ⟨vs,e,hv⟩=>⟨vs,e,(FvL.txt (.same .nil)).to hv⟩
theorem zero_texts {f:FuncId} {l:List (AV Kn)} {p q r:Rat} (h:jF f l (t3 (writeB p) (writeB q) (writeB r))) (h1:p=0) (h2:q=0) (h3:r=0):jF f l (.fv (.ag [.lit (.string ⟨#[48]⟩),.lit (.string ⟨#[48]⟩),.lit (.string ⟨#[48]⟩)])):=by
 have e:writeB 0=⟨#[48]⟩:=w0
 simp only [t3,h1,h2,h3,e] at h
 exact fun β w vs hv=>(h β w vs hv).mono fun _ w' ⟨v,e1,e2,e3⟩=>⟨v,e1,e2,(zM (.txt (.txt (.txt .nil)))).1 e3⟩
theorem lagR (fa1:Fw 8 a1) (fa2:Fw 8 a2) (fa3:Fw 8 a3) (fb1:Fw 8 b1) (fb2:Fw 8 b2) (fb3:Fw 8 b3) (ft:Fw 8 t):jX 3 [t3 (writeB a1) (writeB a2) (writeB a3),t3 (writeB b1) (writeB b2) (writeB b3),tx (writeB t)] (bl true):=by
 have qa1:=wH fa1
 have qa2:=wH fa2
 have qa3:=wH fa3
 have qb1:=wH fb1
 have qb2:=wH fb2
 have qb3:=wH fb3
 have qt:=wH ft
 have wa:iC a1 a2 a3:=⟨qa1.wr (by omega),qa2.wr (by omega),qa3.wr (by omega)⟩
 have wb:iC b1 b2 b3:=⟨qb1.wr (by omega),qb2.wr (by omega),qb3.wr (by omega)⟩
 have wt:Wr t:=qt.wr (by omega)
 obtain ⟨x1,hx1⟩:∃ x1,x1=a2*b3-a3*b2:=⟨_,rfl⟩
 obtain ⟨x2,hx2⟩:∃ x2,x2=a3*b1-a1*b3:=⟨_,rfl⟩
 obtain ⟨x3,hx3⟩:∃ x3,x3=a1*b2-a2*b1:=⟨_,rfl⟩
 obtain ⟨y1,hy1⟩:∃ y1,y1=b2*a3-b3*a2:=⟨_,rfl⟩
 obtain ⟨y2,hy2⟩:∃ y2,y2=b3*a1-b1*a3:=⟨_,rfl⟩
 obtain ⟨y3,hy3⟩:∃ y3,y3=b1*a2-b2*a1:=⟨_,rfl⟩
 have qx1:Bq 33 x1:=by rw [hx1];exact (qa2.mul qb3).sub (qa3.mul qb2)
 have qx2:Bq 33 x2:=by rw [hx2];exact (qa3.mul qb1).sub (qa1.mul qb3)
 have qx3:Bq 33 x3:=by rw [hx3];exact (qa1.mul qb2).sub (qa2.mul qb1)
 have qy1:Bq 33 y1:=by rw [hy1];exact (qb2.mul qa3).sub (qb3.mul qa2)
 have qy2:Bq 33 y2:=by rw [hy2];exact (qb3.mul qa1).sub (qb1.mul qa3)
 have qy3:Bq 33 y3:=by rw [hy3];exact (qb1.mul qa2).sub (qb2.mul qa1)
 have wx:iC x1 x2 x3:=⟨qx1.wr (by omega),qx2.wr (by omega),qx3.wr (by omega)⟩
 have wy:iC y1 y2 y3:=⟨qy1.wr (by omega),qy2.wr (by omega),qy3.wr (by omega)⟩
 have cX:=xQ wa wb (by rw [← hx1,← hx2,← hx3];exact wx)
 rw [← hx1,← hx2,← hx3] at cX
 have cY:=xQ wb wa (by rw [← hy1,← hy2,← hy3];exact wy)
 rw [← hy1,← hy2,← hy3] at cY
 obtain ⟨d,hd⟩:∃ d,d=dt a1 a2 a3 b1 b2 b3:=⟨_,rfl⟩
 obtain ⟨u,hu⟩:∃ u,u=dt a1 a2 a3 a1 a2 a3:=⟨_,rfl⟩
 obtain ⟨v,hv⟩:∃ v,v=dt b1 b2 b3 b1 b2 b3:=⟨_,rfl⟩
 obtain ⟨s,hs⟩:∃ s,s=dt x1 x2 x3 x1 x2 x3:=⟨_,rfl⟩
 have qd:Bq 50 d:=by rw [hd];exact Bq.dt qa1 qa2 qa3 qb1 qb2 qb3 (by omega)
 have qu:Bq 50 u:=by rw [hu];exact Bq.dt qa1 qa2 qa3 qa1 qa2 qa3 (by omega)
 have qv:Bq 50 v:=by rw [hv];exact Bq.dt qb1 qb2 qb3 qb1 qb2 qb3 (by omega)
 have qs:Bq 200 s:=by rw [hs];exact Bq.dt qx1 qx2 qx3 qx1 qx2 qx3 (by omega)
 have cD:=zF wa wb (by rw [← hd];exact qd.wr (by omega))
 rw [← hd] at cD
 have cU:=pL wa (by rw [← hu];exact qu.wr (by omega))
 rw [← hu] at cU
 have cV:=pL wb (by rw [← hv];exact qv.wr (by omega))
 rw [← hv] at cV
 have cS:=pL wx (by rw [← hs];exact qs.wr (by omega))
 rw [← hs] at cS
 have cP:=yL (zF wx wa ((Bq.dt qx1 qx2 qx3 qa1 qa2 qa3 (n:=200) (by omega)).wr (by omega))) (by rw [hx1,hx2,hx3];grind)
 have cQ:=yL (zF wx wb ((Bq.dt qx1 qx2 qx3 qb1 qb2 qb3 (n:=200) (by omega)).wr (by omega))) (by rw [hx1,hx2,hx3];grind)
 have kX:=yI (wZ qx1 (by omega)) (wZ qx2 (by omega)) (wZ qx3 (by omega))
 have kY:=yI (wZ qy1 (by omega)) (wZ qy2 (by omega)) (wZ qy3 (by omega))
 have kR:=yH (T:=22) (wZ qd (by omega)) (wZ qu (by omega)) (wZ qv (by omega))
 have kS:=wZ qs (by omega)
 have cO:=zero_texts (addVecR (kn_S (uD (qx1.zs (by omega)) (qy1.zs (by omega)))) (kn_S (uD (qx2.zs (by omega)) (qy2.zs (by omega)))) (kn_S (uD (qx3.zs (by omega)) (qy3.zs (by omega))))) (by rw [hx1,hy1];grind) (by rw [hx2,hy2];grind) (by rw [hx3,hy3];grind)
 have cM:=kn_S (refMulF (qd.zs (by omega)) (qd.zs (by omega)))
 have cM2:=kn_S (refMulF (qu.zs (by omega)) (qv.zs (by omega)))
 have cA:=kn_S (uD (qs.zs (by omega)) ((qd.mul qd).zs (by omega)))
 have eA:s+d*d=u*v:=by rw [hs,hd,hu,hv,hx1,hx2,hx3];grind
 rw [eA] at cA
 by_cases hu0:u=0
 ·exact lag_zero fa1 fa2 fa3 fb1 fb2 fb3 ft cX cY cD cU cV kX kY kR cS cP cQ kS cO cM cA cM2 (t0_eq hu0)
 ·have ha0:¬ (a1=0∧a2=0∧a3=0):=by
   rintro ⟨e1,e2,e3⟩
   apply hu0
   rw [hu,e1,e2,e3]
   kernel_rfl
  have hw:iC (t*a1) (t*a2) (t*a3):=⟨(qt.mul qa1).wr (by omega),(qt.mul qa2).wr (by omega),(qt.mul qa3).wr (by omega)⟩
  have cC:=apiScaleF wt wa hw
  have eK:dt (t*a1) (t*a2) (t*a3) a1 a2 a3/dt a1 a2 a3 a1 a2 a3=t:=by
   have h1:dt (t*a1) (t*a2) (t*a3) a1 a2 a3=t*u:=by rw [hu];grind
   rw [h1,← hu]
   grind
  have cK:=sG wa hw (uE ha0) (dec_and' ⟨by grind,by grind,by grind⟩) (by rw [← hu];exact hu0) (by rw [eK];exact wt)
  rw [eK] at cK
  by_cases hs0:s=0
  ·obtain ⟨e1,e2,e3⟩:=sum_sq (hs▸hs0)
   have hr:Wr (dt b1 b2 b3 a1 a2 a3/dt a1 a2 a3 a1 a2 a3):=((Bq.dt qb1 qb2 qb3 qa1 qa2 qa3 (n:=50) (by omega)).div (Bq.dt qa1 qa2 qa3 qa1 qa2 qa3 (n:=50) (by omega))).wr (by omega)
   have cN:=sG wa wb (uE ha0) (dec_and' ⟨by rw [← hx1];exact e1,by rw [← hx2];exact e2,by rw [← hx3];exact e3⟩) (by rw [← hu];exact hu0) hr
   exact lag_along fa1 fa2 fa3 fb1 fb2 fb3 ft cX cY cD cU cV kX kY kR cS cP cQ kS cO cM cA cM2 (t0_ne hu0) cC cK cN (t0_eq hs0)
  ·have cN:=wY wa wb (uE ha0) (uE (by
    rw [← hx1,← hx2,← hx3]
    rintro ⟨e1,e2,e3⟩
    apply hs0
    rw [hs,e1,e2,e3]
    kernel_rfl))
   exact lag_none fa1 fa2 fa3 fb1 fb2 fb3 ft cX cY cD cU cV kX kY kR cS cP cQ kS cO cM cA cM2 (t0_ne hu0) cC cK cN (t0_ne hs0)
end
theorem few8y (s:ByteArray) (h:Fy 8 s):jF 6 [tx s,it 8] (bl true):=by
 obtain ⟨q,rfl,h⟩:=h
 exact jP (cF h)
theorem few8n (s:ByteArray) (h:¬ Fy 8 s):jF 6 [tx s,it 8] (bl false):=jP (few8No h)
theorem lagrangeF (a1 a2 a3 b1 b2 b3 t:ByteArray):jX 3 [t3 a1 a2 a3,t3 b1 b2 b3,tx t] (bl true):=by
 rcases yK (a:=a1) (b:=a2) (c:=a3) few8y few8n with ⟨⟨p1,rfl,f1⟩,⟨p2,rfl,f2⟩,⟨p3,rfl,f3⟩,h1⟩|h1
 ·rcases yK (a:=b1) (b:=b2) (c:=b3) few8y few8n with ⟨⟨q1,rfl,g1⟩,⟨q2,rfl,g2⟩,⟨q3,rfl,g3⟩,h2⟩|h2
  ·by_cases h3:Fy 8 t
   ·obtain ⟨r,rfl,fr⟩:=h3
    exact lagR f1 f2 f3 g1 g2 g3 fr
   ·exact lag_f3 h1 h2 (few8n _ h3)
  ·exact lag_f2 h1 h2
 ·exact lag_f1 h1
end Ab
namespace Ab
open Go.ChangeShapes Go.WideShapes Go.ChangeAt Go.RowKit
theorem gPow:Tryz.prog.globalNamed "internal/strconv.uint64pow10" = some 5:=by kernel_rfl
theorem gl_of {W:World} {r:List (String×DataW Unit)} (h:laidMet Tryz.prog (("internal/strconv.uint64pow10",Lib.tabData .u64 Lib.pow10Tab)::r) W) (hs:W.ShapedOpen Tryz.prog):Gl W :=
 ⟨Lib.tabIs_of_head (t:=281) (e:=168) (n:=20) gPow (by kernel_rfl) (by kernel_rfl) (by kernel_rfl) (by kernel_rfl) (by kernel_rfl) h,
  Go.Proofs.cell_of_shapedOpen_int (zero := #[.int .i64 0]) (t:=3) hs (of_decide_eq_true (by kernel_rfl)) (by kernel_rfl) rfl (by kernel_rfl) (by kernel_rfl) (by kernel_rfl)⟩
section
variable {H:Type} {enc:TypeId×Value→H} {P:Program} {w:World} {base b0:Nat} {spare:Nat→Bool} {held:Bool} {r:Reach}
theorem open_t3 {t e:TypeId} {v:Value} {d:DataW H} {ps:List MemPlace} (ht:P.underlying t=some (.array 3 e)) (he:P.underlying e=some .string) (hc:P.cellsOf e=1) (hC:P.cellsOf t=3)
 (hv:Value.okWide P w r b0 t v) (h:DataW.Trod enc P w base spare held t v d ps) :
 ∃ a b c:ByteArray,v = .agg #[.string a,.string b,.string c]∧d = .agg [.lit (.string a.data.toList),.lit (.string b.data.toList),.lit (.string c.data.toList)]∧ps = []∧a.size≤maxLen∧b.size≤maxLen∧c.size≤maxLen:=by
 have hv' : ∃ cs:Array Value,v = .agg cs∧cs.size=P.cellsOf t:=by
  simp only [Value.okWide,ht] at hv
  obtain ⟨cs,h1,h2,_⟩:=hv
  exact ⟨cs,h1,h2⟩
 obtain ⟨cs,rfl,hsz⟩:=hv'
 obtain ⟨c0,c1,c2,rfl⟩:∃ c0 c1 c2,cs = #[c0,c1,c2]:=by
  obtain ⟨l⟩:=cs
  match l,hsz.trans hC with
  | [c0,c1,c2],_=>exact ⟨c0,c1,c2,rfl⟩
 obtain ⟨fuel,hf⟩:=h
 obtain ⟨xs,m,_,hx,_,hl,hat⟩:=DataW.trod_array ht hf
 obtain ⟨y0,y1,y2,rfl⟩:∃ y0 y1 y2,xs = [y0,y1,y2]:=by
  match xs,hl with
  | [y0,y1,y2],_=>exact ⟨y0,y1,y2,rfl⟩
 have key:∀ {c:Value} {y:DataW H×List MemPlace},DataW.trod enc P w base spare held m e [c]=some y→∃ s:ByteArray,c = .string s∧y=(.lit (.string s.data.toList),[])∧s.size≤maxLen:=by
  intro c y hy
  cases m with
  | zero=>simp [DataW.trod] at hy
  | succ m =>
    unfold DataW.trod at hy
    rw [he] at hy
    cases c <;> simp at hy
    rename_i s
    exact ⟨s,rfl,hy.2.symm,hy.1⟩
 have h0:=hat 0 (by omega)
 have h1:=hat 1 (by omega)
 have h2:=hat 2 (by omega)
 simp only [hc,Value.cells] at h0 h1 h2
 obtain ⟨a,rfl,rfl,ha⟩:=key (c:=c0) (y:=y0) (by simpa using h0)
 obtain ⟨b,rfl,rfl,hb⟩:=key (c:=c1) (y:=y1) (by simpa using h1)
 obtain ⟨c,rfl,rfl,hc⟩:=key (c:=c2) (y:=y2) (by simpa using h2)
 simp only [Prod.mk.injEq] at hx
 exact ⟨a,b,c,rfl,by simpa using hx.1,by simpa using hx.2,ha,hb,hc⟩
theorem shut_t3 {t e:TypeId} {a b c:ByteArray} (ht:P.underlying t=some (.array 3 e)) (he:P.underlying e=some .string) (hc:P.cellsOf e=1) (hC:P.cellsOf t=3) (ha:a.size≤maxLen) (hb:b.size≤maxLen) (hc' : c.size≤maxLen) :
 DataW.Trod enc P w base spare held t (.agg #[.string a,.string b,.string c]) (.agg [.lit (.string a.data.toList),.lit (.string b.data.toList),.lit (.string c.data.toList)]) []:=by
 refine ⟨2,?_⟩
 have key:∀ s:ByteArray,s.size≤maxLen→DataW.trod enc P w base spare held 1 e [.string s]=some (.lit (.string s.data.toList),[]):=by
  intro s hs
  unfold DataW.trod
  rw [he]
  simp [hs]
 have k0:=key a ha
 have k1:=key b hb
 have k2:=key c hc'
 unfold DataW.trod
 simp only [ht,Value.cells]
 rw [if_pos (by simp [hC])]
 have e3:List.range 3 = [0,1,2]:=rfl
 rw [e3]
 simp [hc,k0,k1,k2]
end
theorem hold_t3 {β:List Nat} {a b c:ByteArray} {w:World}:(t3 a b c).holds β (.agg #[.string a,.string b,.string c]) w :=
 ⟨[.string a,.string b,.string c],rfl,[.string a],_,rfl,rfl,[.string b],_,rfl,rfl,[.string c],_,rfl,rfl,rfl⟩
end Ab
end Go.Proofs.YtpjknnddanhgkaaGreatDoor
