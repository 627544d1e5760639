/- Parts of the proof, joined. -/
import Derived.Test.YtnhafhpmocabiaaGreatDoorJ8
import Derived.Test.YtnhafhpmocabiaaGreatDoorJ6
import Derived.Test.YtnhafhpmocabiaaGreatDoorJ7
import Derived.WalkKit
import Derived.ProofKit
import Derived.OpenShut
import Derived.Deep.DeepHandedRow
import Derived.Deep.DeepWitnessRowRef
import Derived.Lib.LaidTab
import Derived.Stop.LaidErr
import Derived.Shelf.Vars
import Derived.Lay
set_option maxHeartbeats 4000000
set_option linter.unusedSimpArgs false
set_option linter.unusedVariables false
set_option linter.constructorNameAsVariable false
namespace Go.Proofs.YtnhafhpmocabiaaGreatDoor
namespace Ab
open Go.RowKit Pl
theorem cU {A:ByteArray} {n:Nat} (hs:A.size≤100000) (h0:0<A.size) (hd:AllDig (aC A)) (hn:aO (aC A)=n):jF 41 [rS A] (pz n):=by
 intro β w vs hv
 obtain ⟨v,rfl,h1⟩:=cL hv
 rw [bG h1]
 refine (vF A w hd h0 hs).mono fun e w' ⟨v,e1,e2,e3⟩=>⟨v,e1,e3,pz_of ?_⟩
 rw [hn,show iN false n=(n:Int) from rfl] at e2
 exact e2
abbrev okT (x:ByteArray):AV Kr := .tup [.sc (.sp (yC (.string x) rfl true (fun _=>rfl))),.sc (.lit (.int .i64 0))]
theorem rk_si {f:FuncId} {s:ByteArray} {z:Int} (h:jF f [tx s] (it z)):jF f [rS s] (.fv (.sc (.lit (.int .i64 z))):AV Kr):=by
 intro β w vs hv
 obtain ⟨v,rfl,h1⟩:=cL hv
 rw [bG h1]
 exact (h β w [.string s] ⟨_,_,rfl,aQ,rfl⟩).mono fun e w' ⟨v,e1,e2,e3⟩=>⟨v,e1,e2,by rw [aK e3];exact dU rfl⟩
theorem pV {q:Rat} (h:Wr q):jF 47 [rS (writeB q)] (.fv (.sc (.lit (.int .i64 0))):AV Kr):=rk_si (refLargeF h)
theorem pW {q:Rat} (hz:Zs 10000 q) (h:¬ Wr q):jF 47 [rS (writeB q)] (.fv (.sc (.lit (.int .i64 4))):AV Kr):=rk_si (refLargeBig hz h)
theorem fracP {N D:Nat} (hn:N<10^(8191+1)) (hd:D<10^(8191+1)) (h0:0<D):jF 46 [pz N,pz D] (rS (writeB (mkRat (N:Int) D))):=by
 intro β w vs hv
 obtain ⟨v,u,rfl,h1,h2⟩:=dQ hv
 refine vG (n:=(N:Int)) (k:=8191) (by decide) (by rw [Int.natAbs_natCast];exact hn) hd h0 β w [v,u] ⟨v,[u],rfl,?_,u,[],rfl,h2,rfl⟩
 obtain ⟨cs,rfl,x1,r1,rfl,h1a,x2,r2,rfl,h2a,e⟩:=h1
 have e0:decide ((N:Int)<0)=false:=decide_eq_false (sS N)
 refine ⟨_,rfl,x1,_,rfl,?_,x2,r2,rfl,?_,e⟩
 ·rw [e0];exact h1a.1
 ·simpa using h2a
def csNz:CS Kr where
 size:=1
 cold:=false
 pred cs _ := ∃ n:Int,cs = [.int .i64 n]∧n≠0
 stable _ _ _ h _:=h
 len cs w h:=by obtain ⟨v,e,_⟩:=h;rw [e];rfl
 one cs w h:=by obtain ⟨v,e,_⟩:=h;rw [e];intro d hd;rw [List.mem_singleton] at hd;rw [hd];rfl
 iscold h:=by cases h
abbrev rNz:AV Kr := .fv (.sc (.sp csNz))
theorem di_pos {w:World} {v:Value} {q:Nat} (h:Di w v q) (h0:0<q):∃ A n c,v = .slice A n c∧n≠0:=by
 obtain ⟨A,n,c,xs,rfl,hr,hd,hn,rfl⟩:=h
 refine ⟨A,n,c,rfl,fun e=>?_⟩
 have:=hr.len
 rw [e,List.length_eq_zero_iff] at this
 rw [this] at h0
 simp [val] at h0
theorem di_nil {w:World} {v:Value} (h:Di w v 0):∃ A c,v = .slice A 0 c:=by
 obtain ⟨A,n,c,xs,rfl,hr,hd,hn,hv⟩:=h
 have hl:=aX dM hn (L:=0) (by rw [hv];exact Nat.one_pos)
 have:=hr.len
 obtain rfl:n=0:=by omega
 exact ⟨A,c,rfl⟩
section
variable {Out:Value→World→Prop} {f:FuncId} {w00:World} {c:Cfg Kr}
theorem rlenZ (t:Tmp) (hg:Ok Tryz.prog f w00 Out (bJ Tryz.prog 1000 (c.give (.fv (.sc (.lit (.int .i64 0)))))))
 (hc:(c.op.map fun o=>o.op,c.okT (.fv (.sc (.lit (.int .i64 0)))),c.ev (.tmp t),c.ev (.tmp t))=(some (.call ⟨.builtin .len,#[.tmp t],#[67]⟩),true,di 0,di 0):=by kernel_rfl):Ok Tryz.prog f w00 Out c:=by
 refine jZ (.call ⟨.builtin .len,#[.tmp t],#[67]⟩) (.tmp t) (.tmp t) (di 0) (di 0) (.fv (.sc (.lit (.int .i64 0)))) hc (by simp [Op.operands,Call.operands]) (by simp [Op.operands,Call.operands]) (fun ρ o β w ho hx _=>?_) hg
 obtain ⟨A,c,e⟩:=di_nil (bA.1 hx)
 exact ⟨_,gE ho e,dU rfl⟩
theorem kA (t:Tmp) (q:Nat) (h0:0<q) (hg:Ok Tryz.prog f w00 Out (bJ Tryz.prog 1000 ((bJ Tryz.prog 1000 (c.give rNz)).give (rl false))))
 (hc:(c.op.map fun o=>o.op,c.okT rNz,c.ev (.tmp t),c.ev (.tmp t))=(some (.call ⟨.builtin .len,#[.tmp t],#[67]⟩),true,di q,di q):=by kernel_rfl)
 (hc2:((bJ Tryz.prog 1000 (c.give rNz)).op.map fun o=>o.op,(bJ Tryz.prog 1000 (c.give rNz)).okT (rl false),(bJ Tryz.prog 1000 (c.give rNz)).ev (.tmp (t+1)),(bJ Tryz.prog 1000 (c.give rNz)).ev (.const (.int .i64 0)))=(some (.binOp .eql 3 (.tmp (t+1)) (.const (.int .i64 0)) 3),true,rNz,.fv (.sc (.lit (.int .i64 0)))):=by kernel_rfl):Ok Tryz.prog f w00 Out c:=by
 refine jZ (.call ⟨.builtin .len,#[.tmp t],#[67]⟩) (.tmp t) (.tmp t) (di q) (di q) rNz hc (by simp [Op.operands,Call.operands]) (by simp [Op.operands,Call.operands]) (fun ρ o β w ho hx _=>?_) ?_
 ·obtain ⟨A,m,c,e,hm⟩:=di_pos (bA.1 hx) h0
  exact ⟨_,gE ho e,⟨(m:Int),rfl,by omega⟩⟩
 refine jZ (.binOp .eql 3 (.tmp (t+1)) (.const (.int .i64 0)) 3) (.tmp (t+1)) (.const (.int .i64 0)) rNz (.fv (.sc (.lit (.int .i64 0)))) (rl false) hc2 (by simp [Op.operands]) (by simp [Op.operands]) (fun ρ o β w ho hx hy=>?_) hg
 obtain ⟨m,e,hm⟩:=hx
 injection e with e
 exact ⟨.bool false,fL ho e (bU hy) (by simpa using hm),dU rfl⟩
theorem pX (t i:Tmp) (s:ByteArray) (k:Nat) (b:UInt8) (h:s[k]?=some b) (hg:Ok Tryz.prog f w00 Out (bJ Tryz.prog 1000 (c.give (.fv (.sc (.lit (.int .u8 b.toNat)))))))
 (hc:(c.op.map fun o=>o.op,c.okT (.fv (.sc (.lit (.int .u8 b.toNat)))),c.ev (.tmp t),c.ev (.tmp i))=(some (.index 9 (.tmp t) (.tmp i)),true,rS s,rI (k:Int)):=by kernel_rfl):Ok Tryz.prog f w00 Out c :=
 jZ (.index 9 (.tmp t) (.tmp i)) (.tmp t) (.tmp i) _ _ (.fv (.sc (.lit (.int .u8 b.toNat)))) hc (by simp [Op.operands]) (by simp [Op.operands]) (fun ρ o β w ho hx hy=>⟨_,fA ho Tryz.underlying9 (bG hx) (bG hy) h,dU rfl⟩) hg
end
section
variable {s t a b:ByteArray} {k N D:Nat}
theorem zK (hs:s.size≤4096) (h0:0<s.size) (hn:cR s=true) (ht:s.extract 1 s.size=t) (hk:bD t=k) (ha:t.extract 0 k=a) (oa:fN a=true) (hN:aO (aC a)=N) (hlt:¬ k<t.size) (hD:D=1) (hD0:0<D) (hN1:N<10^(8191+1)) (hD1:D<10^(8191+1)) (hw:Wr (mkRat (-(N:Int)) D)):jF 10 [rS s] (okT (writeB (mkRat (-(N:Int)) D))):=by
 have hts1:t.size+1=s.size:=by rw [← ht,ByteArray.size_extract];omega
 have hts:t.size≤4096:=by rw [← ht,ByteArray.size_extract];omega
 have hkl:k≤t.size:=by rw [← hk];exact cM t
 have hasz:a.size=k:=by rw [← ha,ByteArray.size_extract];omega
 obtain ⟨dA,a0⟩:=bO oa
 have fa:=cE (s:=a) (by omega) (bF.2 dA)
 subst hD
 refine jT Tryz.func10 fun w00=>?_
 refine aY 10 9 Tryz.underlying9 s ?_
 refine iD 11 4096 (s.size:Nat) false (by rw [decide_eq_false_iff_not];omega) ?_
 refine aY 14 9 Tryz.underlying9 s ?_
 refine iD 15 0 (s.size:Nat) true (by rw [decide_eq_true_iff];omega) ?_
 refine ridn 18 s (jA hn) ?_
 refine rsl1 22 9 Tryz.underlying9 s t (by omega) ht ?_
 refine jB 39 [rS t] (gG (by omega)) ?_
 rw [hk]
 refine jE 26 k false (by simp;omega) ?_
 refine gK 29 30 9 Tryz.underlying9 t k a hkl ha ?_
 refine jB 40 [rS a] fa ?_
 refine aY 37 9 Tryz.underlying9 t ?_
 refine cJ 36 38 (k:Int) (t.size:Nat) false (by rw [decide_eq_false_iff_not];omega) ?_
 refine gK 56 57 9 Tryz.underlying9 t k a hkl ha ?_
 refine jB 41 [rS a] (cU (by omega) a0 dA hN) ?_
 refine jB 42 [.fv (.sc (.lit (.int .i64 1)))] dX ?_
 refine aY 62 9 Tryz.underlying9 t ?_
 refine cJ 61 63 (k:Int) (t.size:Nat) false (by rw [decide_eq_false_iff_not];omega) ?_
 refine aY 77 9 Tryz.underlying9 t ?_
 refine cJ 76 78 (k:Int) (t.size:Nat) false (by rw [decide_eq_false_iff_not];omega) ?_
 refine kA 108 1 hD0 ?_
 refine aY 111 9 Tryz.underlying9 t ?_
 refine aY 113 9 Tryz.underlying9 s ?_
 refine cJ 112 114 (t.size:Nat) (s.size:Nat) true (by rw [decide_eq_true_iff];omega) ?_
 refine jB 45 [pz N] (nN rfl) ?_
 refine jB 46 [iz (-(N:Int)),pz 1] (vG (k:=8191) (by decide) (by rw [Int.natAbs_neg];exact hN1) hD1 hD0) ?_
 refine jB 47 [rS (writeB (mkRat (-(N:Int)) 1))] (pV hw) ?_
 exact jS Tryz.func10
theorem yK (hs:s.size≤4096) (h0:0<s.size) (hn:cR s=true) (ht:s.extract 1 s.size=t) (hk:bD t=k) (ha:t.extract 0 k=a) (oa:fN a=true) (hN:aO (aC a)=N) (hlt:¬ k<t.size) (hD:D=1) (hD0:0<D) (hN1:N<10^(8191+1)) (hD1:D<10^(8191+1)) (hw:¬ Wr (mkRat (-(N:Int)) D)) (hz:Zs 10000 (mkRat (-(N:Int)) D)):jF 10 [rS s] (noR 4):=by
 have hts1:t.size+1=s.size:=by rw [← ht,ByteArray.size_extract];omega
 have hts:t.size≤4096:=by rw [← ht,ByteArray.size_extract];omega
 have hkl:k≤t.size:=by rw [← hk];exact cM t
 have hasz:a.size=k:=by rw [← ha,ByteArray.size_extract];omega
 obtain ⟨dA,a0⟩:=bO oa
 have fa:=cE (s:=a) (by omega) (bF.2 dA)
 subst hD
 refine jT Tryz.func10 fun w00=>?_
 refine aY 10 9 Tryz.underlying9 s ?_
 refine iD 11 4096 (s.size:Nat) false (by rw [decide_eq_false_iff_not];omega) ?_
 refine aY 14 9 Tryz.underlying9 s ?_
 refine iD 15 0 (s.size:Nat) true (by rw [decide_eq_true_iff];omega) ?_
 refine ridn 18 s (jA hn) ?_
 refine rsl1 22 9 Tryz.underlying9 s t (by omega) ht ?_
 refine jB 39 [rS t] (gG (by omega)) ?_
 rw [hk]
 refine jE 26 k false (by simp;omega) ?_
 refine gK 29 30 9 Tryz.underlying9 t k a hkl ha ?_
 refine jB 40 [rS a] fa ?_
 refine aY 37 9 Tryz.underlying9 t ?_
 refine cJ 36 38 (k:Int) (t.size:Nat) false (by rw [decide_eq_false_iff_not];omega) ?_
 refine gK 56 57 9 Tryz.underlying9 t k a hkl ha ?_
 refine jB 41 [rS a] (cU (by omega) a0 dA hN) ?_
 refine jB 42 [.fv (.sc (.lit (.int .i64 1)))] dX ?_
 refine aY 62 9 Tryz.underlying9 t ?_
 refine cJ 61 63 (k:Int) (t.size:Nat) false (by rw [decide_eq_false_iff_not];omega) ?_
 refine aY 77 9 Tryz.underlying9 t ?_
 refine cJ 76 78 (k:Int) (t.size:Nat) false (by rw [decide_eq_false_iff_not];omega) ?_
 refine kA 108 1 hD0 ?_
 refine aY 111 9 Tryz.underlying9 t ?_
 refine aY 113 9 Tryz.underlying9 s ?_
 refine cJ 112 114 (t.size:Nat) (s.size:Nat) true (by rw [decide_eq_true_iff];omega) ?_
 refine jB 45 [pz N] (nN rfl) ?_
 refine jB 46 [iz (-(N:Int)),pz 1] (vG (k:=8191) (by decide) (by rw [Int.natAbs_neg];exact hN1) hD1 hD0) ?_
 refine jB 47 [rS (writeB (mkRat (-(N:Int)) 1))] (pW hz hw) ?_
 exact jS Tryz.func10
theorem zL (hs:s.size≤4096) (h0:0<s.size) (hn:cR s=true) (ht:s.extract 1 s.size=t) (hk:bD t=k) (ha:t.extract 0 k=a) (oa:fN a=true) (hN:aO (aC a)=N) (hlt:k<t.size) (hb:t.extract (k+1) t.size=b) (ob:fN b=true) (hc47:t[k]?=some 47) (hD:aO (aC b)=D) (hD0:0<D) (hN1:N<10^(8191+1)) (hD1:D<10^(8191+1)) (hw:Wr (mkRat (-(N:Int)) D)):jF 10 [rS s] (okT (writeB (mkRat (-(N:Int)) D))):=by
 have hts1:t.size+1=s.size:=by rw [← ht,ByteArray.size_extract];omega
 have hts:t.size≤4096:=by rw [← ht,ByteArray.size_extract];omega
 have hkl:k≤t.size:=by rw [← hk];exact cM t
 have hasz:a.size=k:=by rw [← ha,ByteArray.size_extract];omega
 obtain ⟨dA,a0⟩:=bO oa
 have fa:=cE (s:=a) (by omega) (bF.2 dA)
 have hbsz:b.size=t.size-(k+1):=by rw [← hb,ByteArray.size_extract];omega
 obtain ⟨dB,b0⟩:=bO ob
 have fb:=cE (s:=b) (by omega) (bF.2 dB)
 refine jT Tryz.func10 fun w00=>?_
 refine aY 10 9 Tryz.underlying9 s ?_
 refine iD 11 4096 (s.size:Nat) false (by rw [decide_eq_false_iff_not];omega) ?_
 refine aY 14 9 Tryz.underlying9 s ?_
 refine iD 15 0 (s.size:Nat) true (by rw [decide_eq_true_iff];omega) ?_
 refine ridn 18 s (jA hn) ?_
 refine rsl1 22 9 Tryz.underlying9 s t (by omega) ht ?_
 refine jB 39 [rS t] (gG (by omega)) ?_
 rw [hk]
 refine jE 26 k false (by simp;omega) ?_
 refine gK 29 30 9 Tryz.underlying9 t k a hkl ha ?_
 refine jB 40 [rS a] fa ?_
 refine aY 37 9 Tryz.underlying9 t ?_
 refine cJ 36 38 (k:Int) (t.size:Nat) true (by rw [decide_eq_true_iff];omega) ?_
 refine fE 41 k (by omega) ?_
 refine aY 43 9 Tryz.underlying9 t ?_
 refine nS 42 44 ((k+1:Nat):Int) (t.size:Nat) false (by simp;omega) ?_
 refine fE 48 k (by omega) ?_
 refine kZ 47 49 9 Tryz.underlying9 t (k+1) b (by omega) hb ?_
 refine jB 40 [rS b] fb ?_
 refine gK 56 57 9 Tryz.underlying9 t k a hkl ha ?_
 refine jB 41 [rS a] (cU (by omega) a0 dA hN) ?_
 refine jB 42 [.fv (.sc (.lit (.int .i64 1)))] dX ?_
 refine aY 62 9 Tryz.underlying9 t ?_
 refine cJ 61 63 (k:Int) (t.size:Nat) true (by rw [decide_eq_true_iff];omega) ?_
 refine pX 66 67 t k 47 hc47 ?_
 refine fE 72 k (by omega) ?_
 refine kZ 71 73 9 Tryz.underlying9 t (k+1) b (by omega) hb ?_
 refine jB 41 [rS b] (cU (by omega) b0 dB hD) ?_
 refine aY 77 9 Tryz.underlying9 t ?_
 refine cJ 76 78 (k:Int) (t.size:Nat) true (by rw [decide_eq_true_iff];omega) ?_
 refine pX 81 82 t k 47 hc47 ?_
 refine kA 108 D hD0 ?_
 refine aY 111 9 Tryz.underlying9 t ?_
 refine aY 113 9 Tryz.underlying9 s ?_
 refine cJ 112 114 (t.size:Nat) (s.size:Nat) true (by rw [decide_eq_true_iff];omega) ?_
 refine jB 45 [pz N] (nN rfl) ?_
 refine jB 46 [iz (-(N:Int)),pz D] (vG (k:=8191) (by decide) (by rw [Int.natAbs_neg];exact hN1) hD1 hD0) ?_
 refine jB 47 [rS (writeB (mkRat (-(N:Int)) D))] (pV hw) ?_
 exact jS Tryz.func10
theorem yL (hs:s.size≤4096) (h0:0<s.size) (hn:cR s=true) (ht:s.extract 1 s.size=t) (hk:bD t=k) (ha:t.extract 0 k=a) (oa:fN a=true) (hN:aO (aC a)=N) (hlt:k<t.size) (hb:t.extract (k+1) t.size=b) (ob:fN b=true) (hc47:t[k]?=some 47) (hD:aO (aC b)=D) (hD0:0<D) (hN1:N<10^(8191+1)) (hD1:D<10^(8191+1)) (hw:¬ Wr (mkRat (-(N:Int)) D)) (hz:Zs 10000 (mkRat (-(N:Int)) D)):jF 10 [rS s] (noR 4):=by
 have hts1:t.size+1=s.size:=by rw [← ht,ByteArray.size_extract];omega
 have hts:t.size≤4096:=by rw [← ht,ByteArray.size_extract];omega
 have hkl:k≤t.size:=by rw [← hk];exact cM t
 have hasz:a.size=k:=by rw [← ha,ByteArray.size_extract];omega
 obtain ⟨dA,a0⟩:=bO oa
 have fa:=cE (s:=a) (by omega) (bF.2 dA)
 have hbsz:b.size=t.size-(k+1):=by rw [← hb,ByteArray.size_extract];omega
 obtain ⟨dB,b0⟩:=bO ob
 have fb:=cE (s:=b) (by omega) (bF.2 dB)
 refine jT Tryz.func10 fun w00=>?_
 refine aY 10 9 Tryz.underlying9 s ?_
 refine iD 11 4096 (s.size:Nat) false (by rw [decide_eq_false_iff_not];omega) ?_
 refine aY 14 9 Tryz.underlying9 s ?_
 refine iD 15 0 (s.size:Nat) true (by rw [decide_eq_true_iff];omega) ?_
 refine ridn 18 s (jA hn) ?_
 refine rsl1 22 9 Tryz.underlying9 s t (by omega) ht ?_
 refine jB 39 [rS t] (gG (by omega)) ?_
 rw [hk]
 refine jE 26 k false (by simp;omega) ?_
 refine gK 29 30 9 Tryz.underlying9 t k a hkl ha ?_
 refine jB 40 [rS a] fa ?_
 refine aY 37 9 Tryz.underlying9 t ?_
 refine cJ 36 38 (k:Int) (t.size:Nat) true (by rw [decide_eq_true_iff];omega) ?_
 refine fE 41 k (by omega) ?_
 refine aY 43 9 Tryz.underlying9 t ?_
 refine nS 42 44 ((k+1:Nat):Int) (t.size:Nat) false (by simp;omega) ?_
 refine fE 48 k (by omega) ?_
 refine kZ 47 49 9 Tryz.underlying9 t (k+1) b (by omega) hb ?_
 refine jB 40 [rS b] fb ?_
 refine gK 56 57 9 Tryz.underlying9 t k a hkl ha ?_
 refine jB 41 [rS a] (cU (by omega) a0 dA hN) ?_
 refine jB 42 [.fv (.sc (.lit (.int .i64 1)))] dX ?_
 refine aY 62 9 Tryz.underlying9 t ?_
 refine cJ 61 63 (k:Int) (t.size:Nat) true (by rw [decide_eq_true_iff];omega) ?_
 refine pX 66 67 t k 47 hc47 ?_
 refine fE 72 k (by omega) ?_
 refine kZ 71 73 9 Tryz.underlying9 t (k+1) b (by omega) hb ?_
 refine jB 41 [rS b] (cU (by omega) b0 dB hD) ?_
 refine aY 77 9 Tryz.underlying9 t ?_
 refine cJ 76 78 (k:Int) (t.size:Nat) true (by rw [decide_eq_true_iff];omega) ?_
 refine pX 81 82 t k 47 hc47 ?_
 refine kA 108 D hD0 ?_
 refine aY 111 9 Tryz.underlying9 t ?_
 refine aY 113 9 Tryz.underlying9 s ?_
 refine cJ 112 114 (t.size:Nat) (s.size:Nat) true (by rw [decide_eq_true_iff];omega) ?_
 refine jB 45 [pz N] (nN rfl) ?_
 refine jB 46 [iz (-(N:Int)),pz D] (vG (k:=8191) (by decide) (by rw [Int.natAbs_neg];exact hN1) hD1 hD0) ?_
 refine jB 47 [rS (writeB (mkRat (-(N:Int)) D))] (pW hz hw) ?_
 exact jS Tryz.func10
theorem vN (hs:s.size≤4096) (h0:0<s.size) (hn:cR s=true) (ht:s.extract 1 s.size=t) (hk:bD t=k) (ha:t.extract 0 k=a) (oa:fN a=true) (hN:aO (aC a)=N) (hlt:k<t.size) (hb:t.extract (k+1) t.size=b) (ob:fN b=true) (hc47:t[k]?=some 47) (hD:aO (aC b)=0):jF 10 [rS s] (noR 6):=by
 have hts1:t.size+1=s.size:=by rw [← ht,ByteArray.size_extract];omega
 have hts:t.size≤4096:=by rw [← ht,ByteArray.size_extract];omega
 have hkl:k≤t.size:=by rw [← hk];exact cM t
 have hasz:a.size=k:=by rw [← ha,ByteArray.size_extract];omega
 obtain ⟨dA,a0⟩:=bO oa
 have fa:=cE (s:=a) (by omega) (bF.2 dA)
 have hbsz:b.size=t.size-(k+1):=by rw [← hb,ByteArray.size_extract];omega
 obtain ⟨dB,b0⟩:=bO ob
 have fb:=cE (s:=b) (by omega) (bF.2 dB)
 refine jT Tryz.func10 fun w00=>?_
 refine aY 10 9 Tryz.underlying9 s ?_
 refine iD 11 4096 (s.size:Nat) false (by rw [decide_eq_false_iff_not];omega) ?_
 refine aY 14 9 Tryz.underlying9 s ?_
 refine iD 15 0 (s.size:Nat) true (by rw [decide_eq_true_iff];omega) ?_
 refine ridn 18 s (jA hn) ?_
 refine rsl1 22 9 Tryz.underlying9 s t (by omega) ht ?_
 refine jB 39 [rS t] (gG (by omega)) ?_
 rw [hk]
 refine jE 26 k false (by simp;omega) ?_
 refine gK 29 30 9 Tryz.underlying9 t k a hkl ha ?_
 refine jB 40 [rS a] fa ?_
 refine aY 37 9 Tryz.underlying9 t ?_
 refine cJ 36 38 (k:Int) (t.size:Nat) true (by rw [decide_eq_true_iff];omega) ?_
 refine fE 41 k (by omega) ?_
 refine aY 43 9 Tryz.underlying9 t ?_
 refine nS 42 44 ((k+1:Nat):Int) (t.size:Nat) false (by simp;omega) ?_
 refine fE 48 k (by omega) ?_
 refine kZ 47 49 9 Tryz.underlying9 t (k+1) b (by omega) hb ?_
 refine jB 40 [rS b] fb ?_
 refine gK 56 57 9 Tryz.underlying9 t k a hkl ha ?_
 refine jB 41 [rS a] (cU (by omega) a0 dA hN) ?_
 refine jB 42 [.fv (.sc (.lit (.int .i64 1)))] dX ?_
 refine aY 62 9 Tryz.underlying9 t ?_
 refine cJ 61 63 (k:Int) (t.size:Nat) true (by rw [decide_eq_true_iff];omega) ?_
 refine pX 66 67 t k 47 hc47 ?_
 refine fE 72 k (by omega) ?_
 refine kZ 71 73 9 Tryz.underlying9 t (k+1) b (by omega) hb ?_
 refine jB 41 [rS b] (cU (by omega) b0 dB hD) ?_
 refine aY 77 9 Tryz.underlying9 t ?_
 refine cJ 76 78 (k:Int) (t.size:Nat) true (by rw [decide_eq_true_iff];omega) ?_
 refine pX 81 82 t k 47 hc47 ?_
 refine rlenZ 108 ?_
 exact jS Tryz.func10
theorem zM (hs:s.size≤4096) (h0:0<s.size) (hn:cR s=false) (hk:bD s=k) (ha:s.extract 0 k=a) (oa:fN a=true) (hN:aO (aC a)=N) (hlt:¬ k<s.size) (hD:D=1) (hD0:0<D) (hN1:N<10^(8191+1)) (hD1:D<10^(8191+1)) (hw:Wr (mkRat (N:Int) D)):jF 10 [rS s] (okT (writeB (mkRat (N:Int) D))):=by
 have hts:s.size≤4096:=hs
 have hkl:k≤s.size:=by rw [← hk];exact cM s
 have hasz:a.size=k:=by rw [← ha,ByteArray.size_extract];omega
 obtain ⟨dA,a0⟩:=bO oa
 have fa:=cE (s:=a) (by omega) (bF.2 dA)
 obtain ⟨c,hc,hc45⟩:=jD h0 hn
 subst hD
 refine jT Tryz.func10 fun w00=>?_
 refine aY 10 9 Tryz.underlying9 s ?_
 refine iD 11 4096 (s.size:Nat) false (by rw [decide_eq_false_iff_not];omega) ?_
 refine aY 14 9 Tryz.underlying9 s ?_
 refine iD 15 0 (s.size:Nat) true (by rw [decide_eq_true_iff];omega) ?_
 refine ridp 18 s c hc ?_
 refine zA 19 c hc45 ?_
 refine jB 39 [rS s] (gG (by omega)) ?_
 rw [hk]
 refine jE 26 k false (by simp;omega) ?_
 refine gK 29 30 9 Tryz.underlying9 s k a hkl ha ?_
 refine jB 40 [rS a] fa ?_
 refine aY 37 9 Tryz.underlying9 s ?_
 refine cJ 36 38 (k:Int) (s.size:Nat) false (by rw [decide_eq_false_iff_not];omega) ?_
 refine gK 56 57 9 Tryz.underlying9 s k a hkl ha ?_
 refine jB 41 [rS a] (cU (by omega) a0 dA hN) ?_
 refine jB 42 [.fv (.sc (.lit (.int .i64 1)))] dX ?_
 refine aY 62 9 Tryz.underlying9 s ?_
 refine cJ 61 63 (k:Int) (s.size:Nat) false (by rw [decide_eq_false_iff_not];omega) ?_
 refine aY 77 9 Tryz.underlying9 s ?_
 refine cJ 76 78 (k:Int) (s.size:Nat) false (by rw [decide_eq_false_iff_not];omega) ?_
 refine kA 108 1 hD0 ?_
 refine aY 111 9 Tryz.underlying9 s ?_
 refine aY 113 9 Tryz.underlying9 s ?_
 refine cJ 112 114 (s.size:Nat) (s.size:Nat) false (by rw [decide_eq_false_iff_not];omega) ?_
 refine jB 46 [pz N,pz 1] (fracP hN1 hD1 hD0) ?_
 refine jB 47 [rS (writeB (mkRat (N:Int) 1))] (pV hw) ?_
 exact jS Tryz.func10
theorem yM (hs:s.size≤4096) (h0:0<s.size) (hn:cR s=false) (hk:bD s=k) (ha:s.extract 0 k=a) (oa:fN a=true) (hN:aO (aC a)=N) (hlt:¬ k<s.size) (hD:D=1) (hD0:0<D) (hN1:N<10^(8191+1)) (hD1:D<10^(8191+1)) (hw:¬ Wr (mkRat (N:Int) D)) (hz:Zs 10000 (mkRat (N:Int) D)):jF 10 [rS s] (noR 4):=by
 have hts:s.size≤4096:=hs
 have hkl:k≤s.size:=by rw [← hk];exact cM s
 have hasz:a.size=k:=by rw [← ha,ByteArray.size_extract];omega
 obtain ⟨dA,a0⟩:=bO oa
 have fa:=cE (s:=a) (by omega) (bF.2 dA)
 obtain ⟨c,hc,hc45⟩:=jD h0 hn
 subst hD
 refine jT Tryz.func10 fun w00=>?_
 refine aY 10 9 Tryz.underlying9 s ?_
 refine iD 11 4096 (s.size:Nat) false (by rw [decide_eq_false_iff_not];omega) ?_
 refine aY 14 9 Tryz.underlying9 s ?_
 refine iD 15 0 (s.size:Nat) true (by rw [decide_eq_true_iff];omega) ?_
 refine ridp 18 s c hc ?_
 refine zA 19 c hc45 ?_
 refine jB 39 [rS s] (gG (by omega)) ?_
 rw [hk]
 refine jE 26 k false (by simp;omega) ?_
 refine gK 29 30 9 Tryz.underlying9 s k a hkl ha ?_
 refine jB 40 [rS a] fa ?_
 refine aY 37 9 Tryz.underlying9 s ?_
 refine cJ 36 38 (k:Int) (s.size:Nat) false (by rw [decide_eq_false_iff_not];omega) ?_
 refine gK 56 57 9 Tryz.underlying9 s k a hkl ha ?_
 refine jB 41 [rS a] (cU (by omega) a0 dA hN) ?_
 refine jB 42 [.fv (.sc (.lit (.int .i64 1)))] dX ?_
 refine aY 62 9 Tryz.underlying9 s ?_
 refine cJ 61 63 (k:Int) (s.size:Nat) false (by rw [decide_eq_false_iff_not];omega) ?_
 refine aY 77 9 Tryz.underlying9 s ?_
 refine cJ 76 78 (k:Int) (s.size:Nat) false (by rw [decide_eq_false_iff_not];omega) ?_
 refine kA 108 1 hD0 ?_
 refine aY 111 9 Tryz.underlying9 s ?_
 refine aY 113 9 Tryz.underlying9 s ?_
 refine cJ 112 114 (s.size:Nat) (s.size:Nat) false (by rw [decide_eq_false_iff_not];omega) ?_
 refine jB 46 [pz N,pz 1] (fracP hN1 hD1 hD0) ?_
 refine jB 47 [rS (writeB (mkRat (N:Int) 1))] (pW hz hw) ?_
 exact jS Tryz.func10
theorem zN (hs:s.size≤4096) (h0:0<s.size) (hn:cR s=false) (hk:bD s=k) (ha:s.extract 0 k=a) (oa:fN a=true) (hN:aO (aC a)=N) (hlt:k<s.size) (hb:s.extract (k+1) s.size=b) (ob:fN b=true) (hc47:s[k]?=some 47) (hD:aO (aC b)=D) (hD0:0<D) (hN1:N<10^(8191+1)) (hD1:D<10^(8191+1)) (hw:Wr (mkRat (N:Int) D)):jF 10 [rS s] (okT (writeB (mkRat (N:Int) D))):=by
 have hts:s.size≤4096:=hs
 have hkl:k≤s.size:=by rw [← hk];exact cM s
 have hasz:a.size=k:=by rw [← ha,ByteArray.size_extract];omega
 obtain ⟨dA,a0⟩:=bO oa
 have fa:=cE (s:=a) (by omega) (bF.2 dA)
 obtain ⟨c,hc,hc45⟩:=jD h0 hn
 have hbsz:b.size=s.size-(k+1):=by rw [← hb,ByteArray.size_extract];omega
 obtain ⟨dB,b0⟩:=bO ob
 have fb:=cE (s:=b) (by omega) (bF.2 dB)
 refine jT Tryz.func10 fun w00=>?_
 refine aY 10 9 Tryz.underlying9 s ?_
 refine iD 11 4096 (s.size:Nat) false (by rw [decide_eq_false_iff_not];omega) ?_
 refine aY 14 9 Tryz.underlying9 s ?_
 refine iD 15 0 (s.size:Nat) true (by rw [decide_eq_true_iff];omega) ?_
 refine ridp 18 s c hc ?_
 refine zA 19 c hc45 ?_
 refine jB 39 [rS s] (gG (by omega)) ?_
 rw [hk]
 refine jE 26 k false (by simp;omega) ?_
 refine gK 29 30 9 Tryz.underlying9 s k a hkl ha ?_
 refine jB 40 [rS a] fa ?_
 refine aY 37 9 Tryz.underlying9 s ?_
 refine cJ 36 38 (k:Int) (s.size:Nat) true (by rw [decide_eq_true_iff];omega) ?_
 refine fE 41 k (by omega) ?_
 refine aY 43 9 Tryz.underlying9 s ?_
 refine nS 42 44 ((k+1:Nat):Int) (s.size:Nat) false (by simp;omega) ?_
 refine fE 48 k (by omega) ?_
 refine kZ 47 49 9 Tryz.underlying9 s (k+1) b (by omega) hb ?_
 refine jB 40 [rS b] fb ?_
 refine gK 56 57 9 Tryz.underlying9 s k a hkl ha ?_
 refine jB 41 [rS a] (cU (by omega) a0 dA hN) ?_
 refine jB 42 [.fv (.sc (.lit (.int .i64 1)))] dX ?_
 refine aY 62 9 Tryz.underlying9 s ?_
 refine cJ 61 63 (k:Int) (s.size:Nat) true (by rw [decide_eq_true_iff];omega) ?_
 refine pX 66 67 s k 47 hc47 ?_
 refine fE 72 k (by omega) ?_
 refine kZ 71 73 9 Tryz.underlying9 s (k+1) b (by omega) hb ?_
 refine jB 41 [rS b] (cU (by omega) b0 dB hD) ?_
 refine aY 77 9 Tryz.underlying9 s ?_
 refine cJ 76 78 (k:Int) (s.size:Nat) true (by rw [decide_eq_true_iff];omega) ?_
 refine pX 81 82 s k 47 hc47 ?_
 refine kA 108 D hD0 ?_
 refine aY 111 9 Tryz.underlying9 s ?_
 refine aY 113 9 Tryz.underlying9 s ?_
 refine cJ 112 114 (s.size:Nat) (s.size:Nat) false (by rw [decide_eq_false_iff_not];omega) ?_
 refine jB 46 [pz N,pz D] (fracP hN1 hD1 hD0) ?_
 refine jB 47 [rS (writeB (mkRat (N:Int) D))] (pV hw) ?_
 exact jS Tryz.func10
theorem yN (hs:s.size≤4096) (h0:0<s.size) (hn:cR s=false) (hk:bD s=k) (ha:s.extract 0 k=a) (oa:fN a=true) (hN:aO (aC a)=N) (hlt:k<s.size) (hb:s.extract (k+1) s.size=b) (ob:fN b=true) (hc47:s[k]?=some 47) (hD:aO (aC b)=D) (hD0:0<D) (hN1:N<10^(8191+1)) (hD1:D<10^(8191+1)) (hw:¬ Wr (mkRat (N:Int) D)) (hz:Zs 10000 (mkRat (N:Int) D)):jF 10 [rS s] (noR 4):=by
 have hts:s.size≤4096:=hs
 have hkl:k≤s.size:=by rw [← hk];exact cM s
 have hasz:a.size=k:=by rw [← ha,ByteArray.size_extract];omega
 obtain ⟨dA,a0⟩:=bO oa
 have fa:=cE (s:=a) (by omega) (bF.2 dA)
 obtain ⟨c,hc,hc45⟩:=jD h0 hn
 have hbsz:b.size=s.size-(k+1):=by rw [← hb,ByteArray.size_extract];omega
 obtain ⟨dB,b0⟩:=bO ob
 have fb:=cE (s:=b) (by omega) (bF.2 dB)
 refine jT Tryz.func10 fun w00=>?_
 refine aY 10 9 Tryz.underlying9 s ?_
 refine iD 11 4096 (s.size:Nat) false (by rw [decide_eq_false_iff_not];omega) ?_
 refine aY 14 9 Tryz.underlying9 s ?_
 refine iD 15 0 (s.size:Nat) true (by rw [decide_eq_true_iff];omega) ?_
 refine ridp 18 s c hc ?_
 refine zA 19 c hc45 ?_
 refine jB 39 [rS s] (gG (by omega)) ?_
 rw [hk]
 refine jE 26 k false (by simp;omega) ?_
 refine gK 29 30 9 Tryz.underlying9 s k a hkl ha ?_
 refine jB 40 [rS a] fa ?_
 refine aY 37 9 Tryz.underlying9 s ?_
 refine cJ 36 38 (k:Int) (s.size:Nat) true (by rw [decide_eq_true_iff];omega) ?_
 refine fE 41 k (by omega) ?_
 refine aY 43 9 Tryz.underlying9 s ?_
 refine nS 42 44 ((k+1:Nat):Int) (s.size:Nat) false (by simp;omega) ?_
 refine fE 48 k (by omega) ?_
 refine kZ 47 49 9 Tryz.underlying9 s (k+1) b (by omega) hb ?_
 refine jB 40 [rS b] fb ?_
 refine gK 56 57 9 Tryz.underlying9 s k a hkl ha ?_
 refine jB 41 [rS a] (cU (by omega) a0 dA hN) ?_
 refine jB 42 [.fv (.sc (.lit (.int .i64 1)))] dX ?_
 refine aY 62 9 Tryz.underlying9 s ?_
 refine cJ 61 63 (k:Int) (s.size:Nat) true (by rw [decide_eq_true_iff];omega) ?_
 refine pX 66 67 s k 47 hc47 ?_
 refine fE 72 k (by omega) ?_
 refine kZ 71 73 9 Tryz.underlying9 s (k+1) b (by omega) hb ?_
 refine jB 41 [rS b] (cU (by omega) b0 dB hD) ?_
 refine aY 77 9 Tryz.underlying9 s ?_
 refine cJ 76 78 (k:Int) (s.size:Nat) true (by rw [decide_eq_true_iff];omega) ?_
 refine pX 81 82 s k 47 hc47 ?_
 refine kA 108 D hD0 ?_
 refine aY 111 9 Tryz.underlying9 s ?_
 refine aY 113 9 Tryz.underlying9 s ?_
 refine cJ 112 114 (s.size:Nat) (s.size:Nat) false (by rw [decide_eq_false_iff_not];omega) ?_
 refine jB 46 [pz N,pz D] (fracP hN1 hD1 hD0) ?_
 refine jB 47 [rS (writeB (mkRat (N:Int) D))] (pW hz hw) ?_
 exact jS Tryz.func10
theorem vO (hs:s.size≤4096) (h0:0<s.size) (hn:cR s=false) (hk:bD s=k) (ha:s.extract 0 k=a) (oa:fN a=true) (hN:aO (aC a)=N) (hlt:k<s.size) (hb:s.extract (k+1) s.size=b) (ob:fN b=true) (hc47:s[k]?=some 47) (hD:aO (aC b)=0):jF 10 [rS s] (noR 6):=by
 have hts:s.size≤4096:=hs
 have hkl:k≤s.size:=by rw [← hk];exact cM s
 have hasz:a.size=k:=by rw [← ha,ByteArray.size_extract];omega
 obtain ⟨dA,a0⟩:=bO oa
 have fa:=cE (s:=a) (by omega) (bF.2 dA)
 obtain ⟨c,hc,hc45⟩:=jD h0 hn
 have hbsz:b.size=s.size-(k+1):=by rw [← hb,ByteArray.size_extract];omega
 obtain ⟨dB,b0⟩:=bO ob
 have fb:=cE (s:=b) (by omega) (bF.2 dB)
 refine jT Tryz.func10 fun w00=>?_
 refine aY 10 9 Tryz.underlying9 s ?_
 refine iD 11 4096 (s.size:Nat) false (by rw [decide_eq_false_iff_not];omega) ?_
 refine aY 14 9 Tryz.underlying9 s ?_
 refine iD 15 0 (s.size:Nat) true (by rw [decide_eq_true_iff];omega) ?_
 refine ridp 18 s c hc ?_
 refine zA 19 c hc45 ?_
 refine jB 39 [rS s] (gG (by omega)) ?_
 rw [hk]
 refine jE 26 k false (by simp;omega) ?_
 refine gK 29 30 9 Tryz.underlying9 s k a hkl ha ?_
 refine jB 40 [rS a] fa ?_
 refine aY 37 9 Tryz.underlying9 s ?_
 refine cJ 36 38 (k:Int) (s.size:Nat) true (by rw [decide_eq_true_iff];omega) ?_
 refine fE 41 k (by omega) ?_
 refine aY 43 9 Tryz.underlying9 s ?_
 refine nS 42 44 ((k+1:Nat):Int) (s.size:Nat) false (by simp;omega) ?_
 refine fE 48 k (by omega) ?_
 refine kZ 47 49 9 Tryz.underlying9 s (k+1) b (by omega) hb ?_
 refine jB 40 [rS b] fb ?_
 refine gK 56 57 9 Tryz.underlying9 s k a hkl ha ?_
 refine jB 41 [rS a] (cU (by omega) a0 dA hN) ?_
 refine jB 42 [.fv (.sc (.lit (.int .i64 1)))] dX ?_
 refine aY 62 9 Tryz.underlying9 s ?_
 refine cJ 61 63 (k:Int) (s.size:Nat) true (by rw [decide_eq_true_iff];omega) ?_
 refine pX 66 67 s k 47 hc47 ?_
 refine fE 72 k (by omega) ?_
 refine kZ 71 73 9 Tryz.underlying9 s (k+1) b (by omega) hb ?_
 refine jB 41 [rS b] (cU (by omega) b0 dB hD) ?_
 refine aY 77 9 Tryz.underlying9 s ?_
 refine cJ 76 78 (k:Int) (s.size:Nat) true (by rw [decide_eq_true_iff];omega) ?_
 refine pX 81 82 s k 47 hc47 ?_
 refine rlenZ 108 ?_
 exact jS Tryz.func10
end
section
variable {s:ByteArray}
theorem pQ_neg (hn:cR s=true):pQ s=mkRat (-(pN s:Int)) (pD s):=by rw [pQ,hn];rfl
theorem pQ_pos (hn:cR s=false):pQ s=mkRat (pN s:Int) (pD s):=by rw [pQ,hn];rfl
theorem ok_pos (h:fN (pA s)=true):0<s.size:=by
 have:=(bO h).2
 have:=vZ s
 omega
theorem vI (h:¬ eG s):pN s=aO (aC (pA s)):=by rw [pN,if_neg h]
theorem pD_no (h:¬ eG s) (hp:iF s):pD s=aO (aC (pB s)):=by rw [pD,if_neg h,if_pos hp]
theorem tG (h:¬ iF s):pD s=1:=by rw [pD,if_neg (fun hd=>h (wB hd)),if_neg h]
theorem pN_any (h:pE s=0) (n:Nat) (hn:n=e92):pN s<10^n∧pD s<10^n∧0<pD s:=by
 subst hn
 exact pN_lt h
theorem pQ_zk {k:Nat} (h:pE s=0) (hk:e92≤k+1):Zs k (pQ s):=by
 obtain ⟨h1,h2⟩:=uJ h
 have:10^e92≤10^(k+1):=Nat.pow_le_pow_right (by omega) hk
 exact ⟨Nat.lt_of_lt_of_le h1 this,Nat.lt_of_lt_of_le h2 this⟩
theorem pQ_zs (h:pE s=0):Zs 10000 (pQ s):=pQ_zk h (by decide)
theorem refOkNoDot (h:pE s=0) (hd:¬ eG s) (hw:Wr (pQ s)):jF 10 [rS s] (okT (writeB (pQ s))):=by
 obtain ⟨h1,h2,h3,h4⟩:=iV h
 obtain ⟨l1,l2,l3⟩:=pN_any h (8191+1) rfl
 have h0:=ok_pos h2
 cases hn:cR s with
 | true =>
   have ht:aN s=s.extract 1 s.size:=if_pos hn
   rw [pQ_neg hn] at hw ⊢
   by_cases hp:iF s
   ·exact zL h1 h0 hn ht.symm rfl rfl h2 (vI hd).symm hp rfl (h3 hp) (iO hp hd) (pD_no hd hp).symm l3 l1 l2 hw
   ·exact zK h1 h0 hn ht.symm rfl rfl h2 (vI hd).symm hp (tG hp) l3 l1 l2 hw
 | false =>
   have ht:aN s=s:=if_neg (by rw [hn];exact Bool.false_ne_true)
   rw [pQ_pos hn] at hw ⊢
   have e1:s.extract 0 (bD s)=pA s:=by rw [pA,ht]
   have e2:s.extract (bD s+1) s.size=pB s:=by rw [pB,ht]
   by_cases hp:iF s
   ·have hs:=iO hp hd
    have hp2:=hp
    rw [ht] at hs
    rw [iF,ht] at hp2
    exact zN h1 h0 hn rfl e1 h2 (vI hd).symm hp2 e2 (h3 hp) hs (pD_no hd hp).symm l3 l1 l2 hw
   ·have hp2:=hp
    rw [iF,ht] at hp2
    exact zM h1 h0 hn rfl e1 h2 (vI hd).symm hp2 (tG hp) l3 l1 l2 hw
theorem refBigNoDot (h:pE s=0) (hd:¬ eG s) (hw:¬ Wr (pQ s)):jF 10 [rS s] (noR 4):=by
 obtain ⟨h1,h2,h3,h4⟩:=iV h
 obtain ⟨l1,l2,l3⟩:=pN_any h (8191+1) rfl
 have h0:=ok_pos h2
 have hz:=pQ_zs h
 cases hn:cR s with
 | true =>
   have ht:aN s=s.extract 1 s.size:=if_pos hn
   rw [pQ_neg hn] at hw hz
   by_cases hp:iF s
   ·exact yL h1 h0 hn ht.symm rfl rfl h2 (vI hd).symm hp rfl (h3 hp) (iO hp hd) (pD_no hd hp).symm l3 l1 l2 hw hz
   ·exact yK h1 h0 hn ht.symm rfl rfl h2 (vI hd).symm hp (tG hp) l3 l1 l2 hw hz
 | false =>
   have ht:aN s=s:=if_neg (by rw [hn];exact Bool.false_ne_true)
   rw [pQ_pos hn] at hw hz
   have e1:s.extract 0 (bD s)=pA s:=by rw [pA,ht]
   have e2:s.extract (bD s+1) s.size=pB s:=by rw [pB,ht]
   by_cases hp:iF s
   ·have hs:=iO hp hd
    have hp2:=hp
    rw [ht] at hs
    rw [iF,ht] at hp2
    exact yN h1 h0 hn rfl e1 h2 (vI hd).symm hp2 e2 (h3 hp) hs (pD_no hd hp).symm l3 l1 l2 hw hz
   ·have hp2:=hp
    rw [iF,ht] at hp2
    exact yM h1 h0 hn rfl e1 h2 (vI hd).symm hp2 (tG hp) l3 l1 l2 hw hz
theorem refBad {z:Int} (hm:s.size≤1000000000) (hz:pE s=z) (h0:z≠0):jF 10 [rS s] (noR z):=by
 by_cases hs:4096<s.size
 ·have:z=29:=by rw [← hz,pE,if_pos hs]
  subst this
  exact refParseLong hs hm
 unfold pE at hz
 rw [if_neg hs] at hz
 by_cases h2:fN (pA s)=false
 ·rw [if_pos h2] at hz
  subst hz
  exact refSyn (by omega) (.inl h2)
 rw [if_neg h2] at hz
 have h2:fN (pA s)=true:=by simpa using h2
 by_cases h3:iF s∧fN (pB s)=false
 ·rw [if_pos h3] at hz
  subst hz
  exact refSyn (by omega) (.inr h3)
 rw [if_neg h3] at hz
 by_cases h4:iF s∧¬ eG s∧aO (aC (pB s))=0
 ·rw [if_pos h4] at hz
  subst hz
  obtain ⟨hp,hd,hb⟩:=h4
  have ob:fN (pB s)=true:=by
   by_cases hb:fN (pB s)=true
   ·exact hb
   ·exact absurd ⟨hp,by simpa using hb⟩ h3
  have h0:=ok_pos h2
  have hsl:=iO hp hd
  cases hn:cR s with
  | true =>
    have ht:aN s=s.extract 1 s.size:=if_pos hn
    exact vN (by omega) h0 hn ht.symm rfl rfl h2 rfl hp rfl ob hsl hb
  | false =>
    have ht:aN s=s:=if_neg (by rw [hn];exact Bool.false_ne_true)
    have e1:s.extract 0 (bD s)=pA s:=by rw [pA,ht]
    have e2:s.extract (bD s+1) s.size=pB s:=by rw [pB,ht]
    rw [ht] at hsl
    rw [iF,ht] at hp
    exact vO (by omega) h0 hn rfl e1 h2 rfl hp e2 ob hsl hb
 ·rw [if_neg h4] at hz
  exact absurd hz.symm h0
end
def qOf (n d:Int):Rat:=mkRat (if d<0 then -n else n) d.natAbs
theorem div_qOf (n d:Int) (h:d≠0):(n:Rat)/(d:Rat)=qOf n d:=by
 unfold qOf
 rw [Rat.mkRat_eq_div]
 by_cases hd:d<0
 ·rw [if_pos hd]
  have e:((d.natAbs:Nat):Rat) = -(d:Rat):=by
   have:((d.natAbs:Nat):Int) = -d:=by omega
   rw [← Rat.intCast_neg,← this]
   rfl
  have hq:(d:Rat)≠0:=fun e=>h (Rat.intCast_eq_zero_iff.1 e)
  rw [e,Rat.intCast_neg]
  grind
 ·rw [if_neg hd]
  have e:((d.natAbs:Nat):Rat)=(d:Rat):=by
   have:((d.natAbs:Nat):Int)=d:=by omega
   show (((d.natAbs:Nat):Int):Rat)=_
   rw [this]
  rw [e]
abbrev nW (n:Int):Prop := -9223372036854775808≤n∧n≤9223372036854775807
theorem yO {n d:Int} (hn:nW n) (hd:nW d) (h0:d≠0):(qOf n d).num.natAbs<10^19∧(qOf n d).den<10^19:=by
 obtain ⟨d1,d2⟩:=mF (if d<0 then -n else n) (d:=d.natAbs) (by omega)
 have e:(if d<0 then -n else n).natAbs=n.natAbs:=by split <;> omega
 refine ⟨?_,Nat.lt_of_le_of_lt (Nat.le_of_dvd (by omega) d2) (by omega)⟩
 rw [e] at d1
 rcases Nat.eq_zero_or_pos n.natAbs with h|h
 ·have hz:n=0:=by omega
  have:qOf n d=0:=by
   rw [qOf,hz]
   simp
  rw [this]
  decide
 ·exact Nat.lt_of_le_of_lt (Nat.le_of_dvd h d1) (by omega)
theorem qOf_wr {n d:Int} (hn:nW n) (hd:nW d) (h0:d≠0):Wr (qOf n d):=by
 obtain ⟨h1,h2⟩:=yO hn hd h0
 have a:=decB_size (k:=18) h1
 have b:=decB_size (k:=18) h2
 exact ⟨by omega,by omega⟩
theorem int_lf {n:Int} (h:nW n):Lf 20 (n:Rat):=by
 have h1:n.natAbs<10^19:=by omega
 refine ⟨?_,?_⟩
 ·rw [Rat.num_intCast];exact gO 20 19 (by decide) h1
 ·rw [Rat.den_intCast];exact gO 20 19 (by decide) (by decide)
abbrev xI (n:Int):AV Kn := .fv (.sc (eC n))
theorem integerS {n:Int} (hn:nW n):jF 48 [xI n] (num (n:Rat)):=by
 intro β w vs hv
 obtain ⟨v,rfl,h1⟩:=cL hv
 rw [aJ h1]
 exact (uX n w hn.1 hn.2).mono fun e w' ⟨u,e1,h1,h2⟩=>⟨u,e1,h2,dH.2 h1⟩
theorem ofProgF {n d:Int} (hn:nW n) (hd:nW d) (h0:d≠0):jX 11 [xI n,xI d] (.tup [.sc (eJ (writeB (qOf n d))),.sc z0]):=by
 have hq:(d:Rat)≠0:=fun e=>h0 (Rat.intCast_eq_zero_iff.1 e)
 have hw:=qOf_wr hn hd h0
 obtain ⟨b1,b2⟩:=yO hn hd h0
 have hl:Lf 20 (qOf n d):=⟨gO 20 19 (by decide) b1,gO 20 19 (by decide) b2⟩
 have ho:jF 49 [num (n:Rat),num (d:Rat)] (num (qOf n d)):=by
  rw [← div_qOf n d h0]
  exact uZ ((int_lf hn).mono (by decide)) ((int_lf hd).mono (by decide)) hq
 refine jY Tryz.func11 fun w00 hI=>?_
 refine keqG (.tmp 6) (.const (.int .i64 0)) d 0 false _ _ oV fM (by simpa using h0) ?_
 refine jC 48 [xI n] (integerS hn) ?_
 refine jC 48 [xI d] (integerS hd) ?_
 refine jC 49 [num (n:Rat),num (d:Rat)] (ho) ?_
 refine jW hI 38 [num (qOf n d)] (oO hl hw.n hw.d) ?_
 exact jR Tryz.func11
theorem ofProgZ {n:Int}:jX 11 [xI n,xI 0] (noS 6):=by
 refine jY Tryz.func11 fun w00 hI=>?_
 refine keqG (.tmp 6) (.const (.int .i64 0)) 0 0 true _ _ oV fM rfl ?_
 exact jR Tryz.func11
section
variable {n:Int} {d:Nat}
theorem minusNI {c:Nat} (hc:n=(c:Int)):jF 45 [nz c] (iz n):=by
 rw [hc]
 exact minusNZ
theorem fractionNN {c:Nat} (hc:n=(c:Int)) (hn:Bd n.natAbs) (hd:Bd d) (hd0:0<d) (hp:n.natAbs<B9^100000000) (hq:d<B9^100000000) (hs1:(aS (iN (decide (n<0)) (n.natAbs/Nat.gcd n.natAbs d))).size≤1000000000) (hs2:(aS ((d/Nat.gcd n.natAbs d:Nat):Int)).size≤1000000000) :
 jF 46 [nz c,nz d] (rS (if d/Nat.gcd n.natAbs d=1 then aS (iN (decide (n<0)) (n.natAbs/Nat.gcd n.natAbs d)) else aS (iN (decide (n<0)) (n.natAbs/Nat.gcd n.natAbs d))++⟨#[47]⟩++aS ((d/Nat.gcd n.natAbs d:Nat):Int))):=by
 have hg:0<Nat.gcd n.natAbs d:=Nat.gcd_pos_of_pos_right _ hd0
 have hq0:0<d/Nat.gcd n.natAbs d:=Nat.div_pos (Nat.gcd_le_right _ hd0) hg
 have hq1:d/Nat.gcd n.natAbs d≤d:=Nat.div_le_self _ _
 have hp1:(iN (decide (n<0)) (n.natAbs/Nat.gcd n.natAbs d)).natAbs<B9^100000000:=by rw [nL];exact Nat.lt_of_le_of_lt (Nat.div_le_self _ _) hp
 have hq2:((d/Nat.gcd n.natAbs d:Nat):Int).natAbs<B9^100000000:=by rw [Int.natAbs_natCast];exact Nat.lt_of_le_of_lt hq1 hq
 generalize hG:Nat.gcd n.natAbs d=g at *
 generalize hP:iN (decide (n<0)) (n.natAbs/g)=p at *
 generalize hQ:d/g=q at *
 by_cases h1:q=1
 ·rw [if_pos h1]
  refine jT Tryz.func46 fun w00=>?_
  refine jB 45 [nz c] (minusNI hc) ?_
  refine jB 45 [nz d] uH ?_
  refine jB 32 [di n.natAbs,di d] (by have:=iB hn hd;rw [hG] at this;exact this) ?_
  refine jB 93 [di n.natAbs,di g] (nV hn hg) ?_
  refine jB 93 [di d,di g] (by have:=nV (a:=d) (b:=g) hd hg;rw [hQ] at this;exact this) ?_
  refine jB 113 [rb (decide (n<0)),di (n.natAbs/g)] (by have := @eB (decide (n<0)) (n.natAbs/g);rw [hP] at this;exact this) ?_
  refine jB 118 [iz p] (kW hp1) ?_
  refine jL (.call ⟨.builtin .len,#[.tmp 41],#[67]⟩) (.tmp 41) (.tmp 41) (di q) (di q) (.fv (.sc (.lit (.int .i64 1)))) (fun ρ o β w ho hx _=>?_) ?_
  ·obtain ⟨ad,c,e,_⟩:=fQ (bA.1 hx) hq0 (by rw [h1];exact dM)
   exact ⟨_,gE ho e,dU rfl⟩
  refine jL (.indexAddr 67 (.tmp 45) (.const (.int .i64 0))) (.tmp 45) (.const (.int .i64 0)) (di q) (.fv (.sc (.lit (.int .i64 0)))) (rP q) (fun ρ o β w ho hx hy=>?_) ?_
  ·obtain ⟨ad,c,e,hc⟩:=fQ (bA.1 hx) hq0 (by rw [h1];exact dM)
   exact ⟨_,iZ ho e (bU hy) (by omega),⟨ad,rfl,hc⟩⟩
  refine jL (.load 3 (.tmp 46)) (.tmp 46) (.tmp 46) (rP q) (rP q) (.fv (.sc (.lit (.int .i64 1)))) (fun ρ o β w ho hx _=>?_) ?_
  ·obtain ⟨ad,e,hc⟩:=hx
   injection e with e
   rw [h1] at hc
   exact ⟨_,oR ho e hc,dU rfl⟩
  exact jS Tryz.func46
 ·rw [if_neg h1]
  have hcat1:(aS p).size+(⟨#[47]⟩:ByteArray).size≤9223372036854775807:=by
   have:(⟨#[47]⟩:ByteArray).size=1:=rfl
   omega
  have hcat2:(aS p++⟨#[47]⟩:ByteArray).size+(aS (q:Int)).size≤9223372036854775807:=by
   have:(⟨#[47]⟩:ByteArray).size=1:=rfl
   rw [ByteArray.size_append]
   omega
  by_cases h2:q<B9
  ·refine jT Tryz.func46 fun w00=>?_
   refine jB 45 [nz c] (minusNI hc) ?_
   refine jB 45 [nz d] uH ?_
   refine jB 32 [di n.natAbs,di d] (by have:=iB hn hd;rw [hG] at this;exact this) ?_
   refine jB 93 [di n.natAbs,di g] (nV hn hg) ?_
   refine jB 93 [di d,di g] (by have:=nV (a:=d) (b:=g) hd hg;rw [hQ] at this;exact this) ?_
   refine jB 113 [rb (decide (n<0)),di (n.natAbs/g)] (by have := @eB (decide (n<0)) (n.natAbs/g);rw [hP] at this;exact this) ?_
   refine jB 118 [iz p] (kW hp1) ?_
   refine jL (.call ⟨.builtin .len,#[.tmp 41],#[67]⟩) (.tmp 41) (.tmp 41) (di q) (di q) (.fv (.sc (.lit (.int .i64 1)))) (fun ρ o β w ho hx _=>?_) ?_
   ·obtain ⟨ad,c,e,_⟩:=fQ (bA.1 hx) hq0 h2
    exact ⟨_,gE ho e,dU rfl⟩
   refine jL (.indexAddr 67 (.tmp 45) (.const (.int .i64 0))) (.tmp 45) (.const (.int .i64 0)) (di q) (.fv (.sc (.lit (.int .i64 0)))) (rP q) (fun ρ o β w ho hx hy=>?_) ?_
   ·obtain ⟨ad,c,e,hc⟩:=fQ (bA.1 hx) hq0 h2
    exact ⟨_,iZ ho e (bU hy) (by omega),⟨ad,rfl,hc⟩⟩
   refine jL (.load 3 (.tmp 46)) (.tmp 46) (.tmp 46) (rP q) (rP q) (rI q) (fun ρ o β w ho hx _=>?_) ?_
   ·obtain ⟨ad,e,hc⟩:=hx
    injection e with e
    exact ⟨_,oR ho e hc,dE⟩
   refine jL (.binOp .eql 3 (.tmp 47) (.const (.int .i64 1)) 3) (.tmp 47) (.const (.int .i64 1)) (rI q) (.fv (.sc (.lit (.int .i64 1)))) (rl false) (fun ρ o β w ho hx hy=>⟨.bool false,fL ho (bG hx) (bU hy) (by simp;omega),dU rfl⟩) ?_
   refine jL (.binOp .add 9 (.tmp 51) (.const (.string ⟨#[47]⟩)) 9) (.tmp 51) (.const (.string ⟨#[47]⟩)) (rS (aS p)) (.fv (.sc (.lit (.string ⟨#[47]⟩)))) (rS (aS p++⟨#[47]⟩)) (fun ρ o β w ho hx hy=>⟨_,dN ho (bG hx) (bU hy) hcat1,dE⟩) ?_
   refine jB 113 [rl false,di q] kX ?_
   refine jB 118 [iz (q:Int)] (kW hq2) ?_
   refine jL (.binOp .add 9 (.tmp 52) (.tmp 55) 9) (.tmp 52) (.tmp 55) (rS (aS p++⟨#[47]⟩)) (rS (aS (q:Int))) (rS (aS p++⟨#[47]⟩++aS (q:Int))) (fun ρ o β w ho hx hy=>⟨_,dN ho (bG hx) (bG hy) hcat2,dE⟩) ?_
   exact jS Tryz.func46
  ·refine jT Tryz.func46 fun w00=>?_
   refine jB 45 [nz c] (minusNI hc) ?_
   refine jB 45 [nz d] uH ?_
   refine jB 32 [di n.natAbs,di d] (by have:=iB hn hd;rw [hG] at this;exact this) ?_
   refine jB 93 [di n.natAbs,di g] (nV hn hg) ?_
   refine jB 93 [di d,di g] (by have:=nV (a:=d) (b:=g) hd hg;rw [hQ] at this;exact this) ?_
   refine jB 113 [rb (decide (n<0)),di (n.natAbs/g)] (by have := @eB (decide (n<0)) (n.natAbs/g);rw [hP] at this;exact this) ?_
   refine jB 118 [iz p] (kW hp1) ?_
   refine jL (.call ⟨.builtin .len,#[.tmp 41],#[67]⟩) (.tmp 41) (.tmp 41) (di q) (di q) rNe (fun ρ o β w ho hx _=>?_) ?_
   ·obtain ⟨A,m,c,e,hm⟩:=sV (bA.1 hx) (Nat.le_of_not_lt h2)
    exact ⟨_,gE ho e,⟨(m:Int),rfl,by omega⟩⟩
   refine jL (.binOp .eql 3 (.tmp 42) (.const (.int .i64 1)) 3) (.tmp 42) (.const (.int .i64 1)) rNe (.fv (.sc (.lit (.int .i64 1)))) (rl false) (fun ρ o β w ho hx hy=>?_) ?_
   ·obtain ⟨m,e,hm⟩:=hx
    injection e with e
    exact ⟨.bool false,fL ho e (bU hy) (by simpa using hm),dU rfl⟩
   refine jL (.binOp .add 9 (.tmp 51) (.const (.string ⟨#[47]⟩)) 9) (.tmp 51) (.const (.string ⟨#[47]⟩)) (rS (aS p)) (.fv (.sc (.lit (.string ⟨#[47]⟩)))) (rS (aS p++⟨#[47]⟩)) (fun ρ o β w ho hx hy=>⟨_,dN ho (bG hx) (bU hy) hcat1,dE⟩) ?_
   refine jB 113 [rl false,di q] kX ?_
   refine jB 118 [iz (q:Int)] (kW hq2) ?_
   refine jL (.binOp .add 9 (.tmp 52) (.tmp 55) 9) (.tmp 52) (.tmp 55) (rS (aS p++⟨#[47]⟩)) (rS (aS (q:Int))) (rS (aS p++⟨#[47]⟩++aS (q:Int))) (fun ρ o β w ho hx hy=>⟨_,dN ho (bG hx) (bG hy) hcat2,dE⟩) ?_
   exact jS Tryz.func46
end
theorem fracNN {n:Int} {c d k:Nat} (hc:n=(c:Int)) (hk:k≤1000000) (hn:n.natAbs<10^(k+1)) (hd:d<10^(k+1)) (h0:0<d):jF 46 [nz c,nz d] (rS (writeB (mkRat n d))):=by
 have h:=fractionNN (n:=n) (d:=d) hc (lA hn (by omega)) (lA hd (by omega)) h0 (uF hn (by omega)) (uF hd (by omega))
  (by have:=kK (k:=k) (z:=iN (decide (n<0)) (n.natAbs/Nat.gcd n.natAbs d)) (by rw [nL];exact Nat.lt_of_le_of_lt (Nat.div_le_self _ _) hn);omega)
  (by have:=kK (k:=k) (z:=((d/Nat.gcd n.natAbs d:Nat):Int)) (by rw [Int.natAbs_natCast];exact Nat.lt_of_le_of_lt (Nat.div_le_self _ _) hd);omega)
 rw [kY n h0] at h
 exact h
theorem wholeZF {z:Int} (h:nW z):jF 42 [rI z] (iz z):=by
 intro β w vs hv
 obtain ⟨v,rfl,h1⟩:=cL hv
 rw [bG h1]
 exact (pO z w h).mono fun e w' ⟨v,e1,e2,e3⟩=>⟨v,e1,e3,oQ.2 e2⟩
theorem iz_nz {c:Nat} {β:List Nat} {v:Value} {w:World} (h0:0<c) (h:(iz (-(c:Int))).holds β v w):(nz c).holds β v w:=by
 have e:decide (-(c:Int)<0)=true:=decide_eq_true (by omega)
 obtain ⟨cs,rfl,x1,r1,rfl,h1a,x2,r2,rfl,h2a,e2⟩:=h
 refine ⟨_,rfl,x1,_,rfl,?_,x2,r2,rfl,?_,e2⟩
 ·rw [e] at h1a;exact ⟨h1a,rfl⟩
 ·simpa using h2a
theorem wholePF {c:Nat} (h:nW (c:Int)):jF 42 [rI (c:Int)] (pz c):=rres (wholeZF h) fun _ _ _ h=>iz_pz h
theorem wholeNF {c:Nat} (h0:0<c) (h:nW (-(c:Int))):jF 42 [rI (-(c:Int))] (nz c):=rres (wholeZF h) fun _ _ _ h=>iz_nz h0 h
section
variable {Out:Value→World→Prop} {f:FuncId} {w00:World} {c:Cfg Kr}
theorem nT (t:Tmp) (n a:Int) (r:Bool) (h:decide (a<n)=r) (hg:Ok Tryz.prog f w00 Out (bJ Tryz.prog 1000 (c.give (rl r))))
 (hc:(c.op.map fun o=>o.op,c.okT (rl r),c.ev (.tmp t),c.ev (.const (.int .i64 n)))=(some (.binOp .lss 3 (.tmp t) (.const (.int .i64 n)) 3),true,rI a,.fv (.sc (.lit (.int .i64 n)))):=by kernel_rfl):Ok Tryz.prog f w00 Out c :=
 jZ (.binOp .lss 3 (.tmp t) (.const (.int .i64 n)) 3) (.tmp t) (.const (.int .i64 n)) _ _ (rl r) hc (by simp [Op.operands]) (by simp [Op.operands]) (fun ρ o β w ho hx hy=>⟨_,kG ho (bG hx) (bU hy) h,dU rfl⟩) hg
end
section
variable {n d:Int} {x:ByteArray}
abbrev Out4 (n d:Int):Prop:=n < -4000000000000000000∨4000000000000000000<n∨d < -4000000000000000000∨4000000000000000000<d
theorem ofOutNN {a b:Nat} (ho:Out4 n d) (hX:jF 42 [rI n] (nz a)) (hY:jF 42 [rI d] (nz b)) (hF:jF 46 [nz a,nz b] (rS x)):jF 13 [rI n,rI d] (rS x):=by
 refine jT Tryz.func13 fun w00=>?_
 cases h1:decide (n < -4000000000000000000) with
 | true =>
   refine nT 7 (-4000000000000000000) n true h1 ?_
   refine jB 42 [rI n] hX ?_
   refine jB 42 [rI d] hY ?_
   refine jB 46 [nz a,nz b] hF ?_
   exact jS Tryz.func13
 | false =>
   refine nT 7 (-4000000000000000000) n false h1 ?_
   cases h2:decide (4000000000000000000<n) with
   | true =>
     refine iD 10 4000000000000000000 n true h2 ?_
     refine jB 42 [rI n] hX ?_
     refine jB 42 [rI d] hY ?_
     refine jB 46 [nz a,nz b] hF ?_
     exact jS Tryz.func13
   | false =>
     refine iD 10 4000000000000000000 n false h2 ?_
     cases h3:decide (d < -4000000000000000000) with
     | true =>
       refine nT 14 (-4000000000000000000) d true h3 ?_
       refine jB 42 [rI n] hX ?_
       refine jB 42 [rI d] hY ?_
       refine jB 46 [nz a,nz b] hF ?_
       exact jS Tryz.func13
     | false =>
       refine nT 14 (-4000000000000000000) d false h3 ?_
       cases h4:decide (4000000000000000000<d) with
       | true =>
         refine iD 18 4000000000000000000 d true h4 ?_
         refine jB 42 [rI n] hX ?_
         refine jB 42 [rI d] hY ?_
         refine jB 46 [nz a,nz b] hF ?_
         exact jS Tryz.func13
       | false =>
         simp only [decide_eq_false_iff_not] at h1 h2 h3 h4
         omega
theorem ofOutPN {a b:Nat} (ho:Out4 n d) (hX:jF 42 [rI n] (pz a)) (hY:jF 42 [rI d] (nz b)) (hF:jF 46 [pz a,nz b] (rS x)):jF 13 [rI n,rI d] (rS x):=by
 refine jT Tryz.func13 fun w00=>?_
 cases h1:decide (n < -4000000000000000000) with
 | true =>
   refine nT 7 (-4000000000000000000) n true h1 ?_
   refine jB 42 [rI n] hX ?_
   refine jB 42 [rI d] hY ?_
   refine jB 46 [pz a,nz b] hF ?_
   exact jS Tryz.func13
 | false =>
   refine nT 7 (-4000000000000000000) n false h1 ?_
   cases h2:decide (4000000000000000000<n) with
   | true =>
     refine iD 10 4000000000000000000 n true h2 ?_
     refine jB 42 [rI n] hX ?_
     refine jB 42 [rI d] hY ?_
     refine jB 46 [pz a,nz b] hF ?_
     exact jS Tryz.func13
   | false =>
     refine iD 10 4000000000000000000 n false h2 ?_
     cases h3:decide (d < -4000000000000000000) with
     | true =>
       refine nT 14 (-4000000000000000000) d true h3 ?_
       refine jB 42 [rI n] hX ?_
       refine jB 42 [rI d] hY ?_
       refine jB 46 [pz a,nz b] hF ?_
       exact jS Tryz.func13
     | false =>
       refine nT 14 (-4000000000000000000) d false h3 ?_
       cases h4:decide (4000000000000000000<d) with
       | true =>
         refine iD 18 4000000000000000000 d true h4 ?_
         refine jB 42 [rI n] hX ?_
         refine jB 42 [rI d] hY ?_
         refine jB 46 [pz a,nz b] hF ?_
         exact jS Tryz.func13
       | false =>
         simp only [decide_eq_false_iff_not] at h1 h2 h3 h4
         omega
theorem ofOutZP {b:Nat} (ho:Out4 n d) (hX:jF 42 [rI n] (iz n)) (hY:jF 42 [rI d] (pz b)) (hF:jF 46 [iz n,pz b] (rS x)):jF 13 [rI n,rI d] (rS x):=by
 refine jT Tryz.func13 fun w00=>?_
 cases h1:decide (n < -4000000000000000000) with
 | true =>
   refine nT 7 (-4000000000000000000) n true h1 ?_
   refine jB 42 [rI n] hX ?_
   refine jB 42 [rI d] hY ?_
   refine jB 46 [iz n,pz b] hF ?_
   exact jS Tryz.func13
 | false =>
   refine nT 7 (-4000000000000000000) n false h1 ?_
   cases h2:decide (4000000000000000000<n) with
   | true =>
     refine iD 10 4000000000000000000 n true h2 ?_
     refine jB 42 [rI n] hX ?_
     refine jB 42 [rI d] hY ?_
     refine jB 46 [iz n,pz b] hF ?_
     exact jS Tryz.func13
   | false =>
     refine iD 10 4000000000000000000 n false h2 ?_
     cases h3:decide (d < -4000000000000000000) with
     | true =>
       refine nT 14 (-4000000000000000000) d true h3 ?_
       refine jB 42 [rI n] hX ?_
       refine jB 42 [rI d] hY ?_
       refine jB 46 [iz n,pz b] hF ?_
       exact jS Tryz.func13
     | false =>
       refine nT 14 (-4000000000000000000) d false h3 ?_
       cases h4:decide (4000000000000000000<d) with
       | true =>
         refine iD 18 4000000000000000000 d true h4 ?_
         refine jB 42 [rI n] hX ?_
         refine jB 42 [rI d] hY ?_
         refine jB 46 [iz n,pz b] hF ?_
         exact jS Tryz.func13
       | false =>
         simp only [decide_eq_false_iff_not] at h1 h2 h3 h4
         omega
theorem refOfOut (hn:nW n) (hd:nW d) (h0:d≠0) (ho:Out4 n d):jF 13 [rI n,rI d] (rS (writeB (qOf n d))):=by
 have b1:n.natAbs<10^(19+1):=by omega
 have b2:d.natAbs<10^(19+1):=by omega
 unfold qOf
 by_cases hs:d<0
 ·rw [if_pos hs]
  have e:d = -(d.natAbs:Int):=by omega
  have hy:jF 42 [rI d] (nz d.natAbs):=by
   have:=wholeNF (c:=d.natAbs) (by omega) (by rw [← e];exact hd)
   rwa [← e] at this
  by_cases hz:n<0
  ·have e2:n = -(n.natAbs:Int):=by omega
   have hx:=wholeNF (c:=n.natAbs) (by omega) (by rw [← e2];exact hn)
   rw [← e2] at hx
   exact ofOutNN ho hx hy (fracNN (k:=19) (by omega) (by decide) (by rw [Int.natAbs_neg];exact b1) b2 (by omega))
  ·have e2:n=(n.natAbs:Int):=by omega
   have hx:=wholePF (c:=n.natAbs) (by rw [← e2];exact hn)
   rw [← e2] at hx
   exact ofOutPN ho hx hy (fracNW (k:=19) (by omega) (by decide) (by rw [Int.natAbs_neg];exact b1) b2 (by omega))
 ·rw [if_neg hs]
  have e:d=(d.natAbs:Int):=by omega
  have hy:=wholePF (c:=d.natAbs) (by rw [← e];exact hd)
  rw [← e] at hy
  exact ofOutZP ho (wholeZF hn) hy (vG (k:=19) (by decide) b1 b2 (by omega))
end
end Ab
section
open Go.RowKit Pl
set_option maxRecDepth 100000 in
theorem of_posD (a d:Nat) (w:World) (ha:a≤4000000000000000000) (hd:d≤4000000000000000000) (hd0:0<d) (p q g:Nat) (hg:g=Nat.gcd a d) (hp:p=a/g) (hq:q=d/g) :
 Calls Tryz.prog 13 #[.int .i64 (-(a:Int)),.int .i64 (-(d:Int))] w fun e w'=>e = .returned (.string (if q=1 then Ab.decB p else Ab.decB p++⟨#[47]⟩++Ab.decB q))∧Below w.heap.size w w':=by
 have hg0:0<g:=by rw [hg];exact Nat.gcd_pos_of_pos_right _ hd0
 have hpa:p≤a:=by rw [hp];exact Nat.div_le_self _ _
 have hqd:q≤d:=by rw [hq];exact Nat.div_le_self _ _
 have hq0:0<q:=by rw [hq,hg];exact Nat.div_pos (Nat.gcd_le_right _ hd0) (Nat.gcd_pos_of_pos_right _ hd0)
 have cg:=aH (sQ a d w (by omega) (by omega))
 rw [← hg] at cg
 have c1:=aH (fun W=>iA p W (by omega))
 have c2:=aH (fun W=>iA q W (by omega))
 have s1:(Ab.decB p).size≤19:=Ab.decB_size (k:=18) (by omega)
 have s2:(Ab.decB q).size≤19:=Ab.decB_size (k:=18) (by omega)
 have T:=aH (show wrap64 ((a:Int)/(g:Int))=(p:Int)∧wrap64 ((d:Int)/(g:Int))=(q:Int) from by
  have e1:(a:Int)/(g:Int)=(p:Int):=by rw [hp];simp
  have e2:(d:Int)/(g:Int)=(q:Int):=by rw [hq];simp
  rw [e1,e2]
  exact ⟨IntWalk.wrap64_in _ ⟨by omega,by omega⟩,IntWalk.wrap64_in _ ⟨by omega,by omega⟩⟩)
 have hz0:((g:Int)==0)=false:=by simp;omega
 have hz1:¬ (g:Int)=0:=by omega
 have hz3:((g:Int) == -1)=false:=by simp
 have b1:(a:Int)≤4000000000000000000:=by omega
 have b2:(d:Int)≤4000000000000000000:=by omega
 have b3:(p:Int)≤4000000000000000000:=by omega
 have b4:(q:Int)≤4000000000000000000:=by omega
 have b5:(1:Int)≤d:=by omega
 have b6:(1:Int)≤q:=by omega
 have HQ:=aH (aI hq0 (aI s1 s2))
 obtain ⟨res,hqq⟩:∃ res,res=(if q=1 then Ab.decB p else Ab.decB p++⟨#[47]⟩++Ab.decB q):=⟨_,rfl⟩
 rw [← hqq]
 have HQQ:=aH hqq
 clear hqq
 clear hg hp hq hpa hqd hg0 hd0 ha hd hq0 s1 s2
 go_enter Tryz.func13,Tryz.ntmps13
 go_wp2_with fail
 rw [show max (a:Int) (-(a:Int))=(a:Int) by omega]
 refine (cg.out).mono ?_
 rintro e w1 ⟨rfl,hb⟩
 go_wp2
 go_quiet (fail)
 have hb2:=cG hb nq
 clear hb
 generalize w1.drewN nq=w2 at *
 rw [T.out.1,T.out.2]
 go_wp2_with fail
 rw [show max (p:Int) (-(p:Int))=(p:Int) by omega]
 refine (c1.out _).mono ?_
 rintro e w3 ⟨rfl,rfl⟩
 obtain ⟨h0,s1,s2⟩:=HQ.out
 by_cases hq1:q=1
 ·have k1:¬ (1:Int)<q:=by omega
  have hr:=aH (HQQ.out.trans (if_pos hq1))
  clear hq1 h0 HQQ
  go_wp2
  go_ret
  have E:(⟨#[]⟩:ByteArray)++Ab.decB p=res:=by rw [hr.out];rw [pR]
  exact ⟨congrArg (fun s=>Ending.returned (Value.string s)) E,hb2⟩
 ·have k1:(1:Int)<q:=by omega
  have hr:=aH (HQQ.out.trans (if_neg hq1))
  clear hq1 h0 HQQ
  go_wp2_with fail
  refine (c2.out _).mono ?_
  rintro e w4 ⟨rfl,rfl⟩
  go_wp2
  go_ret
  have E:(⟨#[]⟩:ByteArray)++Ab.decB p++⟨#[47]⟩++Ab.decB q=res:=by rw [hr.out];rw [pR]
  exact ⟨congrArg (fun s=>Ending.returned (Value.string s)) E,hb2⟩
set_option maxRecDepth 100000 in
theorem of_negD (a d:Nat) (w:World) (ha0:0<a) (ha:a≤4000000000000000000) (hd:d≤4000000000000000000) (hd0:0<d) (p q g:Nat) (hg:g=Nat.gcd a d) (hp:p=a/g) (hq:q=d/g) :
 Calls Tryz.prog 13 #[.int .i64 (a:Int),.int .i64 (-(d:Int))] w fun e w'=>e = .returned (.string (if q=1 then (⟨#[45]⟩++Ab.decB p) else (⟨#[45]⟩++Ab.decB p)++⟨#[47]⟩++Ab.decB q))∧Below w.heap.size w w':=by
 have hg0:0<g:=by rw [hg];exact Nat.gcd_pos_of_pos_right _ hd0
 have hpa:p≤a:=by rw [hp];exact Nat.div_le_self _ _
 have hqd:q≤d:=by rw [hq];exact Nat.div_le_self _ _
 have hq0:0<q:=by rw [hq,hg];exact Nat.div_pos (Nat.gcd_le_right _ hd0) (Nat.gcd_pos_of_pos_right _ hd0)
 have hp0:0<p:=by rw [hp,hg];exact Nat.div_pos (Nat.gcd_le_left _ ha0) (Nat.gcd_pos_of_pos_left _ ha0)
 have cg:=aH (sQ a d w (by omega) (by omega))
 rw [← hg] at cg
 have c1:=aH (fun W=>iA p W (by omega))
 have c2:=aH (fun W=>iA q W (by omega))
 have s1:(Ab.decB p).size≤19:=Ab.decB_size (k:=18) (by omega)
 have s2:(Ab.decB q).size≤19:=Ab.decB_size (k:=18) (by omega)
 have T:=aH (show wrap64 (-((a:Int)/(g:Int)))=(-(p:Int))∧wrap64 ((d:Int)/(g:Int))=(q:Int) from by
  have e1:(a:Int)/(g:Int)=(p:Int):=by rw [hp];simp
  have e2:(d:Int)/(g:Int)=(q:Int):=by rw [hq];simp
  rw [e1,e2]
  exact ⟨IntWalk.wrap64_in _ ⟨by omega,by omega⟩,IntWalk.wrap64_in _ ⟨by omega,by omega⟩⟩)
 have hz0:((g:Int)==0)=false:=by simp;omega
 have hz1:¬ (g:Int)=0:=by omega
 have hz3:((g:Int) == -1)=false:=by simp
 have b1:(a:Int)≤4000000000000000000:=by omega
 have b2:(d:Int)≤4000000000000000000:=by omega
 have b3:(p:Int)≤4000000000000000000:=by omega
 have b4:(q:Int)≤4000000000000000000:=by omega
 have b5:(1:Int)≤d:=by omega
 have b6:(1:Int)≤q:=by omega
 have b7:(1:Int)≤a:=by omega
 have b8:(1:Int)≤p:=by omega
 have HQ:=aH (aI hq0 (aI s1 s2))
 obtain ⟨res,hqq⟩:∃ res,res=(if q=1 then (⟨#[45]⟩++Ab.decB p) else (⟨#[45]⟩++Ab.decB p)++⟨#[47]⟩++Ab.decB q):=⟨_,rfl⟩
 rw [← hqq]
 have HQQ:=aH hqq
 clear hqq
 clear hg hp hq hpa hqd hg0 hd0 ha hd hq0 s1 s2
 go_enter Tryz.func13,Tryz.ntmps13
 go_wp2_with fail
 rw [show max (-(a:Int)) (a:Int)=(a:Int) by omega]
 refine (cg.out).mono ?_
 rintro e w1 ⟨rfl,hb⟩
 go_wp2
 go_quiet (fail)
 have hb2:=cG hb nq
 clear hb
 generalize w1.drewN nq=w2 at *
 rw [T.out.1,T.out.2]
 go_wp2_with fail
 rw [show max (-(p:Int)) (p:Int)=(p:Int) by omega]
 refine (c1.out _).mono ?_
 rintro e w3 ⟨rfl,rfl⟩
 obtain ⟨h0,s1,s2⟩:=HQ.out
 by_cases hq1:q=1
 ·have k1:¬ (1:Int)<q:=by omega
  have hr:=aH (HQQ.out.trans (if_pos hq1))
  clear hq1 h0 HQQ
  go_wp2
  go_ret
  have E:(⟨#[45]⟩:ByteArray)++Ab.decB p=res:=by rw [hr.out]
  exact ⟨congrArg (fun s=>Ending.returned (Value.string s)) E,hb2⟩
 ·have k1:(1:Int)<q:=by omega
  have hr:=aH (HQQ.out.trans (if_neg hq1))
  clear hq1 h0 HQQ
  go_wp2_with fail
  refine (c2.out _).mono ?_
  rintro e w4 ⟨rfl,rfl⟩
  go_wp2
  go_ret
  have E:(⟨#[45]⟩:ByteArray)++Ab.decB p++⟨#[47]⟩++Ab.decB q=res:=by rw [hr.out]
  exact ⟨congrArg (fun s=>Ending.returned (Value.string s)) E,hb2⟩
end
namespace Ab
open Go.RowKit Pl
theorem ofFD {n:Int} {d:Nat} (hn:n.natAbs≤4000000000000000000) (hd:d≤4000000000000000000) (h0:0<d):jF 13 [rI (-n),rI (-(d:Int))] (rS (writeB (mkRat n d))):=by
 intro β w vs hv
 obtain ⟨v,u,rfl,h1,h2⟩:=dQ hv
 rw [bG h1,bG h2]
 have hw:=kY n h0
 by_cases hneg:n<0
 ·have e:-n=(n.natAbs:Int):=by omega
  have h:=of_negD n.natAbs d w (by omega) hn hd h0 _ _ _ rfl rfl rfl
  have hp0:0<n.natAbs/Nat.gcd n.natAbs d:=Nat.div_pos (Nat.gcd_le_left _ (by omega)) (Nat.gcd_pos_of_pos_right _ h0)
  have et:aS (iN (decide (n<0)) (n.natAbs/Nat.gcd n.natAbs d))=⟨#[45]⟩++decB (n.natAbs/Nat.gcd n.natAbs d):=by
   rw [decide_eq_true hneg]
   generalize n.natAbs/Nat.gcd n.natAbs d=m at hp0
   show aS (-(m:Int))=_
   unfold aS
   rw [if_pos (by omega)]
   simp
  rw [et,dF] at hw
  rw [← e,hw] at h
  exact h.mono fun e w' ⟨e1,e2⟩=>⟨_,e1,e2,dE⟩
 ·have e:-n = -(n.natAbs:Int):=by omega
  have h:=of_posD n.natAbs d w hn hd h0 _ _ _ rfl rfl rfl
  have et:aS (iN (decide (n<0)) (n.natAbs/Nat.gcd n.natAbs d))=decB (n.natAbs/Nat.gcd n.natAbs d):=by
   rw [decide_eq_false hneg]
   exact dF _
  rw [et,dF] at hw
  rw [← e,hw] at h
  exact h.mono fun e w' ⟨e1,e2⟩=>⟨_,e1,e2,dE⟩
theorem refOfAny {n d:Int} (hn:nW n) (hd:nW d) (h0:d≠0):jF 13 [rI n,rI d] (rS (writeB (qOf n d))):=by
 by_cases ho:Out4 n d
 ·exact refOfOut hn hd h0 ho
 ·unfold Out4 at ho
  unfold qOf
  by_cases hs:d<0
  ·rw [if_pos hs]
   have h:=ofFD (n := -n) (d:=d.natAbs) (by omega) (by omega) (by omega)
   rwa [Int.neg_neg,show -(d.natAbs:Int)=d by omega] at h
  ·rw [if_neg hs]
   have h:=ofF (n:=n) (d:=d.natAbs) (by omega) (by omega) (by omega)
   rwa [show (d.natAbs:Int)=d by omega] at h
open Classical in
noncomputable def pT (s:ByteArray):ByteArray:=if pE s=0∧Wr (pQ s) then writeB (pQ s) else ⟨#[]⟩
open Classical in
noncomputable def pZ (s:ByteArray):Int:=if pE s=0 then (if Wr (pQ s) then 0 else 4) else pE s
abbrev tz (x:ByteArray) (z:Int):AV Kn := .tup [.sc (eJ x),.sc (eC z)]
theorem tz_li {z:Int} {β:List Nat} {v:Value} {w:World} (h:(noS z).holds β v w):(tz ⟨#[]⟩ z).holds β v w:=by
 obtain ⟨cs,rfl,x1,r1,rfl,h1,x2,r2,rfl,h2,e⟩:=h
 refine ⟨_,rfl,x1,_,rfl,?_,x2,r2,rfl,?_,e⟩
 ·obtain rfl:x1 = .string ⟨#[]⟩:=by have:=h1.1;injection this
  exact aQ (β:=β)
 ·obtain rfl:x2 = .int .i64 z:=by have:=h2.1;injection this
  exact aQ (β:=β)
theorem tz_si {x:ByteArray} {β:List Nat} {v:Value} {w:World} (h:(AV.tup [.sc (eJ x),.sc z0]:AV Kn).holds β v w):(tz x 0).holds β v w:=by
 obtain ⟨cs,rfl,x1,r1,rfl,h1,x2,r2,rfl,h2,e⟩:=h
 refine ⟨_,rfl,x1,_,rfl,h1,x2,r2,rfl,?_,e⟩
 obtain rfl:x2 = .int .i64 0:=by have:=h2.1;injection this
 exact aQ (β:=β)
section
variable {s:ByteArray}
theorem parseAllF:jX 9 [tx s] (tz (pT s) (pZ s)):=by
 by_cases h:pE s=0
 ·by_cases hw:Wr (pQ s)
  ·rw [pT,pZ,if_pos ⟨h,hw⟩,if_pos h,if_pos hw]
   exact (parseOkF h hw).res fun _ _ _ k=>tz_si k
  ·rw [pT,pZ,if_neg (fun k=>hw k.2),if_pos h,if_neg hw]
   exact (parseLargeF h hw).res fun _ _ _ k=>tz_li k
 ·rw [pT,pZ,if_neg (fun k=>h k.1),if_neg h]
  exact (parseBadF rfl h).res fun _ _ _ k=>tz_li k
theorem kn_tz {f:FuncId} {x:ByteArray} (h:jF f [rS s] (okT x)):jF f [tx s] (tz x 0):=by
 intro β w vs hv
 obtain ⟨v,rfl,h1⟩:=cL hv
 rw [aJ h1]
 refine (h β w [.string s] ⟨_,_,rfl,dE,rfl⟩).mono fun e w' ⟨v,e1,e2,cs,e3,x1,r1,e4,h1,x2,r2,e5,h2,e6⟩=>⟨v,e1,e2,cs,e3,x1,r1,e4,?_,x2,r2,e5,?_,e6⟩
 ·obtain rfl:x1 = .string x:=by injection (show [x1] = [Value.string x] from h1)
  exact aQ (β:=β)
 ·obtain rfl:x2 = .int .i64 0:=by have:=h2.1;injection this
  exact aQ (β:=β)
theorem kn_nz {f:FuncId} {z:Int} (h:jF f [rS s] (noR z)):jF f [tx s] (tz ⟨#[]⟩ z):=by
 intro β w vs hv
 obtain ⟨v,rfl,h1⟩:=cL hv
 rw [aJ h1]
 refine (h β w [.string s] ⟨_,_,rfl,dE,rfl⟩).mono fun e w' ⟨v,e1,e2,cs,e3,x1,r1,e4,h1,x2,r2,e5,h2,e6⟩=>⟨v,e1,e2,cs,e3,x1,r1,e4,?_,x2,r2,e5,?_,e6⟩
 ·obtain rfl:x1 = .string ⟨#[]⟩:=by have:=h1.1;injection this
  exact aQ (β:=β)
 ·obtain rfl:x2 = .int .i64 z:=by have:=h2.1;injection this
  exact aQ (β:=β)
theorem refAllF (hm:s.size≤1000000000) (h1:pE s=0→eG s→Wr (pQ s)→jF 10 [rS s] (okT (writeB (pQ s)))) (h2:pE s=0→eG s→¬ Wr (pQ s)→jF 10 [rS s] (noR 4)) :
 jF 10 [tx s] (tz (pT s) (pZ s)):=by
 by_cases h:pE s=0
 ·by_cases hw:Wr (pQ s)
  ·rw [pT,pZ,if_pos ⟨h,hw⟩,if_pos h,if_pos hw]
   by_cases hd:eG s
   ·exact kn_tz (h1 h hd hw)
   ·exact kn_tz (refOkNoDot h hd hw)
  ·rw [pT,pZ,if_neg (fun k=>hw k.2),if_pos h,if_neg hw]
   by_cases hd:eG s
   ·exact kn_nz (h2 h hd hw)
   ·exact kn_nz (refBigNoDot h hd hw)
 ·rw [pT,pZ,if_neg (fun k=>h k.1),if_neg h]
  exact kn_nz (refBad hm rfl h)
end
def vP (n:Nat) (l:List UInt8) (i:Nat):Nat:=n*10^i+aO (l.take i)
theorem dotN_zero (n:Nat) (l:List UInt8):vP n l 0=n:=by simp [vP,natOf_nil]
theorem dotN_step (n:Nat) {l:List UInt8} {i:Nat} {c:UInt8} (h:l[i]?=some c):vP n l (i+1)=vP n l i*10+(c.toNat-48):=by
 unfold vP
 rw [List.take_add_one,h,Option.toList_some,qQ,Nat.pow_succ]
 grind
theorem dotN_all (n:Nat) (l:List UInt8):vP n l l.length=n*10^l.length+aO l:=by rw [vP,List.take_length]
def St.only (keep:List Nat) {Kc:Value→Bool} (sx:St Kc):St Kc := { sx with slots:=(List.range sx.slots.length).map fun t=>if keep.contains t then sx.slot t else .un }
def Cfg.only (keep:List Nat) {Kc:Value→Bool}:Cfg Kc→Cfg Kc
 | .items todo sx => .items todo (sx.only keep)
 | .plain ops rest k sx => .plain ops rest k (sx.only keep)
 | c=>c
theorem Rep.only {Kc:Value→Bool} {keep:List Nat} {w00:World} {sx:St Kc} {β:List Nat} {a:Act} {w:World} (h:Rep w00 sx β a w):Rep w00 (sx.only keep) β a w:=by
 refine ⟨h.defers,by rw [h.size];simp [St.only],fun t=>?_,h.len,h.nodup,h.mem,h.lt,h.own,h.below⟩
 unfold St.slot St.only
 rw [List.getD_eq_getElem?_getD,List.getElem?_map]
 by_cases ht:t<sx.slots.length
 ·rw [List.getElem?_range ht]
  simp only [Option.map_some,Option.getD_some]
  split
  ·exact h.slots t
  ·trivial
 ·rw [List.getElem?_eq_none (by rw [List.length_range];exact Nat.le_of_not_lt ht)]
  trivial
theorem Ok.to {P:Program} {f:FuncId} {w00:World} {Out:Value→World→Prop} {Kc:Value→Bool} {c c' : Cfg Kc} (keep:List Nat) (h:Ok P f w00 Out c') (e:c.only keep=c'):Ok P f w00 Out c:=by
 subst e
 cases c with
 | items todo sx=>exact ⟨fun β a w hR=>h.good β a w hR.only⟩
 | plain ops rest k sx=>exact ⟨fun β a w hR=>h.good β a w hR.only⟩
 | drawn=>exact h
def oX (d:Tmp):Code→List Item→Option (List Item)
 | .region i ops b,k=>if (ops[0]?.bind (·.dst))==some d then some (.code (.region i ops b)::k) else none
 | .seq x y,k=>(oX d x (.code y::k)).or (oX d y k)
 | .cond _ x y,k=>(oX d x k).or (oX d y k)
 | .block id c,k=>oX d c (.inBlock id::k)
 | .scope c,k=>oX d c (.inScope c::k)
 | .loop c,k=>oX d c (.inLoop c::k)
 | _,_=>none
noncomputable def dotItems:List Item:=(oX 88 (Tryz.f10.body.getD .skip) []).getD []
def dotKeep:List Nat := [0,2,3,4,5,6,7,8,88,89]
def dotSt (s t:ByteArray) (k j n d:Nat):St Kr where
 slots := [rS s,.un,.fv (.sc (.lit (.string ⟨#[]⟩))),.fv (.sc (.lit (.int .i64 0))),rS t,rI (k:Nat),.fv (.sc (.ptr 0 0)),.fv (.sc (.ptr 1 0)),rI (j:Nat)]++List.replicate 116 .un
 blocks := [(69,[.lit (.bool false),.sp (yZ n)]),(69,[.lit (.bool false),.sp (yZ d)])]
 ro:=0
noncomputable def nU (s t:ByteArray) (k j n d:Nat):Cfg Kr := .items dotItems (dotSt s t k j n d)
theorem wholeTenF:jF 42 [.fv (.sc (.lit (.int .i64 10)))] (pz 10):=by
 intro β w vs hv
 obtain ⟨v,rfl,h1⟩:=cL hv
 rw [bU h1]
 exact (pO 10 w (by constructor <;> omega)).mono fun e w' ⟨v,e1,e2,e3⟩=>⟨v,e1,e3,pz_of e2⟩
theorem plusPP {a b:Nat} (ha:Bd a) (hb:Bd b):jF 43 [pz a,pz b] (pz (a+b)) :=
 rres (rargs (plusZ (a:=(a:Int)) (b:=(b:Int)) (by simpa using ha) (by simpa using hb)) fun β vs w ⟨v,r,e,h1,u,r2,e2,h2,h3⟩=>⟨v,r,e,pz_iz h1,u,r2,e2,pz_iz h2,h3⟩)
  fun β v w h=>iz_pz (d:=a+b) (by simpa using h)
section
variable {Out:Value→World→Prop} {f:FuncId} {w00:World} {c:Cfg Kr}
theorem ridxU (t i:Tmp) (s:ByteArray) (k:Nat) (b:UInt8) (h:s[k]?=some b) (hg:Ok Tryz.prog f w00 Out (bJ Tryz.prog 1000 (c.give (rU b.toNat))))
 (hc:(c.op.map fun o=>o.op,c.okT (rU b.toNat),c.ev (.tmp t),c.ev (.tmp i))=(some (.index 9 (.tmp t) (.tmp i)),true,rS s,rI (k:Int)):=by kernel_rfl):Ok Tryz.prog f w00 Out c :=
 jZ (.index 9 (.tmp t) (.tmp i)) (.tmp t) (.tmp i) _ _ (rU b.toNat) hc (by simp [Op.operands]) (by simp [Op.operands]) (fun ρ o β w ho hx hy=>⟨_,fA ho Tryz.underlying9 (bG hx) (bG hy) h,dE⟩) hg
theorem rconv (t:Tmp) (n:Nat) (hn:n<256) (hg:Ok Tryz.prog f w00 Out (bJ Tryz.prog 1000 (c.give (rI (n:Nat)))))
 (hc:(c.op.map fun o=>o.op,c.okT (rI (n:Nat)),c.ev (.tmp t),c.ev (.tmp t))=(some (.convert 5 3 (.tmp t)),true,rU n,rU n):=by kernel_rfl):Ok Tryz.prog f w00 Out c :=
 jZ (.convert 5 3 (.tmp t)) (.tmp t) (.tmp t) _ _ (rI (n:Nat)) hc (by simp [Op.operands]) (by simp [Op.operands]) (fun ρ o β w ho hx hy=>⟨_,by
  simp only [execOp,ho,bG hx]
  refine bM ?_
  have e:IntKind.i64.wrap (n:Int)=(n:Int):=by rw [IntWalk.i64_left,IntWalk.wrap64_in _ ⟨by omega,by omega⟩]
  simp [go_sem,e],dE⟩) hg
theorem rsubC (t:Tmp) (a b:Nat) (hle:b≤a) (ha:a≤9223372036854775807) (hg:Ok Tryz.prog f w00 Out (bJ Tryz.prog 1000 (c.give (rI ((a-b:Nat):Int)))))
 (hc:(c.op.map fun o=>o.op,c.okT (rI ((a-b:Nat):Int)),c.ev (.tmp t),c.ev (.const (.int .i64 (b:Int))))=(some (.binOp .sub 3 (.tmp t) (.const (.int .i64 (b:Int))) 3),true,(rI (a:Int)),(.fv (.sc (.lit (.int .i64 (b:Int)))))):=by kernel_rfl):Ok Tryz.prog f w00 Out c :=
 jZ (.binOp .sub 3 (.tmp t) (.const (.int .i64 (b:Int))) 3) (.tmp t) (.const (.int .i64 (b:Int))) (rI (a:Int)) _ (rI ((a-b:Nat):Int)) hc (by simp [Op.operands]) (by simp [Op.operands]) (fun ρ o β w ho hx hy=>⟨_,subn_run ho (bG hx) (bU hy) hle ha,dE⟩) hg
end
section
variable {s t a b:ByteArray} {k N D j n d:Nat} {x:AV Kr} {w00:World} {Out:Value→World→Prop}
theorem dotRound {c:UInt8} (hj:t[j]?=some c) (hc:48≤c.toNat) (ht:t.size≤4096) (hn:Bd n) (hn2:Bd (n*10)) (hd:Bd d) (H:Ok Tryz.prog 10 w00 Out (bJ Tryz.prog 1000 (nU s t k (j+1) (n*10+(c.toNat-48)) (d*10)))) :
 Ok Tryz.prog 10 w00 Out (bJ Tryz.prog 1000 (nU s t k j n d)):=by
 have hjt:j<t.size:=by
  rcases Nat.lt_or_ge j t.size with h|h
  ·exact h
  ·rw [getElem?_neg t j (by omega)] at hj;cases hj
 have hc2:=c.toNat_lt
 have b10:Bd 10:=lA (k:=2) (by decide) (by omega)
 have bc:Bd (c.toNat-48):=lA (k:=3) (Nat.lt_of_lt_of_le (show c.toNat-48<256 by omega) (by decide)) (by omega)
 refine aY 89 9 Tryz.underlying9 t ?_
 refine cJ 88 90 (j:Int) (t.size:Nat) true (by rw [decide_eq_true_iff];omega) ?_
 refine jB 42 [.fv (.sc (.lit (.int .i64 10)))] wholeTenF ?_
 refine jB 44 [pz n,pz 10] (timesPP hn b10) ?_
 refine ridxU 97 98 t j c hj ?_
 refine rconv 99 c.toNat (by omega) ?_
 refine rsubC 100 c.toNat 48 hc (by omega) ?_
 refine jB 42 [rI ((c.toNat-48:Nat):Int)] (wholePF (by constructor <;> omega)) ?_
 refine jB 43 [pz (n*10),pz (c.toNat-48)] (plusPP hn2 bc) ?_
 refine jB 42 [.fv (.sc (.lit (.int .i64 10)))] wholeTenF ?_
 refine jB 44 [pz d,pz 10] (timesPP hd b10) ?_
 refine fE 92 j (by omega) ?_
 exact Ok.to dotKeep H (by kernel_rfl)
theorem dotEndNegOk (hs:s.size≤4096) (hts:t.size+1=s.size) (hD0:0<D) (hN1:N<10^(8191+1)) (hD1:D<10^(8191+1)) (hw:Wr (mkRat (-(N:Int)) D)):Ok Tryz.prog 10 w00 (fun v w=>(okT (writeB (mkRat (-(N:Int)) D)):AV Kr).holds [] v w) (bJ Tryz.prog 1000 (nU s t k t.size N D)):=by
 refine aY 89 9 Tryz.underlying9 t ?_
 refine cJ 88 90 (t.size:Nat) (t.size:Nat) false (by rw [decide_eq_false_iff_not];omega) ?_
 refine kA 108 D hD0 ?_
 refine aY 111 9 Tryz.underlying9 t ?_
 refine aY 113 9 Tryz.underlying9 s ?_
 refine cJ 112 114 (t.size:Nat) (s.size:Nat) true (by rw [decide_eq_true_iff];omega) ?_
 refine jB 45 [pz N] (nN rfl) ?_
 refine jB 46 [iz (-(N:Int)),pz D] (vG (k:=8191) (by decide) (by rw [Int.natAbs_neg];exact hN1) hD1 hD0) ?_
 refine jB 47 [rS (writeB (mkRat (-(N:Int)) D))] (pV hw) ?_
 exact jS Tryz.func10
theorem dotEndNegBig (hs:s.size≤4096) (hts:t.size+1=s.size) (hD0:0<D) (hN1:N<10^(8191+1)) (hD1:D<10^(8191+1)) (hw:¬ Wr (mkRat (-(N:Int)) D)) (hz:Zs 10000 (mkRat (-(N:Int)) D)):Ok Tryz.prog 10 w00 (fun v w=>(noR 4:AV Kr).holds [] v w) (bJ Tryz.prog 1000 (nU s t k t.size N D)):=by
 refine aY 89 9 Tryz.underlying9 t ?_
 refine cJ 88 90 (t.size:Nat) (t.size:Nat) false (by rw [decide_eq_false_iff_not];omega) ?_
 refine kA 108 D hD0 ?_
 refine aY 111 9 Tryz.underlying9 t ?_
 refine aY 113 9 Tryz.underlying9 s ?_
 refine cJ 112 114 (t.size:Nat) (s.size:Nat) true (by rw [decide_eq_true_iff];omega) ?_
 refine jB 45 [pz N] (nN rfl) ?_
 refine jB 46 [iz (-(N:Int)),pz D] (vG (k:=8191) (by decide) (by rw [Int.natAbs_neg];exact hN1) hD1 hD0) ?_
 refine jB 47 [rS (writeB (mkRat (-(N:Int)) D))] (pW hz hw) ?_
 exact jS Tryz.func10
theorem dotEndPosOk (hs:s.size≤4096) (hD0:0<D) (hN1:N<10^(8191+1)) (hD1:D<10^(8191+1)) (hw:Wr (mkRat ((N:Int)) D)):Ok Tryz.prog 10 w00 (fun v w=>(okT (writeB (mkRat ((N:Int)) D)):AV Kr).holds [] v w) (bJ Tryz.prog 1000 (nU s s k s.size N D)):=by
 refine aY 89 9 Tryz.underlying9 s ?_
 refine cJ 88 90 (s.size:Nat) (s.size:Nat) false (by rw [decide_eq_false_iff_not];omega) ?_
 refine kA 108 D hD0 ?_
 refine aY 111 9 Tryz.underlying9 s ?_
 refine aY 113 9 Tryz.underlying9 s ?_
 refine cJ 112 114 (s.size:Nat) (s.size:Nat) false (by rw [decide_eq_false_iff_not];omega) ?_
 refine jB 46 [pz N,pz D] (fracP hN1 hD1 hD0) ?_
 refine jB 47 [rS (writeB (mkRat ((N:Int)) D))] (pV hw) ?_
 exact jS Tryz.func10
theorem dotEndPosBig (hs:s.size≤4096) (hD0:0<D) (hN1:N<10^(8191+1)) (hD1:D<10^(8191+1)) (hw:¬ Wr (mkRat ((N:Int)) D)) (hz:Zs 10000 (mkRat ((N:Int)) D)):Ok Tryz.prog 10 w00 (fun v w=>(noR 4:AV Kr).holds [] v w) (bJ Tryz.prog 1000 (nU s s k s.size N D)):=by
 refine aY 89 9 Tryz.underlying9 s ?_
 refine cJ 88 90 (s.size:Nat) (s.size:Nat) false (by rw [decide_eq_false_iff_not];omega) ?_
 refine kA 108 D hD0 ?_
 refine aY 111 9 Tryz.underlying9 s ?_
 refine aY 113 9 Tryz.underlying9 s ?_
 refine cJ 112 114 (s.size:Nat) (s.size:Nat) false (by rw [decide_eq_false_iff_not];omega) ?_
 refine jB 46 [pz N,pz D] (fracP hN1 hD1 hD0) ?_
 refine jB 47 [rS (writeB (mkRat ((N:Int)) D))] (pW hz hw) ?_
 exact jS Tryz.func10
theorem dotNeg (hx:x.noPtr=true) (hs:s.size≤4096) (h0:0<s.size) (hn:cR s=true) (ht:s.extract 1 s.size=t) (hk:bD t=k) (ha:t.extract 0 k=a) (oa:fN a=true) (hN:aO (aC a)=N) (hlt:k<t.size) (hb:t.extract (k+1) t.size=b) (ob:fN b=true) (hc46:t[k]?=some 46)
 (H:∀ w00,Ok Tryz.prog 10 w00 (fun v w=>x.holds [] v w) (bJ Tryz.prog 1000 (nU s t k (k+1) N 1))):jF 10 [rS s] x:=by
 have hts1:t.size+1=s.size:=by rw [← ht,ByteArray.size_extract];omega
 have hts:t.size≤4096:=by rw [← ht,ByteArray.size_extract];omega
 have hkl:k≤t.size:=by rw [← hk];exact cM t
 have hasz:a.size=k:=by rw [← ha,ByteArray.size_extract];omega
 obtain ⟨dA,a0⟩:=bO oa
 have fa:=cE (s:=a) (by omega) (bF.2 dA)
 have hbsz:b.size=t.size-(k+1):=by rw [← hb,ByteArray.size_extract];omega
 obtain ⟨dB,b0⟩:=bO ob
 have fb:=cE (s:=b) (by omega) (bF.2 dB)
 refine rgo Tryz.func10 (by rw [hx];kernel_rfl) fun w00=>?_
 refine aY 10 9 Tryz.underlying9 s ?_
 refine iD 11 4096 (s.size:Nat) false (by rw [decide_eq_false_iff_not];omega) ?_
 refine aY 14 9 Tryz.underlying9 s ?_
 refine iD 15 0 (s.size:Nat) true (by rw [decide_eq_true_iff];omega) ?_
 refine ridn 18 s (jA hn) ?_
 refine rsl1 22 9 Tryz.underlying9 s t (by omega) ht ?_
 refine jB 39 [rS t] (gG (by omega)) ?_
 rw [hk]
 refine jE 26 k false (by simp;omega) ?_
 refine gK 29 30 9 Tryz.underlying9 t k a hkl ha ?_
 refine jB 40 [rS a] fa ?_
 refine aY 37 9 Tryz.underlying9 t ?_
 refine cJ 36 38 (k:Int) (t.size:Nat) true (by rw [decide_eq_true_iff];omega) ?_
 refine fE 41 k (by omega) ?_
 refine aY 43 9 Tryz.underlying9 t ?_
 refine nS 42 44 ((k+1:Nat):Int) (t.size:Nat) false (by simp;omega) ?_
 refine fE 48 k (by omega) ?_
 refine kZ 47 49 9 Tryz.underlying9 t (k+1) b (by omega) hb ?_
 refine jB 40 [rS b] fb ?_
 refine gK 56 57 9 Tryz.underlying9 t k a hkl ha ?_
 refine jB 41 [rS a] (cU (by omega) a0 dA hN) ?_
 refine jB 42 [.fv (.sc (.lit (.int .i64 1)))] dX ?_
 refine aY 62 9 Tryz.underlying9 t ?_
 refine cJ 61 63 (k:Int) (t.size:Nat) true (by rw [decide_eq_true_iff];omega) ?_
 refine pX 66 67 t k 46 hc46 ?_
 refine aY 77 9 Tryz.underlying9 t ?_
 refine cJ 76 78 (k:Int) (t.size:Nat) true (by rw [decide_eq_true_iff];omega) ?_
 refine pX 81 82 t k 46 hc46 ?_
 refine fE 86 k (by omega) ?_
 exact Ok.to dotKeep (H w00) (by kernel_rfl)
theorem dotPos (hx:x.noPtr=true) (hs:s.size≤4096) (h0:0<s.size) (hn:cR s=false) (hk:bD s=k) (ha:s.extract 0 k=a) (oa:fN a=true) (hN:aO (aC a)=N) (hlt:k<s.size) (hb:s.extract (k+1) s.size=b) (ob:fN b=true) (hc46:s[k]?=some 46)
 (H:∀ w00,Ok Tryz.prog 10 w00 (fun v w=>x.holds [] v w) (bJ Tryz.prog 1000 (nU s s k (k+1) N 1))):jF 10 [rS s] x:=by
 have hkl:k≤s.size:=by rw [← hk];exact cM s
 have hasz:a.size=k:=by rw [← ha,ByteArray.size_extract];omega
 obtain ⟨dA,a0⟩:=bO oa
 have fa:=cE (s:=a) (by omega) (bF.2 dA)
 have hbsz:b.size=s.size-(k+1):=by rw [← hb,ByteArray.size_extract];omega
 obtain ⟨dB,b0⟩:=bO ob
 have fb:=cE (s:=b) (by omega) (bF.2 dB)
 obtain ⟨c,hc,hc45⟩:=jD h0 hn
 refine rgo Tryz.func10 (by rw [hx];kernel_rfl) fun w00=>?_
 refine aY 10 9 Tryz.underlying9 s ?_
 refine iD 11 4096 (s.size:Nat) false (by rw [decide_eq_false_iff_not];omega) ?_
 refine aY 14 9 Tryz.underlying9 s ?_
 refine iD 15 0 (s.size:Nat) true (by rw [decide_eq_true_iff];omega) ?_
 refine ridp 18 s c hc ?_
 refine zA 19 c hc45 ?_
 refine jB 39 [rS s] (gG (by omega)) ?_
 rw [hk]
 refine jE 26 k false (by simp;omega) ?_
 refine gK 29 30 9 Tryz.underlying9 s k a hkl ha ?_
 refine jB 40 [rS a] fa ?_
 refine aY 37 9 Tryz.underlying9 s ?_
 refine cJ 36 38 (k:Int) (s.size:Nat) true (by rw [decide_eq_true_iff];omega) ?_
 refine fE 41 k (by omega) ?_
 refine aY 43 9 Tryz.underlying9 s ?_
 refine nS 42 44 ((k+1:Nat):Int) (s.size:Nat) false (by simp;omega) ?_
 refine fE 48 k (by omega) ?_
 refine kZ 47 49 9 Tryz.underlying9 s (k+1) b (by omega) hb ?_
 refine jB 40 [rS b] fb ?_
 refine gK 56 57 9 Tryz.underlying9 s k a hkl ha ?_
 refine jB 41 [rS a] (cU (by omega) a0 dA hN) ?_
 refine jB 42 [.fv (.sc (.lit (.int .i64 1)))] dX ?_
 refine aY 62 9 Tryz.underlying9 s ?_
 refine cJ 61 63 (k:Int) (s.size:Nat) true (by rw [decide_eq_true_iff];omega) ?_
 refine pX 66 67 s k 46 hc46 ?_
 refine aY 77 9 Tryz.underlying9 s ?_
 refine cJ 76 78 (k:Int) (s.size:Nat) true (by rw [decide_eq_true_iff];omega) ?_
 refine pX 81 82 s k 46 hc46 ?_
 refine fE 86 k (by omega) ?_
 exact Ok.to dotKeep (H w00) (by kernel_rfl)
end
theorem dotN_lt {n A i:Nat} {l:List UInt8} (hn:n<10^A) (hl:AllDig l):vP n l i<10^(A+i):=by
 have h1:=eV (hl.take i)
 have h2:10^(l.take i).length≤10^i:=Nat.pow_le_pow_right (by omega) (by rw [List.length_take];omega)
 have h3:=Nat.mul_le_mul_right (10^i) (Nat.succ_le_of_lt hn)
 rw [Nat.succ_mul] at h3
 rw [vP,Nat.pow_add]
 omega
section
variable {s t b:ByteArray} {k n A m i:Nat} {w00:World} {Out:Value→World→Prop}
theorem tail_get (hb:t.extract (k+1) t.size=b) {c:UInt8} (hc:(aC b)[i]?=some c):t[k+1+i]?=some c:=by
 have hi:i<(aC b).length:=(List.getElem?_eq_some_iff.1 hc).1
 rw [aE,← hb,ByteArray.size_extract] at hi
 have hk:k+1+i<t.size:=by omega
 have h1:=bY hk
 rw [← hb,bC,List.getElem?_drop,List.getElem?_take] at hc
 rw [if_pos (by omega),h1] at hc
 rw [getElem?_pos t _ hk]
 exact hc
theorem dotRuns (hb:t.extract (k+1) t.size=b) (ob:AllDig (aC b)) (ht:t.size≤4096) (hk:k<t.size) (hn:n<10^A) (hA:A≤4096)
 (H:Ok Tryz.prog 10 w00 Out (bJ Tryz.prog 1000 (nU s t k t.size (vP n (aC b) (aC b).length) (10^(aC b).length)))) (hi:i+m=(aC b).length) :
 Ok Tryz.prog 10 w00 Out (bJ Tryz.prog 1000 (nU s t k (k+1+i) (vP n (aC b) i) (10^i))):=by
 have hbs:(aC b).length=t.size-(k+1):=by rw [aE,← hb,ByteArray.size_extract];omega
 induction m generalizing i with
 | zero =>
   obtain rfl:i=(aC b).length:=by omega
   rw [show k+1+(aC b).length=t.size by omega]
   exact H
 | succ m ih =>
   have hlt:i<(aC b).length:=by omega
   obtain ⟨c,hc⟩:∃ c,(aC b)[i]?=some c:=⟨_,List.getElem?_eq_getElem hlt⟩
   have hdg:=ob c (List.mem_of_getElem? hc)
   have h1:=dotN_lt (i:=i) hn ob
   refine dotRound (tail_get hb hc) hdg.1 ht (lA h1 (by omega)) (lA (k:=A+i+1) (by rw [Nat.pow_succ];omega) (by omega)) (lA (k:=i+1) (Nat.pow_lt_pow_right (by omega) (by omega)) (by omega)) ?_
   rw [← dotN_step n hc,← Nat.pow_succ]
   have h2:=ih (i:=i+1) (by omega)
   rw [← Nat.add_assoc (k+1) i 1] at h2
   exact h2
end
section
variable {s:ByteArray}
theorem pN_dot (h:eG s):pN s=vP (aO (aC (pA s))) (aC (pB s)) (aC (pB s)).length:=by rw [pN,if_pos h,dotN_all,aE]
theorem pD_dot (h:eG s):pD s=10^(aC (pB s)).length:=by rw [pD,if_pos h,aE]
theorem pA_lt (h:pE s=0):aO (aC (pA s))<10^s.size:=by
 have h1:=eV (bO (iV h).2.1).1
 rw [aE] at h1
 exact Nat.lt_of_lt_of_le h1 (Nat.pow_le_pow_right (by omega) (vZ s))
theorem refDot {x:AV Kr} (hx:x.noPtr=true) (h:pE s=0) (hd:eG s)
 (hneg:cR s=true→∀ w00,(aN s).size+1=s.size→Ok Tryz.prog 10 w00 (fun v w=>x.holds [] v w) (bJ Tryz.prog 1000 (nU s (aN s) (bD (aN s)) (aN s).size (pN s) (pD s))))
 (hpos:cR s=false→∀ w00,Ok Tryz.prog 10 w00 (fun v w=>x.holds [] v w) (bJ Tryz.prog 1000 (nU s s (bD s) s.size (pN s) (pD s)))):jF 10 [rS s] x:=by
 obtain ⟨h1,h2,h3,h4⟩:=iV h
 have hp:=wB hd
 have ob:=h3 hp
 have h0:=ok_pos h2
 have ha:=pA_lt h
 rw [pN_dot hd,pD_dot hd] at hneg hpos
 have hts:=oW s
 cases hn:cR s with
 | true =>
   have ht:aN s=s.extract 1 s.size:=if_pos hn
   refine dotNeg hx h1 h0 hn ht.symm rfl rfl h2 rfl hp rfl ob hd fun w00=>?_
   have:=dotRuns (s:=s) (t:=aN s) (b:=pB s) (i:=0) (m:=(aC (pB s)).length) rfl (bO ob).1 (by omega) hp ha h1 (hneg hn w00 (by rw [ht,ByteArray.size_extract];omega)) (by omega)
   rw [dotN_zero] at this
   exact this
 | false =>
   have ht:aN s=s:=if_neg (by rw [hn];exact Bool.false_ne_true)
   have e1:s.extract 0 (bD s)=pA s:=by rw [pA,ht]
   have e2:s.extract (bD s+1) s.size=pB s:=by rw [pB,ht]
   have hd2:s[bD s]?=some 46:=by rw [eG,ht] at hd;exact hd
   rw [iF,ht] at hp
   refine dotPos hx h1 h0 hn rfl e1 h2 rfl hp e2 ob hd2 fun w00=>?_
   have:=dotRuns (s:=s) (t:=s) (b:=pB s) (i:=0) (m:=(aC (pB s)).length) e2 (bO ob).1 h1 hp ha h1 (hpos hn w00) (by omega)
   rw [dotN_zero] at this
   exact this
theorem refOkDot (h:pE s=0) (hd:eG s) (hw:Wr (pQ s)):jF 10 [rS s] (okT (writeB (pQ s))):=by
 obtain ⟨l1,l2,l3⟩:=pN_any h (8191+1) rfl
 have h1:=(iV h).1
 refine refDot rfl h hd (fun hn w00 hs=>?_) (fun hn w00=>?_)
 ·rw [pQ_neg hn] at hw ⊢
  exact dotEndNegOk h1 hs l3 l1 l2 hw
 ·rw [pQ_pos hn] at hw ⊢
  exact dotEndPosOk h1 l3 l1 l2 hw
theorem refBigDot (h:pE s=0) (hd:eG s) (hw:¬ Wr (pQ s)):jF 10 [rS s] (noR 4):=by
 obtain ⟨l1,l2,l3⟩:=pN_any h (8191+1) rfl
 have h1:=(iV h).1
 have hz:=pQ_zs h
 refine refDot rfl h hd (fun hn w00 hs=>?_) (fun hn w00=>?_)
 ·rw [pQ_neg hn] at hw hz
  exact dotEndNegBig h1 hs l3 l1 l2 hw hz
 ·rw [pQ_pos hn] at hw hz
  exact dotEndPosBig h1 l3 l1 l2 hw hz
theorem refParseF (hm:s.size≤1000000000):jF 10 [tx s] (tz (pT s) (pZ s)):=refAllF hm refOkDot refBigDot
end
end Ab
section
open Go.RowKit Pl
set_option maxHeartbeats 8000000 in
set_option maxRecDepth 100000 in
theorem zO (s:ByteArray) (w:World):Calls Tryz.prog 6 #[.string s] w fun e w'=>e = .returned (.bool (kU s))∧w'=w:=by
 by_cases hs:s.size<1∨24<s.size
 ·have hb:kU s=false:=by
   unfold kU
   have hl:=aE s
   cases hb:aC s with
   | nil=>rfl
   | cons c l =>
     rw [hb,List.length_cons] at hl
     have:decide (s.size≤24)=false:=by rw [decide_eq_false_iff_not];omega
     show (isL c.toNat&&gZ l&&decide (s.size≤24))=false
     rw [this,Bool.and_false]
  rw [hb]
  rcases hs with hs|hs
  ·have z1:(s.size:Int)<1:=by omega
   clear hs hb
   go_enter Tryz.func6,Tryz.ntmps6
   go_wp2
   go_ret
   exact ⟨rfl,rfl⟩
  ·have z1:¬ (s.size:Int)<1:=by omega
   have z2:(24:Int)<s.size:=by omega
   clear hs hb
   go_enter Tryz.func6,Tryz.ntmps6
   go_wp2
   go_ret
   exact ⟨rfl,rfl⟩
 ·have z1 : ¬ (s.size:Int)<1:=by omega
  have z2:¬ (24:Int)<s.size:=by omega
  have HS:=aH hs
  clear hs
  go_enter Tryz.func6,Tryz.ntmps6
  go_wp2
  go_loop [3] (fun v => ∃ pos:Nat,v = .int .i64 (pos:Int)∧pos≤s.size∧∀ (j:Nat) (hj:j<s.size),j<pos→gC j (s[j]'hj).toNat=true) (fun v=>s.size-(intOf v).toNat)
  case atStart=>exact ⟨0,rfl,Nat.zero_le _,fun j _ h=>absurd h (Nat.not_lt_zero _)⟩
  case round =>
   obtain ⟨pos,rfl,hpos,hok⟩:=hrel
   by_cases hp:pos<s.size
   ·have cases0:pos=0∨0<pos:=Nat.eq_zero_or_pos pos
    rcases cases0 with az|az
    ·subst az
     obtain ⟨c,hc⟩:∃ c:Nat,(s[0]'hp).toNat=c:=⟨_,rfl⟩
     have ez:gC 0 c=isL c:=by simp [gC]
     have p1:((0:Nat):Int)<s.size:=by omega
     have hgood:gC 0 c=true→∀ (j:Nat) (hj:j<s.size),j<0+1→gC j (s[j]'hj).toNat=true:=fun hg j hj hjp=>by
      by_cases hjj:j=0
      ·subst hjj;rw [hc];exact hg
      ·exact hok j hj (by omega)
     have hbad:gC 0 c=false→kU s=false:=fun hg=>pM hp (by rw [hc];exact hg)
     have HH:=aH (aI hgood (aI hbad ez))
     have e97:decide ((97:Int)≤c)=decide (97≤c):=by rw [decide_eq_decide];omega
     have e122:decide ((c:Int)≤122)=decide (c≤122):=by rw [decide_eq_decide];omega
     have e65:decide ((65:Int)≤c)=decide (65≤c):=by rw [decide_eq_decide];omega
     have e90:decide ((c:Int)≤90)=decide (c≤90):=by rw [decide_eq_decide];omega
     have e48:decide ((48:Int)≤c)=decide (48≤c):=by rw [decide_eq_decide];omega
     have e57:decide ((c:Int)≤57)=decide (c≤57):=by rw [decide_eq_decide];omega
     have e95:((c:Int)==95)=decide (c=95):=by rw [Bool.eq_iff_iff];simp;omega
     clear hgood hbad hok ez
     have HP:=aH (aI hpos hp)
     by_cases a97:97≤c <;> by_cases a122:c≤122 <;> by_cases a65:65≤c <;> by_cases a90:c≤90 <;> by_cases a48:48≤c <;> by_cases a57:c≤57 <;> by_cases a95:c=95 <;> first|omega|skip
     all_goals
      simp only [a97,a122,a65,a90,a48,a57,a95,decide_true,decide_false] at e97 e122 e65 e90 e48 e57 e95
      have hl:isL c=isL c:=rfl
      have hb:rF c=rF c:=rfl
      conv at hl=>rhs;simp only [isL,a97,a122,a65,a90,decide_true,decide_false,Bool.and_true,Bool.and_false,Bool.or_true,Bool.or_false,Bool.true_and,Bool.false_and]
      conv at hb=>rhs;simp only [rF,a48,a57,a95,decide_true,decide_false,Bool.and_true,Bool.and_false,Bool.or_true,Bool.or_false,Bool.true_and,Bool.false_and]
      have HL:=aH (aI hl hb)
      clear hl hb
      go_wp2
      first
       | exact ⟨⟨0+1,by simp,HP.out.2,HH.out.1 (by simp [HH.out.2.2,HL.out.1,HL.out.2])⟩,by have:=HP.out.2;simp [intOf];omega⟩
       | (go_ret;exact ⟨by rw [HH.out.2.1 (by simp [HH.out.2.2,HL.out.1,HL.out.2])];rfl,rfl⟩)
    ·obtain ⟨c,hc⟩:∃ c:Nat,(s[pos]'hp).toNat=c:=⟨_,rfl⟩
     have ez:gC pos c=(isL c || rF c):=by simp [gC,show pos≠0 by omega]
     have n0:((pos:Int)==0)=false:=by simp;omega
     have n1:¬ pos=0:=by omega
     have p1:((pos:Nat):Int)<s.size:=by omega
     have hgood:gC pos c=true→∀ (j:Nat) (hj:j<s.size),j<pos+1→gC j (s[j]'hj).toNat=true:=fun hg j hj hjp=>by
      by_cases hjj:j=pos
      ·subst hjj;rw [hc];exact hg
      ·exact hok j hj (by omega)
     have hbad:gC pos c=false→kU s=false:=fun hg=>pM hp (by rw [hc];exact hg)
     have HH:=aH (aI hgood (aI hbad ez))
     have e97:decide ((97:Int)≤c)=decide (97≤c):=by rw [decide_eq_decide];omega
     have e122:decide ((c:Int)≤122)=decide (c≤122):=by rw [decide_eq_decide];omega
     have e65:decide ((65:Int)≤c)=decide (65≤c):=by rw [decide_eq_decide];omega
     have e90:decide ((c:Int)≤90)=decide (c≤90):=by rw [decide_eq_decide];omega
     have e48:decide ((48:Int)≤c)=decide (48≤c):=by rw [decide_eq_decide];omega
     have e57:decide ((c:Int)≤57)=decide (c≤57):=by rw [decide_eq_decide];omega
     have e95:((c:Int)==95)=decide (c=95):=by rw [Bool.eq_iff_iff];simp;omega
     clear hgood hbad hok ez
     have HP:=aH (aI hpos hp)
     by_cases a97:97≤c <;> by_cases a122:c≤122 <;> by_cases a65:65≤c <;> by_cases a90:c≤90 <;> by_cases a48:48≤c <;> by_cases a57:c≤57 <;> by_cases a95:c=95 <;> first|omega|skip
     all_goals
      simp only [a97,a122,a65,a90,a48,a57,a95,decide_true,decide_false] at e97 e122 e65 e90 e48 e57 e95
      have hl:isL c=isL c:=rfl
      have hb:rF c=rF c:=rfl
      conv at hl=>rhs;simp only [isL,a97,a122,a65,a90,decide_true,decide_false,Bool.and_true,Bool.and_false,Bool.or_true,Bool.or_false,Bool.true_and,Bool.false_and]
      conv at hb=>rhs;simp only [rF,a48,a57,a95,decide_true,decide_false,Bool.and_true,Bool.and_false,Bool.or_true,Bool.or_false,Bool.true_and,Bool.false_and]
      have HL:=aH (aI hl hb)
      clear hl hb
      go_wp2
      first
       | exact ⟨⟨pos+1,by simp,HP.out.2,HH.out.1 (by simp [HH.out.2.2,HL.out.1,HL.out.2])⟩,by have:=HP.out.2;simp [intOf];omega⟩
       | (go_ret;exact ⟨by rw [HH.out.2.1 (by simp [HH.out.2.2,HL.out.1,HL.out.2])];rfl,rfl⟩)
   ·have hres:kU s=true:=by
     rw [nameB_ok fun j hj=>hok j hj (by omega)]
     have:=HS.out
     simp only [Bool.and_eq_true,decide_eq_true_eq]
     omega
    have HR:=aH hres
    have p1:¬ (pos:Int)<s.size:=by omega
    clear hres hok
    go_wp2
    go_ret
    exact ⟨by rw [HR.out];rfl,rfl⟩
end
namespace Ab
open Go.RowKit Pl
abbrev xB (b:Bool):AV Kn := .fv (.sc (.sp (csIs (.bool b) rfl false (fun h=>by cases h))))
section
variable {s p u:ByteArray} {z e n d:Int} {b:Bool}
theorem isNameX (s:ByteArray):jF 5 [tx s] (xB (kU s)):=by
 intro β w vs hv
 obtain ⟨v,rfl,h1⟩:=cL hv
 rw [aJ h1]
 exact (xX s w).mono fun e w' ⟨e1,e2⟩=>⟨_,e1,e2,aQ⟩
theorem refNameX (s:ByteArray):jF 6 [tx s] (xB (kU s)):=by
 intro β w vs hv
 obtain ⟨v,rfl,h1⟩:=cL hv
 rw [aJ h1]
 exact (zO s w).mono fun e w' ⟨e1,e2⟩=>⟨_,e1,by rw [e2];exact aB _ _,aQ⟩
theorem it_x {β:List Nat} {v:Value} {w:World} (h:(it z).holds β v w):(xI z).holds β v w:=by
 rw [aK h]
 exact aQ
theorem kn_I2 {f:FuncId} (h:jF f [rI n,rI d] (rS u)):jF f [xI n,xI d] (tx u):=by
 intro β w vs hv
 obtain ⟨v,v2,rfl,h1,h2⟩:=dQ hv
 rw [aJ h1,aJ h2]
 exact (h β w [.int .i64 n,.int .i64 d] ⟨_,_,rfl,dE,_,_,rfl,dE,rfl⟩).mono fun e w' ⟨v,e1,e2,e3⟩=>⟨v,e1,e2,by rw [bG e3];exact aQ⟩
theorem texts_mid (h:decide ((40:Int)<(s.size:Nat))=true) (k:decide (((s.size:Nat):Int)<1200)=true):jX 3 [tx s,xI n,xI d] (bl true):=by
 refine jY Tryz.func3 fun w00 hI=>?_
 refine jW hI 4 [] (yI) ?_
 refine jO 16 s ?_
 refine jM 17 s.size 40 true h ?_
 refine jO 20 s ?_
 refine klt (.tmp 21) (.const (.int .i64 1200)) s.size 1200 true _ fM k ?_
 refine jW hI 4 [] (yI) ?_
 exact jR Tryz.func3
theorem texts_long (h:decide ((40:Int)<(s.size:Nat))=true) (k:decide (((s.size:Nat):Int)<1200)=false) (l:decide ((5000:Int)<(s.size:Nat))=true):jX 3 [tx s,xI n,xI d] (bl true):=by
 refine jY Tryz.func3 fun w00 hI=>?_
 refine jW hI 4 [] (yI) ?_
 refine jO 16 s ?_
 refine jM 17 s.size 40 true h ?_
 refine jO 20 s ?_
 refine klt (.tmp 21) (.const (.int .i64 1200)) s.size 1200 false _ fM k ?_
 refine jO 26 s ?_
 refine jM 27 s.size 5000 true l ?_
 refine jW hI 4 [] (yI) ?_
 exact jR Tryz.func3
set_option maxRecDepth 100000 in
theorem yP (h:decide ((40:Int)<(s.size:Nat))=false∨decide ((40:Int)<(s.size:Nat))=true∧decide (((s.size:Nat):Int)<1200)=false) (l:decide ((5000:Int)<(s.size:Nat))=false)
 (cN:jF 5 [tx s] (xB b)) (rN:jF 6 [tx s] (xB b)) (cC:jX 7 [tx s] (xI z)) (rC:jF 8 [tx s] (xI z))
 (cP:jX 9 [tx s] (tz p e)) (rP:jF 10 [tx s] (tz p e))
 (hO:(d=0∧jX 11 [xI n,xI d] (noS 6))∨(d≠0∧jX 11 [xI n,xI d] (.tup [.sc (eJ u),.sc z0])∧jF 13 [xI n,xI d] (tx u)∧jF 12 [tx u,it 0,it 0,tx u] (bl true))) :
 jX 3 [tx s,xI n,xI d] (bl true):=by
 have n6:=numberBad (z:=6) (by decide)
 refine jY Tryz.func3 fun w00 hI=>?_
 refine jW hI 4 [] (yI) ?_
 refine jO 16 s ?_
 rcases h with h|⟨h,k⟩
 focus
  refine jM 17 s.size 40 false h ?_
  refine jO 26 s ?_
  refine jM 27 s.size 5000 false l ?_
 rotate_left
 focus
  refine jM 17 s.size 40 true h ?_
  refine jO 20 s ?_
  refine klt (.tmp 21) (.const (.int .i64 1200)) s.size 1200 false _ fM k ?_
  refine jO 26 s ?_
  refine jM 27 s.size 5000 false l ?_
 all_goals
  refine jC 5 [tx s] (cN) ?_
  refine jC 6 [tx s] (rN) ?_
  refine jK (.binOp .neq 4 (.tmp 32) (.tmp 34) 4) (.tmp 32) (.tmp 34) (xB b) (xB b) (bl false) (fun ρ o β w ho hx hy=>⟨.bool false,by rw [show (false:Bool)=(b != b) by simp];exact bne_run ho (aJ hx) (aJ hy),aV rfl⟩) ?_
  refine jW hI 7 [tx s] (cC) ?_
  refine jC 8 [tx s] (rC) ?_
  refine kneG (.tmp 38) (.tmp 40) z z false _ _ oV oV (by simp) ?_
  refine jW hI 9 [tx s] (cP) ?_
  refine jC 10 [tx s] (rP) ?_
  refine kneG (.tmp 53) (.tmp 54) e e false _ _ oV oV (by simp) ?_
  refine jK (.binOp .neq 26 (.tmp 57) (.tmp 58) 26) (.tmp 57) (.tmp 58) (tx p) (tx p) (bl false) (fun ρ o β w ho hx hy=>⟨_,sne_run ho (aJ hx) (aJ hy) (by simp),aV rfl⟩) ?_
  rcases hO with ⟨h0,cO⟩|⟨h0,cO,rO,n0⟩
  ·refine jW hI 11 [xI n,xI d] (cO) ?_
   refine keqG (.tmp 67) (.const (.int .i64 0)) d 0 true _ _ oV fM (by simp [h0]) ?_
   refine jC 12 _ (n6) ?_
   exact jR Tryz.func3
  ·refine jW hI 11 [xI n,xI d] (cO) ?_
   refine keqG (.tmp 67) (.const (.int .i64 0)) d 0 false _ _ oV fM (by simp [h0]) ?_
   refine jC 13 [xI n,xI d] (rO) ?_
   refine jC 12 _ (n0) ?_
   exact jR Tryz.func3
end
theorem textsF (s:ByteArray) {n d:Int} (hn:nW n) (hd:nW d):jX 3 [tx s,xI n,xI d] (bl true):=by
 cases l:decide ((5000:Int)<(s.size:Nat)) with
 | true =>
   have:=of_decide_eq_true l
   exact texts_long (decide_eq_true (by omega)) (decide_eq_false (by omega)) l
 | false =>
   have hl:=of_decide_eq_false l
   cases h:decide ((40:Int)<(s.size:Nat)) with
   | true =>
     cases k:decide (((s.size:Nat):Int)<1200) with
     | true=>exact texts_mid h k
     | false =>
       refine yP (.inr ⟨h,k⟩) l (isNameX s) (refNameX s) (FitsW.res (apiCheckF (show s.size<_ by omega) rfl) fun _ _ _=>it_x) (Fits.res (refCheckF (by omega) rfl) fun _ _ _=>it_x) parseAllF (refParseF (by omega)) (u:=writeB (qOf n d)) ?_
       by_cases h0:d=0
       ·subst h0;exact .inl ⟨rfl,ofProgZ⟩
       ·exact .inr ⟨h0,ofProgF hn hd h0,kn_I2 (refOfAny hn hd h0),numberOk (qOf_wr hn hd h0)⟩
   | false =>
     refine yP (.inl h) l (isNameX s) (refNameX s) (FitsW.res (apiCheckF (show s.size<_ by omega) rfl) fun _ _ _=>it_x) (Fits.res (refCheckF (by omega) rfl) fun _ _ _=>it_x) parseAllF (refParseF (by omega)) (u:=writeB (qOf n d)) ?_
     by_cases h0:d=0
     ·subst h0;exact .inl ⟨rfl,ofProgZ⟩
     ·exact .inr ⟨h0,ofProgF hn hd h0,kn_I2 (refOfAny hn hd h0),numberOk (qOf_wr hn hd h0)⟩
end Ab
namespace Ab
open Go.ChangeShapes Go.WideShapes Go.ChangeAt Go.RowKit
theorem gPow:Tryz.prog.globalNamed "internal/strconv.uint64pow10" = some 7:=by kernel_rfl
theorem gl_of {W:World} {r:List (String×DataW Unit)} (h:laidMet Tryz.prog (("internal/strconv.uint64pow10",Lib.tabData .u64 Lib.pow10Tab)::r) W) (hs:W.ShapedOpen Tryz.prog):Gl W :=
 ⟨Lib.tabIs_of_head (t:=279) (e:=145) (n:=20) gPow (by kernel_rfl) (by kernel_rfl) (by kernel_rfl) (by kernel_rfl) (by kernel_rfl) h,
  Go.Proofs.cell_of_shapedOpen_int (zero := #[.int .i64 0]) (t:=3) hs (of_decide_eq_true (by kernel_rfl)) (by kernel_rfl) rfl (by kernel_rfl) (by kernel_rfl) (by kernel_rfl)⟩
end Ab
end Go.Proofs.YtnhafhpmocabiaaGreatDoor
