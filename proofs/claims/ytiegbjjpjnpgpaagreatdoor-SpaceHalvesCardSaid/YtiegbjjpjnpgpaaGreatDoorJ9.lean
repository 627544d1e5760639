/- Parts of the proof, joined. -/
import Derived.Test.YtiegbjjpjnpgpaaGreatDoorJ8
import Derived.Test.YtiegbjjpjnpgpaaGreatDoorJ7
import Derived.WalkKit
import Derived.ProofKit
import Derived.OpenShut
import Derived.Deep.DeepHandedRow
import Derived.Deep.DeepWitnessRowRef
import Derived.Lib.LaidTab
import Derived.Stop.LaidErr
import Derived.Shelf.Vars
import Derived.Lay
import Derived.Test.YtiegbjjpjnpgpaaGreatDoorProg
import Derived.ChangeArms
set_option linter.unusedSimpArgs false
set_option linter.unusedVariables false
set_option linter.constructorNameAsVariable false
namespace Go.Proofs.YtiegbjjpjnpgpaaGreatDoor
namespace Ab
open Go.RowKit Pl
abbrev one:ByteArray:=⟨#[49]⟩
abbrev nul:ByteArray:=⟨#[48]⟩
structure MkA (x y z d b1 b2 b3 c1 c2 c3 e1 e2 e3 k1 k2 k3 p1 p2 p3 w1 w2 w3 s1 s2 s3 k4 dd:ByteArray):Prop where
 o:jF 42 [t3 x y z] (bl false)
 d1:jF 43 [tx x] (tx b1)
 g1:jF 46 [lt one,tx b1] (tx c1)
 q1:jF 45 [tx b1,tx c1] (tx e1)
 m1:jF 44 [lt one,tx e1] (tx k1)
 d2:jF 43 [tx y] (tx b2)
 g2:jF 46 [tx k1,tx b2] (tx c2)
 q2:jF 45 [tx b2,tx c2] (tx e2)
 m2:jF 44 [tx k1,tx e2] (tx k2)
 d3:jF 43 [tx z] (tx b3)
 g3:jF 46 [tx k2,tx b3] (tx c3)
 q3:jF 45 [tx b3,tx c3] (tx e3)
 m3:jF 44 [tx k2,tx e3] (tx k3)
 a1:jF 44 [tx x,tx k3] (tx p1)
 v1:jF 47 [tx p1] (tx w1)
 u1:jF 46 [tx w1,lt nul] (tx s1)
 a2:jF 44 [tx y,tx k3] (tx p2)
 v2:jF 47 [tx p2] (tx w2)
 u2:jF 46 [tx w2,tx s1] (tx s2)
 a3:jF 44 [tx z,tx k3] (tx p3)
 v3:jF 47 [tx p3] (tx w3)
 u3:jF 46 [tx w3,tx s2] (tx s3)
 f:jF 45 [tx k3,tx s3] (tx k4)
 t:jF 44 [tx d,tx k4] (tx dd)
structure MkB (x y z k4 i1 i2 i3 n1 n2 n3 mx:ByteArray):Prop where
 r1:jF 44 [tx x,tx k4] (tx i1)
 j1:jF 47 [tx i1] (tx n1)
 r2:jF 44 [tx y,tx k4] (tx i2)
 j2:jF 47 [tx i2] (tx n2)
 r3:jF 44 [tx z,tx k4] (tx i3)
 j3:jF 47 [tx i3] (tx n3)
 w:jF 49 [it 999999999] (tx mx)
theorem oW {f:FuncId} {args:List (AV Kn)} {z:Int} (h:jF f args (it z)):jF f args (.fv (.sc (eN z))) :=
 fun β w vs hv=>(h β w vs hv).mono fun e w' ⟨v,e1,e2,e3⟩=>⟨v,e1,e2,by rw [aM e3];exact bD⟩
section
variable {x y z d b1 b2 b3 c1 c2 c3 e1 e2 e3 k1 k2 k3 p1 p2 p3 w1 w2 w3 s1 s2 s3 k4 dd i1 i2 i3 n1 n2 n3 mx:ByteArray} {q1 q2 q3 m1 m2 m3:Int}
theorem mkZero (o:jF 42 [t3 x y z] (bl true)):jF 12 [t3 x y z,tx d] (.tup [.ag [.lit (.int .i64 0),.lit (.int .i64 0),.lit (.int .i64 0),.lit (.string ⟨#[]⟩)],.sc (.lit (.int .i64 6))]):=by
 refine jG Tryz.func12 fun w00=>?_
 refine jC 42 [t3 x y z] (o) ?_
 exact jR Tryz.func12
set_option maxRecDepth 100000 in
theorem mkBigW (h:MkA x y z d b1 b2 b3 c1 c2 c3 e1 e2 e3 k1 k2 k3 p1 p2 p3 w1 w2 w3 s1 s2 s3 k4 dd) (l:MkB x y z k4 i1 i2 i3 n1 n2 n3 mx) (y1:jF 48 [tx n1,tx mx] (.fv (.sc (eN q1)))) (W:decide ((0:Int)<q1)=true∨∃ m1 q2:Int,decide ((0:Int)<q1)=false∧jF 50 [tx i1] (.tup [.sc (.lit (.int .i64 m1)),.sc (.lit (.bool true))])∧jF 48 [tx n2,tx mx] (.fv (.sc (eN q2)))∧(decide ((0:Int)<q2)=true∨∃ m2 q3:Int,decide ((0:Int)<q2)=false∧jF 50 [tx i2] (.tup [.sc (.lit (.int .i64 m2)),.sc (.lit (.bool true))])∧jF 48 [tx n3,tx mx] (.fv (.sc (eN q3)))∧(decide ((0:Int)<q3)=true∨∃ m3:Int,decide ((0:Int)<q3)=false∧jF 50 [tx i3] (.tup [.sc (.lit (.int .i64 m3)),.sc (.lit (.bool true))])∧jF 51 [tx dd] (it 4)))):jF 12 [t3 x y z,tx d] (.tup [.ag [.lit (.int .i64 0),.lit (.int .i64 0),.lit (.int .i64 0),.lit (.string ⟨#[]⟩)],.sc (.lit (.int .i64 4))]):=by
 refine jG Tryz.func12 fun w00=>?_
 refine jC 42 [t3 x y z] (h.o) ?_
 refine jC 43 [tx x] (h.d1) ?_
 refine jC 46 [lt one,tx b1] (h.g1) ?_
 refine jC 45 [tx b1,tx c1] (h.q1) ?_
 refine jC 44 [lt one,tx e1] (h.m1) ?_
 refine jC 43 [tx y] (h.d2) ?_
 refine jC 46 [tx k1,tx b2] (h.g2) ?_
 refine jC 45 [tx b2,tx c2] (h.q2) ?_
 refine jC 44 [tx k1,tx e2] (h.m2) ?_
 refine jC 43 [tx z] (h.d3) ?_
 refine jC 46 [tx k2,tx b3] (h.g3) ?_
 refine jC 45 [tx b3,tx c3] (h.q3) ?_
 refine jC 44 [tx k2,tx e3] (h.m3) ?_
 refine jC 44 [tx x,tx k3] (h.a1) ?_
 refine jC 47 [tx p1] (h.v1) ?_
 refine jC 46 [tx w1,lt nul] (h.u1) ?_
 refine jC 44 [tx y,tx k3] (h.a2) ?_
 refine jC 47 [tx p2] (h.v2) ?_
 refine jC 46 [tx w2,tx s1] (h.u2) ?_
 refine jC 44 [tx z,tx k3] (h.a3) ?_
 refine jC 47 [tx p3] (h.v3) ?_
 refine jC 46 [tx w3,tx s2] (h.u3) ?_
 refine jC 45 [tx k3,tx s3] (h.f) ?_
 refine jC 44 [tx d,tx k4] (h.t) ?_
 refine jC 44 [tx x,tx k4] (l.r1) ?_
 refine jC 47 [tx i1] (l.j1) ?_
 refine jC 49 [it 999999999] (l.w) ?_
 refine jC 48 [tx n1,tx mx] (y1) ?_
 rcases W with z1|⟨m1,q2,z1,g1,y2,W⟩
 ·refine jM 65 q1 0 true z1 ?_
  exact jR Tryz.func12
 refine jM 65 q1 0 false z1 ?_
 refine jC 50 [tx i1] (g1) ?_
 refine jC 44 [tx y,tx k4] (l.r2) ?_
 refine jC 47 [tx i2] (l.j2) ?_
 refine jC 49 [it 999999999] (l.w) ?_
 refine jC 48 [tx n2,tx mx] (y2) ?_
 rcases W with z2|⟨m2,q3,z2,g2,y3,W⟩
 ·refine jM 65 q2 0 true z2 ?_
  exact jR Tryz.func12
 refine jM 65 q2 0 false z2 ?_
 refine jC 50 [tx i2] (g2) ?_
 refine jC 44 [tx z,tx k4] (l.r3) ?_
 refine jC 47 [tx i3] (l.j3) ?_
 refine jC 49 [it 999999999] (l.w) ?_
 refine jC 48 [tx n3,tx mx] (y3) ?_
 rcases W with z3|⟨m3,z3,g3,g⟩
 ·refine jM 65 q3 0 true z3 ?_
  exact jR Tryz.func12
 refine jM 65 q3 0 false z3 ?_
 refine jC 50 [tx i3] (g3) ?_
 refine jC 51 [tx dd] (g) ?_
 exact jR Tryz.func12
set_option maxRecDepth 100000 in
theorem mkFine (h:MkA x y z d b1 b2 b3 c1 c2 c3 e1 e2 e3 k1 k2 k3 p1 p2 p3 w1 w2 w3 s1 s2 s3 k4 dd) (l:MkB x y z k4 i1 i2 i3 n1 n2 n3 mx) (y1:jF 48 [tx n1,tx mx] (.fv (.sc (eN q1)))) (z1:decide ((0:Int)<q1)=false) (g1:jF 50 [tx i1] (.tup [.sc (.lit (.int .i64 m1)),.sc (.lit (.bool true))])) (y2:jF 48 [tx n2,tx mx] (.fv (.sc (eN q2)))) (z2:decide ((0:Int)<q2)=false) (g2:jF 50 [tx i2] (.tup [.sc (.lit (.int .i64 m2)),.sc (.lit (.bool true))])) (y3:jF 48 [tx n3,tx mx] (.fv (.sc (eN q3)))) (z3:decide ((0:Int)<q3)=false) (g3:jF 50 [tx i3] (.tup [.sc (.lit (.int .i64 m3)),.sc (.lit (.bool true))])) (g:jF 51 [tx dd] (it 0)):jF 12 [t3 x y z,tx d] (.tup [.ag [.lit (.int .i64 m1),.lit (.int .i64 m2),.lit (.int .i64 m3),dG dd],.sc (.lit (.int .i64 0))]):=by
 refine jG Tryz.func12 fun w00=>?_
 refine jC 42 [t3 x y z] (h.o) ?_
 refine jC 43 [tx x] (h.d1) ?_
 refine jC 46 [lt one,tx b1] (h.g1) ?_
 refine jC 45 [tx b1,tx c1] (h.q1) ?_
 refine jC 44 [lt one,tx e1] (h.m1) ?_
 refine jC 43 [tx y] (h.d2) ?_
 refine jC 46 [tx k1,tx b2] (h.g2) ?_
 refine jC 45 [tx b2,tx c2] (h.q2) ?_
 refine jC 44 [tx k1,tx e2] (h.m2) ?_
 refine jC 43 [tx z] (h.d3) ?_
 refine jC 46 [tx k2,tx b3] (h.g3) ?_
 refine jC 45 [tx b3,tx c3] (h.q3) ?_
 refine jC 44 [tx k2,tx e3] (h.m3) ?_
 refine jC 44 [tx x,tx k3] (h.a1) ?_
 refine jC 47 [tx p1] (h.v1) ?_
 refine jC 46 [tx w1,lt nul] (h.u1) ?_
 refine jC 44 [tx y,tx k3] (h.a2) ?_
 refine jC 47 [tx p2] (h.v2) ?_
 refine jC 46 [tx w2,tx s1] (h.u2) ?_
 refine jC 44 [tx z,tx k3] (h.a3) ?_
 refine jC 47 [tx p3] (h.v3) ?_
 refine jC 46 [tx w3,tx s2] (h.u3) ?_
 refine jC 45 [tx k3,tx s3] (h.f) ?_
 refine jC 44 [tx d,tx k4] (h.t) ?_
 refine jC 44 [tx x,tx k4] (l.r1) ?_
 refine jC 47 [tx i1] (l.j1) ?_
 refine jC 49 [it 999999999] (l.w) ?_
 refine jC 48 [tx n1,tx mx] (y1) ?_
 refine jM 65 q1 0 false z1 ?_
 refine jC 50 [tx i1] (g1) ?_
 refine jC 44 [tx y,tx k4] (l.r2) ?_
 refine jC 47 [tx i2] (l.j2) ?_
 refine jC 49 [it 999999999] (l.w) ?_
 refine jC 48 [tx n2,tx mx] (y2) ?_
 refine jM 65 q2 0 false z2 ?_
 refine jC 50 [tx i2] (g2) ?_
 refine jC 44 [tx z,tx k4] (l.r3) ?_
 refine jC 47 [tx i3] (l.j3) ?_
 refine jC 49 [it 999999999] (l.w) ?_
 refine jC 48 [tx n3,tx mx] (y3) ?_
 refine jM 65 q3 0 false z3 ?_
 refine jC 50 [tx i3] (g3) ?_
 refine jC 51 [tx dd] (g) ?_
 exact jR Tryz.func12
end
theorem den_mul (q:Rat):q*((q.den:Int):Rat)=((q.num:Int):Rat):=by
 have h1:((q.den:Int):Rat)≠0:=by
  intro h
  have:=q.den_nz
  have h:=Rat.intCast_inj.1 (h.trans Rat.intCast_zero.symm)
  omega
 have h2:q=q.num/((q.den:Int):Rat):=by
  have:=Rat.mkRat_eq_div q.num q.den
  rw [Rat.mkRat_self] at this
  exact this
 have h3:=Rat.div_mul_cancel (a:=(q.num:Rat)) h1
 rwa [← h2] at h3
theorem int_mul {q:Rat} {L:Nat} (h:q.den ∣ L):q*((L:Int):Rat)=((q.num*((L/q.den:Nat):Int):Int):Rat):=by
 obtain ⟨t,ht⟩:=h
 have e:=den_mul q
 rw [ht,Nat.mul_div_cancel_left _ q.den_pos,Int.natCast_mul,Rat.intCast_mul,← Rat.mul_assoc,e,Rat.intCast_mul]
theorem gcd3_mul (P a b c:Nat):Nat.gcd (P*c) (Nat.gcd (P*b) (P*a))=P*Nat.gcd c (Nat.gcd b a):=by
 rw [Nat.gcd_mul_left,Nat.gcd_mul_left]
theorem gcd3_int {z1 z2 z3:Int} (h:Int.gcd (Int.gcd z1 z2:Int) z3=1):Nat.gcd z3.natAbs (Nat.gcd z2.natAbs z1.natAbs)=1:=by
 rw [Int.gcd,Int.natAbs_natCast,Int.gcd,Nat.gcd_comm,Nat.gcd_comm z1.natAbs] at h
 exact h
theorem rD {n:Nat} (h:0<n):((n:Int):Rat)≠0:=by
 intro e
 have:=Rat.intCast_inj.1 (e.trans Rat.intCast_zero.symm)
 omega
theorem whole_LG {F n1 n2 n3:Rat} {z1 z2 z3 M1 M2 M3:Int} {L P Q:Nat} (hQ:0<Q) (hF2:F*((Q:Int):Rat)=((P:Int):Rat)) (hL:0<L) (e1:F*n1=z1) (e2:F*n2=z2) (e3:F*n3=z3) (hg:Int.gcd (Int.gcd z1 z2:Int) z3=1)
 (m1:n1*((L:Int):Rat)=M1) (m2:n2*((L:Int):Rat)=M2) (m3:n3*((L:Int):Rat)=M3) {G:Nat} (hG:Nat.gcd M3.natAbs (Nat.gcd M2.natAbs M1.natAbs)=G) :
 0<G∧((L:Int):Rat)/((G:Int):Rat)=F:=by
 have key:∀ {n:Rat} {z M:Int},F*n=z→n*((L:Int):Rat)=M→(P:Int)*M=(Q:Int)*L*z:=by
  intro n z M h1 h2
  have:(((P:Int)*M:Int):Rat)=(((Q:Int)*L*z:Int):Rat):=by
   rw [Rat.intCast_mul,Rat.intCast_mul,Rat.intCast_mul,← hF2,← h2,← h1]
   grind
  exact Rat.intCast_inj.1 this
 have nat:∀ {z M:Int},(P:Int)*M=(Q:Int)*L*z→P*M.natAbs=Q*L*z.natAbs:=by
  intro z M h
  have:=congrArg Int.natAbs h
  simpa [Int.natAbs_mul] using this
 have k1:=nat (key e1 m1)
 have k2:=nat (key e2 m2)
 have k3:=nat (key e3 m3)
 have hPG:P*G=Q*L:=by
  rw [← hG,← gcd3_mul,k1,k2,k3,gcd3_mul,gcd3_int hg,Nat.mul_one]
 have hG0:0<G:=by
  rcases Nat.eq_zero_or_pos G with h|h
  ·rw [h,Nat.mul_zero] at hPG
   have:=Nat.mul_pos hQ hL
   omega
  ·exact h
 refine ⟨hG0,?_⟩
 have r:((P:Int):Rat)*((G:Int):Rat)=((Q:Int):Rat)*((L:Int):Rat):=by
  rw [← Rat.intCast_mul,← Rat.intCast_mul,← Int.natCast_mul,← Int.natCast_mul,hPG]
 have hq:=rD hQ
 have hgn:=rD hG0
 rw [← hF2] at r
 have r2:F*((G:Int):Rat)=((L:Int):Rat):=by
  have:((Q:Int):Rat)*(F*((G:Int):Rat))=((Q:Int):Rat)*((L:Int):Rat):=by rw [← r];grind
  have h:=congrArg (fun x=>((Q:Int):Rat)⁻¹*x) this
  simpa only [← Rat.mul_assoc,Rat.inv_mul_cancel _ hq,Rat.one_mul] using h
 rw [← r2]
 exact Rat.mul_div_cancel hgn
section
variable {a b k i:Nat}
theorem up_ten {n k K:Nat} (hK:K=10000) (h:n<10^k) (hk:k≤10000):n<10^(K+1):=Nat.lt_of_lt_of_le h (Nat.pow_le_pow_right (by omega) (by omega))
theorem gcdT (ha:a<10^k) (hb:b<10^k) (hk:k≤10000):jF 46 [tx (wN a),tx (wN b)] (tx (wN (Nat.gcd a b))):=by
 obtain ⟨K,hK⟩:∃ K,K=10000:=⟨_,rfl⟩
 exact refGcdF hK (up_ten hK ha hk) (up_ten hK hb hk)
theorem zsT (ha:a<10^k) (hk:k≤10000) (h0:0<k):Zs 10000 ((a:Int):Rat):=(uJ (z:=(a:Int)) (by rw [Int.natAbs_natCast];exact ha) h0).zs hk
theorem divT (ha:a<10^k) (hb:b<10^k) (hk:k≤10000) (h0:0<k) (hb0:0<b) (hd:b ∣ a):jF 45 [tx (wN a),tx (wN b)] (tx (wN (a/b))):=by
 have h:=uF (refDivF (zsT ha hk h0) (zsT hb hk h0) (rD hb0))
 obtain ⟨t,rfl⟩:=hd
 have e:(((b*t:Nat):Int):Rat)/((b:Int):Rat)=((t:Int):Rat):=by
  rw [Int.natCast_mul,Rat.intCast_mul,Rat.mul_comm,Rat.mul_div_cancel (rD hb0)]
 rw [e] at h
 rw [Nat.mul_div_cancel_left _ hb0]
 exact h
theorem mulT (ha:a<10^k) (hb:b<10^k) (hk:k≤10000) (h0:0<k):jF 44 [tx (wN a),tx (wN b)] (tx (wN (a*b))):=by
 have h:=uF (iX (zsT ha hk h0) (zsT hb hk h0))
 rw [mul_int] at h
 exact h
theorem denT {q:Rat} (h:(writeB q).size≤1000000000):jF 43 [tx (writeB q)] (tx (wN q.den)):=by
 have e:wN q.den=decB q.den:=by
  show writeB _=_
  rw [← bZ,aP,if_neg (by omega),Int.natAbs_natCast]
 rw [e]
 exact kn_o (denOfF h)
theorem absT {z:Int} (hs:(aP z).size≤1000000000):jF 47 [tx (writeB (z:Rat))] (tx (wN z.natAbs)):=by
 have e:wN z.natAbs=decB z.natAbs:=by
  show writeB _=_
  rw [← bZ,aP,if_neg (by omega),Int.natAbs_natCast]
 rw [e,← bZ]
 exact kn_o (absTF hs)
theorem lit1 {f:FuncId} {s t:ByteArray} {x:AV Kn} (h:jF f [tx s,tx t] x):jF f [lt s,tx t] x:=fun β w vs hv=>by
 obtain ⟨v,u,rfl,h1,h2⟩:=dI hv
 rw [aM h1]
 exact h β w _ ⟨_,_,rfl,bD,_,_,rfl,h2,rfl⟩
theorem lit2 {f:FuncId} {s t:ByteArray} {x:AV Kn} (h:jF f [tx s,tx t] x):jF f [tx s,lt t] x:=fun β w vs hv=>by
 obtain ⟨v,u,rfl,h1,h2⟩:=dI hv
 rw [aM h2]
 exact h β w _ ⟨_,_,rfl,h1,_,_,rfl,bD,rfl⟩
theorem kk_lt (ha:a<10^i) (hb:b<10^k):a*(b/Nat.gcd a b)<10^(i+k):=by
 rw [Nat.pow_add]
 exact Nat.lt_of_le_of_lt (Nat.mul_le_mul_left _ (Nat.div_le_self _ _)) (Nat.mul_lt_mul'' ha hb)
theorem dvd_kk (a b:Nat):b ∣ a*(b/Nat.gcd a b):=by
 refine ⟨a/Nat.gcd a b,?_⟩
 rw [← Nat.mul_div_assoc _ (Nat.gcd_dvd_right a b),Nat.mul_comm a b,Nat.mul_div_assoc _ (Nat.gcd_dvd_left a b)]
theorem kk_pos (ha:0<a) (hb:0<b):0<a*(b/Nat.gcd a b):=Nat.mul_pos ha (Nat.div_pos (Nat.le_of_dvd hb (Nat.gcd_dvd_right _ _)) (Nat.gcd_pos_of_pos_left _ ha))
end
theorem wN_one:wN 1=one:=w1
theorem wN_nul:wN 0=nul:=w0
structure MkN (n1 n2 n3 d F:Rat) (z1 z2 z3:Int):Prop where
 a:∃ b1 b2 b3 c1 c2 c3 e1 e2 e3 k1 k2 k3 p1 p2 p3 w1 w2 w3 s1 s2 s3,MkA (writeB n1) (writeB n2) (writeB n3) (writeB d) b1 b2 b3 c1 c2 c3 e1 e2 e3 k1 k2 k3 p1 p2 p3 w1 w2 w3 s1 s2 s3 (writeB F) (writeB (d*F))
 b:MkB (writeB n1) (writeB n2) (writeB n3) (writeB F) (writeB (z1:Rat)) (writeB (z2:Rat)) (writeB (z3:Rat)) (wN z1.natAbs) (wN z2.natAbs) (wN z3.natAbs) (writeB ((999999999:Int):Rat))
theorem size_of {q:Rat} {k:Nat} (h:Bq k q) (hk:k≤10000):(writeB q).size≤1000000000:=by
 have:=zs_len (h.zs hk)
 omega
theorem text_of {z:Int} {k:Nat} (h:z.natAbs<10^k) (hk:k≤10000):(aP z).size≤1000000000:=by
 have:=jA (z:=z) (k:=k) (Nat.lt_of_lt_of_le h (Nat.pow_le_pow_right (by omega) (by omega)))
 omega
theorem mkN {n1 n2 n3 d:Rat} {k j:Nat} (q1:Bq k n1) (q2:Bq k n2) (q3:Bq k n3) (qd:Bq j d) (hk0:0<k) (hk:4*k≤9999) (hj:j≤10000) (h0:¬ (n1=0∧n2=0∧n3=0)) {z1 z2 z3:Int}
 (f1:bF n1 n2 n3*n1=z1) (f2:bF n1 n2 n3*n2=z2) (f3:bF n1 n2 n3*n3=z3) (hg:Int.gcd (Int.gcd z1 z2:Int) z3=1):MkN n1 n2 n3 d (bF n1 n2 n3) z1 z2 z3:=by
 obtain ⟨_,_,_,_,_,_,_,P,Q,hP,hQ,hw,_⟩:=rC h0
 have hF2:bF n1 n2 n3*((Q:Int):Rat)=((P:Int):Rat):=by
  rw [hw,Rat.mkRat_eq_div]
  exact Rat.div_mul_cancel (rD hQ)
 generalize bF n1 n2 n3=F at *
 obtain ⟨b1,hb1⟩:∃ b,b=n1.den:=⟨_,rfl⟩
 obtain ⟨b2,hb2⟩:∃ b,b=n2.den:=⟨_,rfl⟩
 obtain ⟨b3,hb3⟩:∃ b,b=n3.den:=⟨_,rfl⟩
 have p1:0<b1:=hb1▸n1.den_pos
 have p2:0<b2:=hb2▸n2.den_pos
 have p3:0<b3:=hb3▸n3.den_pos
 have t1:b1<10^k:=hb1▸q1.2
 have t2:b2<10^k:=hb2▸q2.2
 have t3:b3<10^k:=hb3▸q3.2
 have one_lt:1<10^k:=Nat.one_lt_pow (by omega) (by omega)
 have up:∀ {n i:Nat},n<10^i→i≤4*k→n<10^(4*k):=fun h hi=>Nat.lt_of_lt_of_le h (Nat.pow_le_pow_right (by omega) hi)
 obtain ⟨k1,hk1⟩:∃ k1,k1=1*(b1/Nat.gcd 1 b1):=⟨_,rfl⟩
 obtain ⟨k2,hk2⟩:∃ k2,k2=k1*(b2/Nat.gcd k1 b2):=⟨_,rfl⟩
 obtain ⟨k3,hk3⟩:∃ k3,k3=k2*(b3/Nat.gcd k2 b3):=⟨_,rfl⟩
 have l1:k1<10^k:=by
  have:k1=b1:=by rw [hk1,Nat.gcd_one_left,Nat.div_one,Nat.one_mul]
  rw [this];exact t1
 have l2:k2<10^(k+k):=hk2▸kk_lt l1 t2
 have l3:k3<10^(k+k+k):=hk3▸kk_lt l2 t3
 have o1:0<k1:=hk1▸kk_pos (by omega) p1
 have o2:0<k2:=hk2▸kk_pos o1 p2
 have o3:0<k3:=hk3▸kk_pos o2 p3
 have d3:n3.den ∣ k3:=hb3▸hk3▸dvd_kk k2 b3
 have d2:n2.den ∣ k3:=hb2▸Nat.dvd_trans (hk2▸dvd_kk k1 b2) (hk3▸Nat.dvd_mul_right k2 _)
 have d1:n1.den ∣ k3:=hb1▸Nat.dvd_trans (hk1▸dvd_kk 1 b1) (Nat.dvd_trans (hk2▸Nat.dvd_mul_right k1 _) (hk3▸Nat.dvd_mul_right k2 _))
 have mk:∀ {q:Rat},Bq k q→q.den ∣ k3→∃ M:Int,q*((k3:Int):Rat)=M∧M.natAbs<10^(4*k):=fun {q} hq hd=>by
  refine ⟨_,int_mul hd,?_⟩
  rw [Int.natAbs_mul,Int.natAbs_natCast]
  have e:4*k=k+(k+k+k):=by omega
  rw [e,Nat.pow_add]
  exact Nat.mul_lt_mul'' hq.1 (Nat.lt_of_le_of_lt (Nat.div_le_self _ _) l3)
 obtain ⟨M1,m1,v1⟩:=mk q1 d1
 obtain ⟨M2,m2,v2⟩:=mk q2 d2
 obtain ⟨M3,m3,v3⟩:=mk q3 d3
 obtain ⟨hG0,hLG⟩:=whole_LG hQ hF2 o3 f1 f2 f3 hg m1 m2 m3 rfl
 have g1:Nat.gcd M1.natAbs 0=M1.natAbs:=Nat.gcd_zero_right _
 have gl:∀ {x y:Nat},y<10^(4*k)→x<10^(4*k)→Nat.gcd x y<10^(4*k):=fun {x y} hy hx=>by
  rcases Nat.eq_zero_or_pos x with h|h
  ·rw [h,Nat.gcd_zero_left];exact hy
  ·exact Nat.lt_of_le_of_lt (Nat.gcd_le_left _ h) hx
 have x2:=gl v1 v2
 have x3:=gl x2 v3
 have h4:0<4*k:=by omega
 have up1:∀ {n:Nat},n<10^(4*k)→n<10^(4*k+1):=fun {n} h=>Nat.lt_of_lt_of_le h (Nat.pow_le_pow_right (by omega) (by omega))
 have l3' : k3<10^(4*k):=up l3 (by omega)
 have zF:Zs 10000 F:=by
  rw [← hLG]
  have z:=zs_over (k:=4*k) (up1 l3') (up1 x3) hG0
  exact Bq.zs (k:=4*k+1) z (by omega)
 have hb:∀ {q:Rat},Bq k q→(writeB q).size≤1000000000:=fun h=>size_of h (by omega)
 have ht:∀ {z:Int},z.natAbs<10^(4*k)→(aP z).size≤1000000000:=fun h=>text_of h (by omega)
 have mulM:∀ {q:Rat} {M:Int},Bq k q→q*((k3:Int):Rat)=M→jF 44 [tx (writeB q),tx (wN k3)] (tx (writeB (M:Rat))):=fun {q M} hq e=>by
  have h:=uF (iX (hq.zs (by omega)) (zsT l3' (by omega) h4))
  rw [e] at h
  exact h
 have mulF:∀ {q:Rat} {z:Int},Bq k q→F*q=z→jF 44 [tx (writeB q),tx (writeB F)] (tx (writeB (z:Rat))):=fun {q z} hq e=>by
  have h:=uF (iX (hq.zs (by omega)) zF)
  rw [Rat.mul_comm,e] at h
  exact h
 have b1' : b1<10^(4*k):=up t1 (by omega)
 have b2' : b2<10^(4*k):=up t2 (by omega)
 have b3' : b3<10^(4*k):=up t3 (by omega)
 have k1' : k1<10^(4*k):=up l1 (by omega)
 have k2' : k2<10^(4*k):=up l2 (by omega)
 have one' : 1<10^(4*k):=up one_lt (by omega)
 have nul' : 0<10^(4*k):=by omega
 have gd:∀ {x y:Nat},0<y→y<10^(4*k)→Nat.gcd x y<10^(4*k):=fun {x y} h0 hy=>Nat.lt_of_le_of_lt (Nat.gcd_le_right _ h0) hy
 have dv:∀ {x y:Nat},x<10^(4*k)→x/y<10^(4*k):=fun h=>Nat.lt_of_le_of_lt (Nat.div_le_self _ _) h
 have hk4:4*k≤10000:=by omega
 have fits_k4:jF 45 [tx (wN k3),tx (wN (Nat.gcd M3.natAbs (Nat.gcd M2.natAbs M1.natAbs)))] (tx (writeB F)):=by
  have h:=uF (refDivF (zsT l3' hk4 h4) (zsT x3 hk4 h4) (rD hG0))
  rw [hLG] at h
  exact h
 have z0:¬ (decide (n1=0)&&decide (n2=0)&&decide (n3=0))=true:=by
  simpa only [Bool.and_eq_true,decide_eq_true_eq,and_assoc] using h0
 have gp:∀ {x y:Nat},0<y→0<Nat.gcd x y:=fun h=>Nat.gcd_pos_of_pos_right _ h
 refine ⟨⟨wN b1,wN b2,wN b3,wN (Nat.gcd 1 b1),wN (Nat.gcd k1 b2),wN (Nat.gcd k2 b3),wN (b1/Nat.gcd 1 b1),wN (b2/Nat.gcd k1 b2),wN (b3/Nat.gcd k2 b3),wN k1,wN k2,wN k3,writeB (M1:Rat),writeB (M2:Rat),writeB (M3:Rat),wN M1.natAbs,wN M2.natAbs,wN M3.natAbs,
  wN M1.natAbs,wN (Nat.gcd M2.natAbs M1.natAbs),wN (Nat.gcd M3.natAbs (Nat.gcd M2.natAbs M1.natAbs)),?_⟩,?_⟩
 ·refine ⟨?_,hb1▸denT (hb q1),?_,divT b1' (gd p1 b1') hk4 h4 (gp p1) (Nat.gcd_dvd_right _ _),?_,hb2▸denT (hb q2),gcdT k1' b2' hk4,divT b2' (gd p2 b2') hk4 h4 (gp p2) (Nat.gcd_dvd_right _ _),?_,hb3▸denT (hb q3),gcdT k2' b3' hk4,divT b3' (gd p3 b3') hk4 h4 (gp p3) (Nat.gcd_dvd_right _ _),?_,
   mulM q1 m1,absT (ht v1),?_,mulM q2 m2,absT (ht v2),gcdT v2 v1 hk4,mulM q3 m3,absT (ht v3),gcdT v3 x2 hk4,fits_k4,uF (iX (qd.zs hj) zF)⟩
  ·have h:=isOriginQ n1 n2 n3
   rwa [Bool.eq_false_iff.2 z0] at h
  ·exact lit1 (wN_one▸gcdT one' b1' hk4)
  ·exact lit1 (wN_one▸hk1▸mulT one' (dv b1') hk4 h4)
  ·exact hk2▸mulT k1' (dv b2') hk4 h4
  ·exact hk3▸mulT k2' (dv b3') hk4 h4
  ·have h:=gcdT v1 nul' hk4
   rw [g1,wN_nul] at h
   exact lit2 h
 ·have hFG:F*((Nat.gcd M3.natAbs (Nat.gcd M2.natAbs M1.natAbs):Int):Rat)=((k3:Int):Rat):=by
   rw [← hLG]
   exact Rat.div_mul_cancel (rD hG0)
  generalize Nat.gcd M3.natAbs (Nat.gcd M2.natAbs M1.natAbs)=G at *
  have zb:∀ {q:Rat} {z M:Int},F*q=z→q*((k3:Int):Rat)=M→M.natAbs<10^(4*k)→z.natAbs<10^(4*k):=fun {q z M} e f hM=>by
   have h:((z*(G:Int):Int):Rat)=(M:Rat):=by
    rw [Rat.intCast_mul,← e,← f,← hFG]
    grind
   have h:=congrArg Int.natAbs (Rat.intCast_inj.1 h)
   rw [Int.natAbs_mul,Int.natAbs_natCast] at h
   have h2:z.natAbs*1≤z.natAbs*G:=Nat.mul_le_mul_left _ hG0
   omega
  exact ⟨mulF q1 f1,absT (ht (zb f1 m1 v1)),mulF q2 f2,absT (ht (zb f2 m2 v2)),mulF q3 f3,absT (ht (zb f3 m3 v3)),sL (by decide)⟩
abbrev nine:Rat:=((999999999:Int):Rat)
theorem cmp_nine (a:Nat):decide ((0:Int)<cmpR ((a:Int):Rat) nine)=decide (999999999<a):=by
 have e:(((a:Int):Rat)-nine).num=(a:Int)-999999999:=by
  rw [← Rat.intCast_sub]
  rfl
 rw [decide_eq_decide]
 rcases sign_cmp ((a:Int):Rat) nine with ⟨h1,h2⟩|⟨h1,h2⟩|⟨h1,h2⟩
 all_goals
  rw [e] at h2
  rw [h1]
  omega
theorem sZ {z:Int} (h:Sz z):decide ((0:Int)<cmpR ((z.natAbs:Int):Rat) nine)=false:=by
 rw [cmp_nine,decide_eq_false_iff_not]
 have:=h.1
 have:=h.2
 omega
theorem yM {z:Int} (h:¬ Sz z):decide ((0:Int)<cmpR ((z.natAbs:Int):Rat) nine)=true:=by
 rw [cmp_nine,decide_eq_true_eq]
 have h:¬ (-999999999≤z∧z≤999999999):=h
 omega
abbrev okR (z1 z2 z3:Int) (e:Rat):AV Kn := .tup [.ag [.lit (.int .i64 z1),.lit (.int .i64 z2),.lit (.int .i64 z3),dG (writeB e)],.sc (.lit (.int .i64 0))]
abbrev largeR:AV Kn := .tup [.ag [.lit (.int .i64 0),.lit (.int .i64 0),.lit (.int .i64 0),.lit (.string ⟨#[]⟩)],.sc (.lit (.int .i64 4))]
section
variable {n1 n2 n3 d F:Rat} {z1 z2 z3:Int}
theorem cmpT {z:Int} {k:Nat} (h:z.natAbs<10^k) (hk0:0<k) (hk:k≤10000):jF 48 [tx (wN z.natAbs),tx (writeB nine)] (.fv (.sc (eN (cmpR ((z.natAbs:Int):Rat) nine)))) :=
 oW (refCmpF (zsT h hk hk0) ((uJ (z:=999999999) (k:=9) (by decide) (by omega)).zs (by omega)))
theorem mkOk (h:MkN n1 n2 n3 d F z1 z2 z3) (s1:Sz z1) (s2:Sz z2) (s3:Sz z3) (w:Wr (d*F)):jF 12 [vS n1 n2 n3,tx (writeB d)] (okR z1 z2 z3 (d*F)):=by
 obtain ⟨b1,b2,b3,c1,c2,c3,e1,e2,e3,k1,k2,k3,p1,p2,p3,w1,w2,w3,t1,t2,t3,ha⟩:=h.a
 have n9:∀ {z:Int},Sz z→z.natAbs<10^9:=fun {z} h=>by have:=h.1;have:=h.2;omega
 exact mkFine ha h.b (cmpT (n9 s1) (by omega) (by omega)) (sZ s1) (mF (n9 s1)) (cmpT (n9 s2) (by omega) (by omega)) (sZ s2) (mF (n9 s2)) (cmpT (n9 s3) (by omega) (by omega)) (sZ s3) (mF (n9 s3)) (refLargeF w)
theorem mkBig {k:Nat} (h:MkN n1 n2 n3 d F z1 z2 z3) (hs:¬ (Sz z1∧Sz z2∧Sz z3)) (l1:z1.natAbs<10^k) (l2:z2.natAbs<10^k) (l3:z3.natAbs<10^k) (hk0:0<k) (hk:k≤10000) :
 jF 12 [vS n1 n2 n3,tx (writeB d)] largeR:=by
 obtain ⟨b1,b2,b3,c1,c2,c3,e1,e2,e3,k1,k2,k3,p1,p2,p3,w1,w2,w3,t1,t2,t3,ha⟩:=h.a
 have n9:∀ {z:Int},Sz z→z.natAbs<10^9:=fun {z} h=>by have:=h.1;have:=h.2;omega
 refine mkBigW ha h.b (cmpT l1 hk0 hk) ?_
 by_cases s1:Sz z1
 ·refine .inr ⟨_,_,sZ s1,mF (n9 s1),cmpT l2 hk0 hk,?_⟩
  by_cases s2:Sz z2
  ·exact .inr ⟨_,_,sZ s2,mF (n9 s2),cmpT l3 hk0 hk,.inl (yM fun s3=>hs ⟨s1,s2,s3⟩)⟩
  ·exact .inl (yM s2)
 ·exact .inl (yM s1)
end
abbrev Eh (z:Int):Prop:=z=0∨z=1∨z=3∨z=4∨z=6
theorem tA {z:Int} (h:Ev z):Eh z:=by rcases h with h|h|h <;> simp [Eh,h]
theorem f2_eh {x y:Int} (hx:Eh x) (hy:Eh y):Eh (f2 x y):=by unfold f2;split <;> assumption
theorem first2Eh {T:TypeId} {x y z:Int} (hx:Eh x) (hy:Eh y) (hz:f2 x y=z):jF 71 [.fv (.nsl 2 T [lz x,lz y])] (it z):=by
 rcases hx with rfl|rfl|rfl|rfl|rfl
 ·have hz:y=z:=hz
  subst hz
  rcases hy with rfl|rfl|rfl|rfl|rfl <;> (refine mV Tryz.func71 (by kernel_rfl) fun w00=>?_;exact kret Tryz.func71 (by kernel_rfl))
 all_goals
  have hz:_=z:=hz
  subst hz
  refine mV Tryz.func71 (by kernel_rfl) fun w00=>?_
  exact jR Tryz.func71
theorem lit_isU {f:FuncId} {l:List (AV Kn)} {x:Int} (h:jF f l (.fv (.sc (.lit (.int .u64 x))))):jF f l (.fv (.sc (isU x))):=Fits.res h fun β v w k=>by
 have:=aM k
 rw [this];exact bD
theorem une_run {o:Oper} {ρ:Operand→Value} {w:World} {x y:Operand} {a b:Int} {r:Bool} {T T' : TypeId} (ho:o.op = .binOp .neq T x y T') (hx:ρ x = .int .u64 a) (hy:ρ y = .int .u64 b) (h:(a != b)=r) :
 (execOp ρ o).run Tryz.prog w = .ok (.value (.bool r)) w:=by
 simp only [execOp,ho,hx,hy]
 refine bI ?_
 rw [← h]
 exact bL (by kernel_rfl) w
section
variable {a b c z:Int}
theorem hk_values (k:Int) (h:Ev k):Eh (hkZ a b c k):=by
 unfold hkZ
 split
 ·simp [Eh]
 split
 ·simp [Eh]
 split
 ·simp [Eh]
 ·exact tA h
theorem hk_first (k:Int):f2 (hkZ a b c 0) k=hkZ a b c k:=by
 unfold f2 hkZ
 split
 ·split <;> simp_all
 split
 ·split <;> simp_all
 split
 ·split <;> simp_all
 ·simp
theorem oX (hz:hkZ a b c 0=z):jF 98 [iv a b c] (it z):=by
 unfold hkZ at hz
 refine Fits.args (l := [i3 a b c]) ?_ fun β vs w ⟨v,r,e,h,hr⟩=>⟨v,r,e,iv_i3 β v w h,hr⟩
 by_cases h0:a=0∧b=0∧c=0
 ·rw [if_pos h0] at hz
  subst hz
  refine jG Tryz.func98 fun w00=>?_
  refine kz3 (.tmp 6) (.tmp 7) a b c true (by simp [h0]) ?_
  exact jR Tryz.func98
 rw [if_neg h0] at hz
 have w:∀ {x:Int},¬ Bg x→x.natAbs<aD:=fun h=>by unfold Bg at h;rw [aL];omega
 have hg:∀ {x y:Nat},x<aD→y<aD→Nat.gcd x y<aD:=fun {x y} hx hy=>by
  rcases Nat.eq_zero_or_pos y with e|e
  ·rw [e,Nat.gcd_zero_right];exact hx
  ·exact Nat.lt_of_le_of_lt (Nat.gcd_le_right _ e) hy
 refine jG Tryz.func98 fun w00=>?_
 refine kz3 (.tmp 6) (.tmp 7) a b c false (by rw [Bool.eq_false_iff];simp;omega) ?_
 have e3:Bg a∨Bg b∨Bg c→z=3:=fun h=>by rw [← hz,if_pos h]
 by_cases a1:a < -999999999
 ·obtain rfl:=e3 (.inl (.inl a1))
  refine klt (.tmp 13) (.const (.int .i64 (-999999999))) a (-999999999) true _ aZ (decide_eq_true a1) ?_
  exact jR Tryz.func98
 refine klt (.tmp 13) (.const (.int .i64 (-999999999))) a (-999999999) false _ aZ (decide_eq_false a1) ?_
 by_cases a2:999999999<a
 ·obtain rfl:=e3 (.inl (.inr a2))
  refine kgg (.tmp 16) (.const (.int .i64 999999999)) a 999999999 true _ aZ (decide_eq_true a2) ?_
  exact jR Tryz.func98
 refine kgg (.tmp 16) (.const (.int .i64 999999999)) a 999999999 false _ aZ (decide_eq_false a2) ?_
 have ha:¬ Bg a:=by unfold Bg;omega
 have g1:=cW (a:=0) (b:=a.natAbs) (by rw [aL];omega) (w ha)
 have l1:Nat.gcd 0 a.natAbs<aD:=hg (by rw [aL];omega) (w ha)
 obtain ⟨x1,hx1⟩:∃ x1,Nat.gcd 0 a.natAbs=x1:=⟨_,rfl⟩
 rw [hx1] at g1 l1
 refine kneg 21 a (by constructor <;> omega) (by constructor <;> omega) ?_
 refine kabs 20 22 a ?_
 refine kcvu 23 a.natAbs (by omega) ?_
 refine jC 160 [.fv (.sc (.lit (.int .u64 ((0:Nat):Int)))),.fv (.sc (.lit (.int .u64 (a.natAbs:Int))))] (g1) ?_
 by_cases b1:b < -999999999
 ·obtain rfl:=e3 (.inr (.inl (.inl b1)))
  refine klt (.tmp 13) (.const (.int .i64 (-999999999))) b (-999999999) true _ aZ (decide_eq_true b1) ?_
  exact jR Tryz.func98
 refine klt (.tmp 13) (.const (.int .i64 (-999999999))) b (-999999999) false _ aZ (decide_eq_false b1) ?_
 by_cases b2:999999999<b
 ·obtain rfl:=e3 (.inr (.inl (.inr b2)))
  refine kgg (.tmp 16) (.const (.int .i64 999999999)) b 999999999 true _ aZ (decide_eq_true b2) ?_
  exact jR Tryz.func98
 refine kgg (.tmp 16) (.const (.int .i64 999999999)) b 999999999 false _ aZ (decide_eq_false b2) ?_
 have hb:¬ Bg b:=by unfold Bg;omega
 have g2:=cW l1 (w hb)
 have l2:=hg l1 (w hb)
 obtain ⟨x2,hx2⟩:∃ x2,Nat.gcd x1 b.natAbs=x2:=⟨_,rfl⟩
 rw [hx2] at g2 l2
 refine kneg 21 b (by constructor <;> omega) (by constructor <;> omega) ?_
 refine kabs 20 22 b ?_
 refine kcvu 23 b.natAbs (by omega) ?_
 refine jC 160 [.fv (.sc (.lit (.int .u64 (x1:Int)))),.fv (.sc (.lit (.int .u64 (b.natAbs:Int))))] (g2) ?_
 by_cases c1:c < -999999999
 ·obtain rfl:=e3 (.inr (.inr (.inl c1)))
  refine klt (.tmp 13) (.const (.int .i64 (-999999999))) c (-999999999) true _ aZ (decide_eq_true c1) ?_
  exact jR Tryz.func98
 refine klt (.tmp 13) (.const (.int .i64 (-999999999))) c (-999999999) false _ aZ (decide_eq_false c1) ?_
 by_cases c2:999999999<c
 ·obtain rfl:=e3 (.inr (.inr (.inr c2)))
  refine kgg (.tmp 16) (.const (.int .i64 999999999)) c 999999999 true _ aZ (decide_eq_true c2) ?_
  exact jR Tryz.func98
 refine kgg (.tmp 16) (.const (.int .i64 999999999)) c 999999999 false _ aZ (decide_eq_false c2) ?_
 have hc:¬ Bg c:=by unfold Bg;omega
 have g3:=lit_isU (cW l2 (w hc))
 obtain ⟨x3,hx3⟩:∃ x3,Nat.gcd x2 c.natAbs=x3:=⟨_,rfl⟩
 rw [hx3] at g3
 have e:Int.gcd (Int.gcd a b:Int) c=x3:=by
  rw [← hx3,← hx2,← hx1,Nat.gcd_zero_left]
  rfl
 rw [if_neg (by rintro (h|h|h);exact ha h;exact hb h;exact hc h),e] at hz
 refine kneg 21 c (by constructor <;> omega) (by constructor <;> omega) ?_
 refine kabs 20 22 c ?_
 refine kcvu 23 c.natAbs (by omega) ?_
 refine jC 160 [.fv (.sc (.lit (.int .u64 (x2:Int)))),.fv (.sc (.lit (.int .u64 (c.natAbs:Int))))] (g3) ?_
 by_cases h1:x3=1
 ·rw [if_neg (fun h=>h h1)] at hz
  subst hz
  refine jK (.binOp .neq 152 (.tmp 27) (.const (.int .u64 1)) 152) (.tmp 27) (.const (.int .u64 1)) (.fv (.sc (isU (x3:Int)))) (.fv (.sc (.lit (.int .u64 1)))) (bl false) (fun ρ o β w ho hx hy=>⟨_,une_run ho (aN hx) (aM hy) (by rw [h1];rfl),aW rfl⟩) ?_
  exact jR Tryz.func98
 ·rw [if_pos h1] at hz
  subst hz
  refine jK (.binOp .neq 152 (.tmp 27) (.const (.int .u64 1)) 152) (.tmp 27) (.const (.int .u64 1)) (.fv (.sc (isU (x3:Int)))) (.fv (.sc (.lit (.int .u64 1)))) (bl true) (fun ρ o β w ho hx hy=>⟨_,une_run ho (aN hx) (aM hy) (by rw [bne_iff_ne];omega),aW rfl⟩) ?_
  exact jR Tryz.func98
end
section
variable {n1 n2 n3 z:Int} {s a b c:ByteArray}
abbrev M3 (a b c:Int):Prop:=nJ a∧nJ b∧nJ c
abbrev kh (n1 n2 n3:Int) (s:ByteArray):Int:=hkZ n1 n2 n3 (bO s)
theorem kh_eh:Eh (kh n1 n2 n3 s):=hk_values _ (bN s)
theorem nE (m:M3 n1 n2 n3) (h:Rb s) (hz:kh n1 n2 n3 s=z):jX 31 [hL n1 n2 n3 s] (.tup [.ag [nb n1,nb n2,nb n3,nb (oS s)],.sc (lz z)]):=by
 refine jY Tryz.func31 fun w00 hI=>?_
 refine jW hI 34 [tx s] (oT h rfl) ?_
 refine jC 90 [iv n1 n2 n3] (gQ m.1 m.2.1 m.2.2) ?_
 refine jC 98 [iv n1 n2 n3] (oX rfl) ?_
 refine jC 71 [.fv (.nsl 2 31 [lz (hkZ n1 n2 n3 0),lz (bO s)])] (first2Eh (hk_values 0 (.inl rfl)) (tA (bN s)) ((hk_first _).trans hz)) ?_
 exact jR Tryz.func31
theorem readHVAny (m:M3 n1 n2 n3) (h:Rb s) (k:Rb3 a b c) (hz:f2 (kh n1 n2 n3 s) (c3 a b c)=z):jX 53 [gJ 31,hL n1 n2 n3 s,gJ 33,t3 a b c] (.tup [.ag [nb n1,nb n2,nb n3,nb (oS s)],.ag [nb (oS a),nb (oS b),nb (oS c)],.sc (lz z)]):=by
 refine jY Tryz.func53 fun w00 hI=>?_
 refine jW hI 31 [hL n1 n2 n3 s] (nE m h rfl) ?_
 refine jW hI 33 [t3 a b c] (vF k rfl) ?_
 refine jC 71 [.fv (.nsl 2 31 [lz (kh n1 n2 n3 s),lz (c3 a b c)])] (first2Eh kh_eh (tA (yI _ _ _)) hz) ?_
 exact jR Tryz.func53
end
abbrev noH (z:Int):AV Kn := .tup [.ag [.lit (.int .i64 0),.lit (.int .i64 0),.lit (.int .i64 0),.lit (.string ⟨#[]⟩)],.sc (lz z)]
section
variable {n1 n2 n3 z:Int} {s a b c x:ByteArray}
theorem vN (m:M3 n1 n2 n3) (h:Rb s) (hz:kh n1 n2 n3 s=z):jX 7 [hL n1 n2 n3 s] (it z):=by
 refine jY Tryz.func7 fun w00 hI=>?_
 refine jW hI 31 [hL n1 n2 n3 s] (nE m h hz) ?_
 exact jR Tryz.func7
theorem yN (h:Rb3 a b c) (k:Rb x) (hz:f2 (c3 a b c) (bO x)=z) (h0:z≠0):jX 8 [t3 a b c,tx x] (noH z):=by
 rcases show Ev z from hz▸f2_ev (yI _ _ _) (bN _) with rfl|rfl|rfl
 ·exact absurd rfl h0
 all_goals
  refine jY Tryz.func8 fun w00 hI=>?_
  refine jW hI 32 _ (readVRAny h k hz) ?_
  exact jR Tryz.func8
theorem yO (m:M3 n1 n2 n3) (h:Rb s) (hz:kh n1 n2 n3 s=z) (h0:z≠0):jX 14 [hL n1 n2 n3 s] (noH z):=by
 rcases show Eh z from hz▸kh_eh with rfl|rfl|rfl|rfl|rfl
 ·exact absurd rfl h0
 all_goals
  refine jY Tryz.func14 fun w00 hI=>?_
  refine jW hI 31 [hL n1 n2 n3 s] (nE m h hz) ?_
  exact jR Tryz.func14
theorem yP (m:M3 n1 n2 n3) (h:Rb s) (k:Rb3 a b c) (hz:f2 (kh n1 n2 n3 s) (c3 a b c)=z) (h0:z≠0):jX 15 [hL n1 n2 n3 s,t3 a b c] (.tup [.sc (lz 0),.sc (lz z)]):=by
 rcases show Eh z from hz▸f2_eh kh_eh (tA (yI _ _ _)) with rfl|rfl|rfl|rfl|rfl
 ·exact absurd rfl h0
 all_goals
  refine jY Tryz.func15 fun w00 hI=>?_
  refine jW hI 53 _ (readHVAny m h k hz) ?_
  exact jR Tryz.func15
end
section
variable {n1 n2 n3 d e:Rat} {z1 z2 z3:Int} {x:AV Kn}
theorem tB (k:nM n1 n2 n3) (hd:Wr d) (h0:¬ (n1=0∧n2=0∧n3=0)) (hx:x=pK z1 z2 z3 e∨x=largeH) (hm:jX 36 [hf n1 n2 n3 d] x):jX 8 [vS n1 n2 n3,tx (writeB d)] x:=by
 have h0:(decide (n1=0)&&decide (n2=0)&&decide (n3=0))=false:=by
  rw [Bool.eq_false_iff]
  intro hh
  simp only [Bool.and_eq_true,decide_eq_true_eq] at hh
  exact h0 ⟨hh.1.1,hh.1.2,hh.2⟩
 rcases hx with rfl|rfl
 all_goals
  refine jY Tryz.func8 fun w00 hI=>?_
  refine jW hI 32 [gJ 33,vS n1 n2 n3,gJ 34,tx (writeB d)] (readVR k hd) ?_
  refine jC 35 [vc n1 n2 n3] (fG h0) ?_
  refine jW hI 36 [hf n1 n2 n3 d] (hm) ?_
  exact jR Tryz.func8
theorem vO (k:nM n1 n2 n3) (hd:Wr d) (h0:n1=0∧n2=0∧n3=0):jX 8 [vS n1 n2 n3,tx (writeB d)] (noH 6):=by
 have h0:(decide (n1=0)&&decide (n2=0)&&decide (n3=0))=true:=by
  simp only [Bool.and_eq_true,decide_eq_true_eq]
  exact ⟨⟨h0.1,h0.2.1⟩,h0.2.2⟩
 refine jY Tryz.func8 fun w00 hI=>?_
 refine jW hI 32 [gJ 33,vS n1 n2 n3,gJ 34,tx (writeB d)] (readVR k hd) ?_
 refine jC 35 [vc n1 n2 n3] (fG h0) ?_
 exact jR Tryz.func8
end
section
variable {P:Program} {f:FuncId}
theorem fitsAS_of {fn:Func} {n:Nat} {T:TypeId} {l:List (Seg Kn)} {u x:AV Kn} (hfn:P.funcs[f]?=some fn) (hb:fn.body.isSome=true) (hn:decide (2≤fn.ntmps)=true) (hx:x.noPtr=true) (hl:l.all Seg.noPtr=true) (hu:u.noPtr=true)
 (h:∀ w00,Ok P f w00 (fun v w=>x.holds [] v w) (.items [.code (fn.body.getD .skip)] { slots := [u,.fv (.sc (.slc 0 0 n n))]++List.replicate (fn.ntmps-2) .un,blocks := [(T,l)],ro:=1 })):Fits P f [u,.fv (.nsl n T l)] x:=by
 rintro β w vs ⟨v,r,rfl,h1,v2,r2,rfl,⟨g,cs,rfl,hg,hcs⟩,h3⟩
 have h1' : u.holds [g] v w:=AV.noPtr_holds hu h1
 have h3' : r2 = []:=h3
 subst h3'
 have hb2:fn.body=some (fn.body.getD .skip):=by
  cases hb2:fn.body with
  | none=>rw [hb2] at hb;cases hb
  | some c=>rfl
 refine (eM (w00:=w) (Out:=fun v w=>x.holds [] v w) hfn hb2 [u,.fv (.sc (.slc 0 0 n n))] [(T,l)] [g] [v,.slice (some ⟨g,0,none⟩) n n] (fn.ntmps-2) (by simp at hn;simp;omega) ⟨_,_,rfl,h1',_,[],rfl,⟨g,rfl,rfl⟩,rfl⟩ rfl (by simp)
  (fun k T' l' hk=>?_) (by simp;exact lt_of_block hg) (h w).good).mono ?_
 ·match k,hk with
  | 0,hk =>
    simp at hk
    obtain ⟨rfl,rfl⟩:=hk
    exact ⟨g,cs,rfl,hg,hcs.noPtr hl⟩
 ·rintro e w' ⟨v,rfl,hb,ho⟩
  exact ⟨v,rfl,hb,AV.noPtr_holds hx ho⟩
end
theorem kgoAS {f:FuncId} {fn:Func} {n:Nat} {T:TypeId} {l:List (Seg Kn)} {u x:AV Kn} (hfn:Tryz.prog.funcs[f]?=some fn) (hc:(fn.body.isSome,decide (2≤fn.ntmps),x.noPtr,l.all Seg.noPtr,u.noPtr)=(true,true,true,true,true))
 (h:∀ w00,Ok Tryz.prog f w00 (fun v w=>x.holds [] v w) (cG Tryz.prog 1000 (.items [.code (fn.body.getD .skip)] { slots := [u,.fv (.sc (.slc 0 0 n n))]++List.replicate (fn.ntmps-2) .un,blocks := [(T,l)],ro:=1 }))):jF f [u,.fv (.nsl n T l)] x:=by
 simp only [Prod.mk.injEq] at hc
 exact fitsAS_of hfn hc.1 hc.2.1 hc.2.2.1 hc.2.2.2.1 hc.2.2.2.2 fun w00=>Ok.go (by kernel_rfl) oF 1000 (h w00)
abbrev lo (n:Int) (s:ByteArray):Bool:=decide (n<(s.size:Nat))
section
variable {a b c d x y u:ByteArray} {n:Int} {T:TypeId} {r:Bool}
theorem checkRowAny {za zb zc z:Int} (h1:jF 11 [tx a] (it za)) (h2:jF 11 [tx b] (it zb)) (h3:jF 11 [tx c] (it zc)) (e1:Ev za) (e2:Ev zb) (e3:Ev zc) (hz:f3 za zb zc=z) :
 jF 37 [.fv (.nsl 3 T [dG a,dG b,dG c])] (it z):=by
 rcases e1 with rfl|rfl|rfl
 ·rcases e2 with rfl|rfl|rfl
  ·have hz:zc=z:=hz
   subst hz
   rcases e3 with rfl|rfl|rfl <;> (refine mV Tryz.func37 (by kernel_rfl) fun w00=>?_;refine eI 11 [tx a] (h1) (by kernel_rfl) Tryz.call11 ?_;refine eI 11 [tx b] (h2) (by kernel_rfl) Tryz.call11 ?_;refine eI 11 [tx c] (h3) (by kernel_rfl) Tryz.call11 ?_;exact kret Tryz.func37 (by kernel_rfl))
  all_goals
   have hz:_=z:=hz
   subst hz
   refine mV Tryz.func37 (by kernel_rfl) fun w00=>?_
   refine jC 11 [tx a] (h1) ?_
   refine jC 11 [tx b] (h2) ?_
   exact jR Tryz.func37
 all_goals
  have hz:_=z:=hz
  subst hz
  refine mV Tryz.func37 (by kernel_rfl) fun w00=>?_
  refine jC 11 [tx a] (h1) ?_
  exact jR Tryz.func37
abbrev Sl (s:ByteArray):Prop:=s.size≤40
abbrev Sl3 (a b c:ByteArray):Prop:=Sl a∧Sl b∧Sl c
theorem Sl.rb {s:ByteArray} (h:Sl s):Rb s:=by have h:s.size≤40:=h;show s.size<_;omega
theorem Sl3.rb (h:Sl3 a b c):Rb3 a b c:=⟨Sl.rb h.1,Sl.rb h.2.1,Sl.rb h.2.2⟩
theorem refCheckVecF {z:Int} (h:Sl3 a b c) (hz:c3 a b c=z):jF 10 [t3 a b c] (it z):=by
 have h1:a.size≤40:=h.1
 have h2:b.size≤40:=h.2.1
 have h3:c.size≤40:=h.2.2
 refine jG Tryz.func10 fun w00=>?_
 refine jC 37 [.fv (.nsl 3 23 [dG a,dG b,dG c])] (checkRowAny (pJ (by omega) rfl) (pJ (by omega) rfl) (pJ (by omega) rfl) (bN _) (bN _) (bN _) hz) ?_
 exact jR Tryz.func10
end
theorem slwN {n:Nat} {s:ByteArray} (h:s.size≤n) (hn:1≤n) (hz:bO s=0):∃ q,s=writeB q∧Bq n q:=by
 obtain ⟨q,rfl,_,_⟩:=qW hz
 rw [jD] at h
 have ht:(decB q.num.natAbs).size≤(aP q.num).size:=by
  unfold aP
  split
  ·rw [ByteArray.size_append];omega
  ·exact aR _
 refine ⟨q,rfl,bq_of ⟨by omega,?_⟩⟩
 by_cases hd:q.den=1
 ·rw [hd,dec1];exact hn
 ·rw [if_neg hd] at h;omega
theorem slwN3 {n:Nat} {a b c:ByteArray} (h1:a.size≤n) (h2:b.size≤n) (h3:c.size≤n) (hn:1≤n) (hz:c3 a b c=0):∃ p q r,a=writeB p∧b=writeB q∧c=writeB r∧Bq n p∧Bq n q∧Bq n r:=by
 obtain ⟨k1,k23⟩:=f2_zero hz
 obtain ⟨k2,k3⟩:=f2_zero k23
 obtain ⟨p,e1,q1⟩:=slwN h1 hn k1
 obtain ⟨q,e2,q2⟩:=slwN h2 hn k2
 obtain ⟨r,e3,q3⟩:=slwN h3 hn k3
 exact ⟨p,q,r,e1,e2,e3,q1,q2,q3⟩
abbrev Ss (s:ByteArray):Prop:=s.size≤30
abbrev Ss3 (a b c:ByteArray):Prop:=Ss a∧Ss b∧Ss c
section
variable {s a b c x y u:ByteArray}
theorem Ss.sl (h:Ss s):Sl s:=by have h:s.size≤30:=h;show s.size≤40;omega
theorem Ss3.sl (h:Ss3 a b c):Sl3 a b c:=⟨Ss.sl h.1,Ss.sl h.2.1,Ss.sl h.2.2⟩
end
section
variable {s p q v k t:ByteArray} {a b c d x y z u:ByteArray} {n1 n2 n3:Int}
theorem valueR (h0:jF 126 [hL n1 n2 n3 s] (t3 a b c)) (h1:jF 125 [t3 a b c,t3 x y z] (tx p)) (h2:jF 116 [tx p,tx s] (tx v)):jF 58 [hL n1 n2 n3 s,t3 x y z] (tx v):=by
 refine jG Tryz.func58 fun w00=>?_
 refine jC 126 _ (h0) ?_
 refine jC 125 _ (h1) ?_
 refine jC 116 _ (h2) ?_
 exact jR Tryz.func58
end
section
variable {n1 n2 n3:Int} {d p1 p2 p3 v1 v2 v3 e:Rat} {k:Nat}
structure Qh (n1 n2 n3:Int) (d p1 p2 p3:Rat):Prop where
 m1:nJ n1
 m2:nJ n2
 m3:nJ n3
 q1:Bq 10 (n1:Rat)
 q2:Bq 10 (n2:Rat)
 q3:Bq 10 (n3:Rat)
 d:Bq 30 d
 p1:Bq 30 p1
 p2:Bq 30 p2
 p3:Bq 30 p3
abbrev exR (n1 n2 n3:Int) (d p1 p2 p3:Rat):Rat:=dt (n1:Rat) n2 n3 p1 p2 p3-d
abbrev nnR (n1 n2 n3:Int):Rat:=dt (n1:Rat) n2 n3 n1 n2 n3
theorem Qh.ex (h:Qh n1 n2 n3 d p1 p2 p3):Bq 153 (exR n1 n2 n3 d p1 p2 p3):=(Bq.dt h.q1 h.q2 h.q3 h.p1 h.p2 h.p3 (n:=122) (by omega)).sub h.d
theorem Qh.nn (h:Qh n1 n2 n3 d p1 p2 p3):Bq 62 (nnR n1 n2 n3):=Bq.dt h.q1 h.q2 h.q3 h.q1 h.q2 h.q3 (by omega)
theorem refValueF (h:Qh n1 n2 n3 d p1 p2 p3):jF 58 [hL n1 n2 n3 (writeB d),vS p1 p2 p3] (tx (writeB (exR n1 n2 n3 d p1 p2 p3))) :=
 valueR (normalF h.m1 h.m2 h.m3) (dotV h.q1 h.q2 h.q3 h.p1 h.p2 h.p3 (by omega)) (uF (subR ((Bq.dt h.q1 h.q2 h.q3 h.p1 h.p2 h.p3 (n:=122) (by omega)).zs (by omega)) (h.d.zs (by omega))))
abbrev ft (n1 n2 n3:Int) (d p1 p2 p3:Rat) (p:Rat) (n:Int):Rat:=p-exR n1 n2 n3 d p1 p2 p3/nnR n1 n2 n3*n
theorem Qh.way (h:Qh n1 n2 n3 d p1 p2 p3):Bq 215 (exR n1 n2 n3 d p1 p2 p3/nnR n1 n2 n3):=h.ex.div h.nn
theorem Qh.f1 (h:Qh n1 n2 n3 d p1 p2 p3):Bq 256 (ft n1 n2 n3 d p1 p2 p3 p1 n1):=h.p1.sub (h.way.mul h.q1)
theorem Qh.f2 (h:Qh n1 n2 n3 d p1 p2 p3):Bq 256 (ft n1 n2 n3 d p1 p2 p3 p2 n2):=h.p2.sub (h.way.mul h.q2)
theorem Qh.f3 (h:Qh n1 n2 n3 d p1 p2 p3):Bq 256 (ft n1 n2 n3 d p1 p2 p3 p3 n3):=h.p3.sub (h.way.mul h.q3)
end
theorem lawFirst2Eh {x y z:Int} (hx:Eh x) (hy:Eh y) (hz:f2 x y=z):jF 9 [.fv (.nsl 2 3 [lz x,lz y])] (it z):=by
 rcases hx with rfl|rfl|rfl|rfl|rfl
 ·have hz:y=z:=hz
  subst hz
  rcases hy with rfl|rfl|rfl|rfl|rfl <;> (refine mV Tryz.func9 (by kernel_rfl) fun w00=>?_;exact kret Tryz.func9 (by kernel_rfl))
 all_goals
  have hz:_=z:=hz
  subst hz
  refine mV Tryz.func9 (by kernel_rfl) fun w00=>?_
  exact jR Tryz.func9
theorem zG {n1 n2 n3 z:Int} {s:ByteArray} (hs:s.size≤9223372036854775807) (hz:kh n1 n2 n3 s=z):jF 6 [hL n1 n2 n3 s] (it z) :=
 Fits.res (Fits.args (checkHalfF (k:=bO s) (kn_I (checkAnyF hs)) hz) fun β vs w ⟨v,r,e,h1,hr⟩=>⟨v,r,e,hL_A β v w h1,hr⟩) fun β v w k=>by
  rw [aN k];exact aW rfl
theorem hk_zero {a b c k:Int} (h:hkZ a b c k=0):¬ (a=0∧b=0∧c=0)∧¬ Bg a∧¬ Bg b∧¬ Bg c∧hkZ a b c 0=0∧k=0:=by
 unfold hkZ at h ⊢
 split at h
 ·exact absurd h (by decide)
 rename_i h0
 split at h
 ·exact absurd h (by decide)
 rename_i h1
 split at h
 ·exact absurd h (by decide)
 rename_i h2
 exact ⟨h0,fun e=>h1 (.inl e),fun e=>h1 (.inr (.inl e)),fun e=>h1 (.inr (.inr e)),by rw [if_neg h0,if_neg h1,if_neg h2],h⟩
theorem qh_of {n1 n2 n3:Int} {d p1 p2 p3:Rat} (m:M3 n1 n2 n3) (hk:kh n1 n2 n3 (writeB d)=0) (qd:Bq 30 d) (q1:Bq 30 p1) (q2:Bq 30 p2) (q3:Bq 30 p3):Qh n1 n2 n3 d p1 p2 p3:=by
 obtain ⟨_,b1,b2,b3,_⟩:=hk_zero hk
 unfold Bg at b1 b2 b3
 exact ⟨m.1,m.2.1,m.2.2,uJ (by omega) (by omega),uJ (by omega) (by omega),uJ (by omega) (by omega),qd,q1,q2,q3⟩
abbrev nH:AV Kn := .fv (.ag [.lit (.int .i64 0),.lit (.int .i64 0),.lit (.int .i64 0),.lit (.string ⟨#[]⟩)])
section
variable {f:FuncId} {w00:World} {Out:Value→World→Prop} {c:Cfg Kn}
theorem kheq (x y:Operand) (a b d:Int) (s:ByteArray) (hg:Ok Tryz.prog f w00 Out (cG Tryz.prog 1000 (c.give (bl true))))
 (hc:(c.op.map fun o=>o.op,c.okT (bl true),c.ev x,c.ev y)=(some (.binOp .eql 25 x y 25),true,hL a b d s,hL a b d s):=by kernel_rfl):Ok Tryz.prog f w00 Out c :=
 mW (.binOp .eql 25 x y 25) x y _ _ (bl true) hc (by simp [Op.operands]) (by simp [Op.operands]) (fun ρ o β w ho hx hy=>⟨_,agg_eq (by kernel_rfl) (equalHf a b d s w) ho (hL_is hx) (hL_is hy),aW rfl⟩) hg
theorem kneg0 (x:Operand) (a:Int) (ha2:nJ (-a)) (hg:Ok Tryz.prog f w00 Out (cG Tryz.prog 1000 (c.give (.fv (.sc (eN (-a)))))))
 (hc:(c.op.map fun o=>o.op,c.okT (.fv (.sc (eN (-a)))),c.ev (.const (.int .i64 0)),c.ev x)=(some (.binOp .sub 3 (.const (.int .i64 0)) x 3),true,it 0,.fv (.sc (eN a))):=by kernel_rfl):Ok Tryz.prog f w00 Out c :=
 mW (.binOp .sub 3 (.const (.int .i64 0)) x 3) (.const (.int .i64 0)) x _ _ (.fv (.sc (eN (-a)))) hc (by simp [Op.operands]) (by simp [Op.operands]) (fun ρ o β w ho hx hy=>⟨_,by
  have e1:=aM hx
  have e2:=aN hy
  have e:IntKind.i64.wrap (-a) = -a:=by rw [IntWalk.i64_left,IntWalk.wrap64_in _ ⟨by have:=ha2.1;omega,by have:=ha2.2;omega⟩]
  simp only [execOp,ho,e1,e2]
  refine bI ?_
  simp [go_sem,e],bD⟩) hg
end
theorem planeOk {a b c:Int} {s:ByteArray}:jF 13 [hL a b c s,it 0,it 0,hL a b c s] (bl true):=by
 refine jG Tryz.func13 fun w00=>?_
 refine kheq (.tmp 22) (.tmp 23) a b c s ?_
 exact jR Tryz.func13
abbrev oH (a b c:Int) (t:ByteArray) (e:Int):AV Kn := .tup [.ag [lz a,lz b,lz c,dG t],.sc (lz e)]
def Oz (a b c:Int) (t:ByteArray) (e:Int):Prop:=e=0∨(e=4∨e=6∨e=7)∧a=0∧b=0∧c=0∧t=⟨#[]⟩
theorem noH_oH {e:Int} (β:List Nat) (v:Value) (w:World) (h:(noH e).holds β v w):(oH 0 0 0 ⟨#[]⟩ e).holds β v w:=by
 obtain ⟨vs,rfl,u,r,rfl,h1,h2⟩:=h
 obtain ⟨cs,rfl,x1,r1,rfl,k1,x2,r2,rfl,k2,x3,r3,rfl,k3,x4,r4,rfl,k4,k5⟩:=h1
 exact ⟨_,rfl,_,_,rfl,⟨_,rfl,_,_,rfl,k1,_,_,rfl,k2,_,_,rfl,k3,_,_,rfl,k4.1,k5⟩,h2⟩
abbrev Bh (z:Int):Prop:=z=1∨z=3∨z=4∨z=6∨z=7∨z=15
theorem planeBh {z:Int} (h:Bh z):jF 13 [nH,it z,it z,nH] (bl true):=by
 rcases h with rfl|rfl|rfl|rfl|rfl|rfl
 all_goals
  refine jG Tryz.func13 fun w00=>?_
  exact jR Tryz.func13
theorem fits_isI3 {f:FuncId} {a b d x:AV Kn} {z:Int} (h:jF f [a,b,it z,d] x):jF f [a,b,.fv (.sc (eN z)),d] x:=fun β w vs hv=>by
 obtain ⟨v1,r1,rfl,h1,v2,r2,rfl,h2,v3,r3,rfl,h3,v4,r4,rfl,h4,h5⟩:=hv
 exact h β w _ ⟨v1,_,rfl,h1,v2,_,rfl,h2,v3,_,rfl,by rw [aN h3];exact aW rfl,v4,_,rfl,h4,h5⟩
theorem oH_nH {t:ByteArray} (ht:t=⟨#[]⟩) (β:List Nat) (v:Value) (w:World) (h:(hL 0 0 0 t).holds β v w):nH.holds β v w:=by
 subst ht
 obtain ⟨cs,rfl,x1,r1,rfl,k1,x2,r2,rfl,k2,x3,r3,rfl,k3,x4,r4,rfl,k4,k5⟩:=h
 exact ⟨_,rfl,_,_,rfl,k1,_,_,rfl,k2,_,_,rfl,k3,_,_,rfl,⟨k4,rfl⟩,k5⟩
theorem planeOz {a b c e:Int} {t:ByteArray} (h:Oz a b c t e):jF 13 [hL a b c t,it e,it e,hL a b c t] (bl true):=by
 rcases h with rfl|⟨he,rfl,rfl,rfl,rfl⟩
 ·exact planeOk
 ·have hb:=planeBh (z:=e) (by rcases he with rfl|rfl|rfl <;> simp [Bh])
  intro β w vs hv
  obtain ⟨v1,r1,rfl,h1,v2,r2,rfl,h2,v3,r3,rfl,h3,v4,r4,rfl,h4,h5⟩:=hv
  exact hb β w _ ⟨v1,_,rfl,oH_nH rfl _ _ _ h1,v2,_,rfl,h2,v3,_,rfl,h3,v4,_,rfl,oH_nH rfl _ _ _ h4,h5⟩
section
variable {f:FuncId} {w00:World} {Out:Value→World→Prop} {c:Cfg Kn}
theorem keqG (x y:Operand) (a b:Int) (r:Bool) (X Y:AV Kn) (hX:∀ β v w,X.holds β v w→v = .int .i64 a) (hY:∀ β v w,Y.holds β v w→v = .int .i64 b) (h:(a==b)=r) (hg:Ok Tryz.prog f w00 Out (cG Tryz.prog 1000 (c.give (bl r))))
 (hc:(c.op.map fun o=>o.op,c.okT (bl r),c.ev x,c.ev y)=(some (.binOp .eql 3 x y 3),true,X,Y):=by kernel_rfl):Ok Tryz.prog f w00 Out c :=
 mW (.binOp .eql 3 x y 3) x y _ _ (bl r) hc (by simp [Op.operands]) (by simp [Op.operands]) (fun ρ o β w ho hx hy=>⟨_,gF ho (hX _ _ _ hx) (hY _ _ _ hy) h,aW rfl⟩) hg
theorem kneG (x y:Operand) (a b:Int) (r:Bool) (X Y:AV Kn) (hX:∀ β v w,X.holds β v w→v = .int .i64 a) (hY:∀ β v w,Y.holds β v w→v = .int .i64 b) (h:(!(a==b))=r) (hg:Ok Tryz.prog f w00 Out (cG Tryz.prog 1000 (c.give (bl r))))
 (hc:(c.op.map fun o=>o.op,c.okT (bl r),c.ev x,c.ev y)=(some (.binOp .neq 3 x y 3),true,X,Y):=by kernel_rfl):Ok Tryz.prog f w00 Out c :=
 mW (.binOp .neq 3 x y 3) x y _ _ (bl r) hc (by simp [Op.operands]) (by simp [Op.operands]) (fun ρ o β w ho hx hy=>⟨_,jne_run ho (hX _ _ _ hx) (hY _ _ _ hy) h,aW rfl⟩) hg
end
set_option maxRecDepth 100000 in
theorem refOppositeA {a b c:Int} {s u:ByteArray} (h1:nJ (-a)) (h2:nJ (-b)) (h3:nJ (-c)) (hn:jF 56 [tx s] (tx u)):jF 16 [hA a b c s] (hA (-a) (-b) (-c) u):=by
 refine jG Tryz.func16 fun w00=>?_
 refine kneg0 (.tmp 5) a h1 ?_
 refine kneg0 (.tmp 9) b h2 ?_
 refine kneg0 (.tmp 13) c h3 ?_
 refine jC 56 [tx s] (hn) ?_
 exact jR Tryz.func16
section
variable {n1 n2 n3 z1 z2 z3:Int} {s a b c x:ByteArray}
abbrev MO (a b c x:ByteArray) (z2 z3:Int):Prop :=
 (∃ z,Bh z∧jX 8 [t3 a b c,tx x] (noH z)∧jF 9 [.fv (.nsl 2 3 [lz z2,lz z3])] (it z)) ∨
 ∃ (m1 m2 m3:Int) (t:ByteArray) (e:Int),Oz m1 m2 m3 t e∧jF 9 [.fv (.nsl 2 3 [lz z2,lz z3])] (it 0)∧jX 8 [t3 a b c,tx x] (oH m1 m2 m3 t e)∧jF 12 [t3 a b c,tx x] (oH m1 m2 m3 t e)
abbrev SO (n1 n2 n3:Int) (s a b c:ByteArray) (z1 z2:Int):Prop :=
 (Bh z1∧jX 14 [hL n1 n2 n3 s] (noH z1)∧jX 15 [hL n1 n2 n3 s,t3 a b c] (.tup [.sc (lz 0),.sc (lz z1)])) ∨
 ∃ (o1 o2 o3:Int) (u:ByteArray),z1=0∧jX 14 [hL n1 n2 n3 s] (okL o1 o2 o3 u)∧jF 16 [hL n1 n2 n3 s] (hL o1 o2 o3 u) ∧
   (Bh z2∧jX 15 [hL n1 n2 n3 s,t3 a b c] (.tup [.sc (lz 0),.sc (lz z2)]) ∨
    ∃ g:Int,z2=0∧jX 15 [hL n1 n2 n3 s,t3 a b c] (.tup [.sc (lz g),.sc (lz 0)])∧jF 17 [hL n1 n2 n3 s,t3 a b c] (it g))
set_option maxRecDepth 100000 in
theorem halves_walk (hs:jF 5 [it 30,.fv (.nsl 1 27 [dG a,dG b,dG c])] (bl true)) (hc:decide ((30:Int)<(s.size:Nat))=false) (hd:decide ((30:Int)<(x.size:Nat))=false) (kH:jF 6 [hL n1 n2 n3 s] (it z1)) (cC:jX 7 [hL n1 n2 n3 s] (it z1))
 (kV:jF 10 [t3 a b c] (it z2)) (kD:jF 11 [tx x] (it z3)) (M:MO a b c x z2 z3) (S:SO n1 n2 n3 s a b c z1 z2):jX 3 [hL n1 n2 n3 s,t3 a b c,tx x] (bl true):=by
 have kH':=oW kH
 have kV':=oW kV
 have ne:∀ {z:Int},Bh z→(z==0)=false:=fun h=>by rcases h with rfl|rfl|rfl|rfl|rfl|rfl <;> rfl
 have ne' : ∀ {z:Int},Bh z→(!(z==0))=true:=fun h=>by rw [ne h];rfl
 refine jY Tryz.func3 fun w00 hI=>?_
 refine jW hI 4 [] (rA) ?_
 refine jC 5 _ (hs) ?_
 refine jP 26 23 Tryz.underlying23 s ?_
 refine jM 27 s.size 30 false hc ?_
 refine jP 31 23 Tryz.underlying23 x ?_
 refine jM 32 x.size 30 false hd ?_
 refine jC 6 _ (kH') ?_
 refine jW hI 7 _ (cC) ?_
 refine kneG (.tmp 39) (.tmp 40) z1 z1 false _ _ aZ kZ (by simp) ?_
 rcases M with ⟨z,hz,cM,kF⟩|⟨m1,m2,m3,t,e,ho,kF,cM,rM⟩
 focus
  have kF':=oW kF
  have pB:=fits_isI3 (planeBh hz)
  refine jW hI 8 _ (cM) ?_
  refine jC 10 _ (kV) ?_
  refine jC 11 _ (kD) ?_
  refine jC 9 _ (kF') ?_
  refine keqG (.tmp 55) (.const (.int .i64 0)) z 0 false _ _ kZ aZ (ne hz) ?_
  refine jC 13 _ (pB) ?_
 rotate_left
 focus
  have pM:=planeOz ho
  refine jW hI 8 _ (cM) ?_
  refine jC 10 _ (kV) ?_
  refine jC 11 _ (kD) ?_
  refine jC 9 _ (kF) ?_
  refine jC 12 _ (rM) ?_
  refine jC 13 _ (pM) ?_
 rotate_left
 all_goals
  rcases S with ⟨h1,cO,cS⟩|⟨o1,o2,o3,u,h1,cO,rO,S⟩
  ·have pO:=fits_isI3 (planeBh h1)
   refine jW hI 14 _ (cO) ?_
   refine jW hI 15 _ (cS) ?_
   refine kneG (.tmp 80) (.const (.int .i64 0)) z1 0 true _ _ kZ aZ (ne' h1) ?_
   refine jC 13 _ (pO) ?_
   refine keqG (.tmp 92) (.tmp 93) z1 z1 true _ _ aZ kZ (by simp) ?_
   exact jR Tryz.func3
  ·have pO:=planeOk (a:=o1) (b:=o2) (c:=o3) (s:=u)
   refine jW hI 14 _ (cO) ?_
   rcases S with ⟨h2,cS⟩|⟨g,h2,cS,rS⟩
   ·refine jW hI 15 _ (cS) ?_
    refine kneG (.tmp 80) (.const (.int .i64 0)) z1 0 false _ _ kZ aZ (by rw [h1];rfl) ?_
    refine jC 16 _ (rO) ?_
    refine jC 13 _ (pO) ?_
    refine jC 10 _ (kV') ?_
    refine kneG (.tmp 104) (.const (.int .i64 0)) z2 0 true _ _ kZ aZ (ne' h2) ?_
    refine keqG (.tmp 109) (.tmp 110) z2 z2 true _ _ aZ kZ (by simp) ?_
    exact jR Tryz.func3
   ·have rS':=oW rS
    refine jW hI 15 _ (cS) ?_
    refine kneG (.tmp 80) (.const (.int .i64 0)) z1 0 false _ _ kZ aZ (by rw [h1];rfl) ?_
    refine jC 16 _ (rO) ?_
    refine jC 13 _ (pO) ?_
    refine jC 10 _ (kV') ?_
    refine kneG (.tmp 104) (.const (.int .i64 0)) z2 0 false _ _ kZ aZ (by rw [h2];rfl) ?_
    refine jC 17 _ (rS') ?_
    refine keqG (.tmp 116) (.tmp 119) g g true _ _ aZ kZ (by simp) ?_
    exact jR Tryz.func3
end
set_option maxRecDepth 100000 in
theorem shortH1 {a b c:ByteArray} {n:Int} {T:TypeId} {r:Bool} (h:(lo n a || lo n b || lo n c)=r):jF 5 [it n,.fv (.nsl 1 T [dG a,dG b,dG c])] (bl (!r)):=by
 obtain ⟨r0,e0⟩:∃ r,lo n a=r:=⟨_,rfl⟩
 obtain ⟨r1,e1⟩:∃ r,lo n b=r:=⟨_,rfl⟩
 obtain ⟨r2,e2⟩:∃ r,lo n c=r:=⟨_,rfl⟩
 rw [e0,e1,e2] at h
 subst h
 refine kgoAS Tryz.func5 (by kernel_rfl) fun w00=>?_
 refine jP 16 23 Tryz.underlying23 a ?_
 refine kgg (.tmp 17) (.tmp 18) a.size n r0 _ aZ e0 ?_
 cases r0
 case true=>exact jR Tryz.func5
 refine jP 25 23 Tryz.underlying23 b ?_
 refine kgg (.tmp 26) (.tmp 27) b.size n r1 _ aZ e1 ?_
 cases r1
 case true=>exact jR Tryz.func5
 refine jP 35 23 Tryz.underlying23 c ?_
 refine kgg (.tmp 36) (.tmp 37) c.size n r2 _ aZ e2 ?_
 cases r2
 case true=>exact jR Tryz.func5
 exact jR Tryz.func5
section
variable {n1 n2 n3:Int} {s a b c x:ByteArray}
theorem halves_long1 (h:(lo 30 a || lo 30 b || lo 30 c)=true):jX 3 [hL n1 n2 n3 s,t3 a b c,tx x] (bl true):=by
 have hs:=shortH1 (T:=27) h
 refine jY Tryz.func3 fun w00 hI=>?_
 refine jW hI 4 [] (rA) ?_
 refine jC 5 _ (hs) ?_
 refine jW hI 4 [] (rA) ?_
 exact jR Tryz.func3
theorem halves_long2 (hs:jF 5 [it 30,.fv (.nsl 1 27 [dG a,dG b,dG c])] (bl true)) (hc:decide ((30:Int)<(s.size:Nat))=true):jX 3 [hL n1 n2 n3 s,t3 a b c,tx x] (bl true):=by
 refine jY Tryz.func3 fun w00 hI=>?_
 refine jW hI 4 [] (rA) ?_
 refine jC 5 _ (hs) ?_
 refine jP 26 23 Tryz.underlying23 s ?_
 refine jM 27 s.size 30 true hc ?_
 refine jW hI 4 [] (rA) ?_
 exact jR Tryz.func3
theorem halves_long3 (hs:jF 5 [it 30,.fv (.nsl 1 27 [dG a,dG b,dG c])] (bl true)) (hc:decide ((30:Int)<(s.size:Nat))=false) (hd:decide ((30:Int)<(x.size:Nat))=true):jX 3 [hL n1 n2 n3 s,t3 a b c,tx x] (bl true):=by
 refine jY Tryz.func3 fun w00 hI=>?_
 refine jW hI 4 [] (rA) ?_
 refine jC 5 _ (hs) ?_
 refine jP 26 23 Tryz.underlying23 s ?_
 refine jM 27 s.size 30 false hc ?_
 refine jP 31 23 Tryz.underlying23 x ?_
 refine jM 32 x.size 30 true hd ?_
 refine jW hI 4 [] (rA) ?_
 exact jR Tryz.func3
end
theorem make_out {p1 p2 p3 d:Rat} (q1:Bq 30 p1) (q2:Bq 30 p2) (q3:Bq 30 p3) (qd:Bq 30 d) :
 ∃ (m1 m2 m3:Int) (t:ByteArray) (e:Int),Oz m1 m2 m3 t e∧jX 8 [vS p1 p2 p3,tx (writeB d)] (oH m1 m2 m3 t e)∧jF 12 [vS p1 p2 p3,tx (writeB d)] (oH m1 m2 m3 t e):=by
 have wp:nM p1 p2 p3:=⟨q1.wr (by omega),q2.wr (by omega),q3.wr (by omega)⟩
 have wd:Wr d:=qd.wr (by omega)
 have bad:∀ e,e=4∨e=6∨e=7→jX 8 [vS p1 p2 p3,tx (writeB d)] (noH e)→jF 12 [vS p1 p2 p3,tx (writeB d)] (noH e)→∃ (m1 m2 m3:Int) (t:ByteArray) (e:Int),Oz m1 m2 m3 t e∧jX 8 [vS p1 p2 p3,tx (writeB d)] (oH m1 m2 m3 t e)∧jF 12 [vS p1 p2 p3,tx (writeB d)] (oH m1 m2 m3 t e):=fun e he a b =>
  ⟨0,0,0,⟨#[]⟩,e,.inr ⟨he,rfl,rfl,rfl,rfl⟩,a.res noH_oH,b.res noH_oH⟩
 by_cases h0:p1=0∧p2=0∧p3=0
 ·refine bad 6 (.inr (.inl rfl)) (vO wp wd h0) ?_
  have h:=isOriginQ p1 p2 p3
  rw [decide_eq_true h0.1,decide_eq_true h0.2.1,decide_eq_true h0.2.2] at h
  exact mkZero h
 ·obtain ⟨z1,z2,z3,f1,f2,f3,hg,L,G,hL0,hG0,hw,hL,g1,g2,g3⟩:=rC h0
  have qw:=bq_whole q1 q2 q3 hG0 hw hL g1 g2 g3 h0
  have qe:=qd.mul qw
  have l:∀ {q:Rat} {k:Nat},Bq k q→k≤600→Lf 30 q:=fun h hk=>(h.wr hk).lf.mono (by decide)
  have ld:Lf 38 d:=(l qd (by omega)).mono (by decide)
  have hN:=mkN q1 q2 q3 qd (by omega) (by omega) (by omega) h0 f1 f2 f3 hg
  have zb:∀ {p:Rat} {z:Int},Bq 30 p→bF p1 p2 p3*p=z→z.natAbs<10^130:=fun {p z} hp e=>by
   have h:=qw.mul hp
   rw [e] at h
   have h:=(h.mono (l:=130) (by omega)).1
   simpa using h
  by_cases hs:Sz z1∧Sz z2∧Sz z3
  ·exact ⟨z1,z2,z3,writeB (d*bF p1 p2 p3),0,.inl rfl,tB (e:=d*bF p1 p2 p3) wp wd h0 (.inl rfl) (sG ⟨l q1 (by omega),l q2 (by omega),l q3 (by omega),ld,h0,f1,f2,f3,rfl,hs.1,hs.2.1,hs.2.2,qe.wr (by omega)⟩),
    mkOk hN hs.1 hs.2.1 hs.2.2 (qe.wr (by omega))⟩
  ·exact bad 4 (.inl rfl) (tB (z1:=z1) (z2:=z2) (z3:=z3) (e:=d*bF p1 p2 p3) wp wd h0 (.inr rfl) (hWriteLargeF ⟨l q1 (by omega),l q2 (by omega),l q3 (by omega),ld,h0,f1,f2,f3,rfl,hs,qe.wr (by omega)⟩))
    (mkBig (k:=130) hN hs (zb q1 f1) (zb q2 f2) (zb q3 f3) (by omega) (by omega))
theorem hk_gcd {a b c k:Int} (h:hkZ a b c k=0):Int.gcd (Int.gcd a b:Int) c=1:=by
 unfold hkZ at h
 split at h
 ·exact absurd h (by decide)
 ·split at h
  ·exact absurd h (by decide)
  ·split at h
   ·exact absurd h (by decide)
   ·rename_i g
    exact Decidable.not_not.1 g
theorem hA_L {a b c:Int} {s:ByteArray} (β:List Nat) (v:Value) (w:World) (h:(hA a b c s).holds β v w):(hL a b c s).holds β v w:=by
 obtain ⟨cs,e,x1,r1,e1,h1,x2,r2,e2,h2,x3,r3,e3,h3,hr⟩:=h
 exact ⟨cs,e,x1,r1,e1,⟨h1,rfl⟩,x2,r2,e2,⟨h2,rfl⟩,x3,r3,e3,⟨h3,rfl⟩,hr⟩
theorem refOppositeL {a b c:Int} {s u:ByteArray} (h1:nJ (-a)) (h2:nJ (-b)) (h3:nJ (-c)) (hn:jF 56 [tx s] (tx u)):jF 16 [hL a b c s] (hL (-a) (-b) (-c) u) :=
 Fits.res (Fits.args (refOppositeA h1 h2 h3 hn) fun β vs w ⟨v,r,e,h1,hr⟩=>⟨v,r,e,hL_A β v w h1,hr⟩) fun β v w k=>hA_L β v w k
theorem refSideF {n1 n2 n3:Int} {d p1 p2 p3:Rat} (q:Qh n1 n2 n3 d p1 p2 p3):jF 17 [hL n1 n2 n3 (writeB d),vS p1 p2 p3] (it (sgnR (exR n1 n2 n3 d p1 p2 p3))):=by
 have hv:=refValueF q
 have hs:=signQ (exR n1 n2 n3 d p1 p2 p3)
 refine jG Tryz.func17 fun w00=>?_
 refine jC 58 _ (hv) ?_
 refine jC 57 _ (hs) ?_
 exact jR Tryz.func17
theorem halvesF (n1 n2 n3:Int) (m:M3 n1 n2 n3) (s a b c x:ByteArray):jX 3 [hL n1 n2 n3 s,t3 a b c,tx x] (bl true):=by
 cases hl:(lo 30 a || lo 30 b || lo 30 c) with
 | true=>exact halves_long1 hl
 | false =>
   have hs0:=shortH1 (T:=27) hl
   simp only [Bool.or_eq_false_iff,lo,decide_eq_false_iff_not] at hl
   obtain ⟨⟨l1,l2⟩,l3⟩:=hl
   have h:Ss3 a b c:=⟨by show a.size≤30;omega,by show b.size≤30;omega,by show c.size≤30;omega⟩
   cases hc:decide ((30:Int)<(s.size:Nat)) with
   | true=>exact halves_long2 hs0 hc
   | false =>
     have hs:Ss s:=by have:=of_decide_eq_false hc;show s.size≤30;omega
     cases hd:decide ((30:Int)<(x.size:Nat)) with
     | true=>exact halves_long3 hs0 hc hd
     | false =>
       have hx:Ss x:=by have:=of_decide_eq_false hd;show x.size≤30;omega
       have rs:Rb s:=hs.sl.rb
       have kH:=zG (n1:=n1) (n2:=n2) (n3:=n3) (s:=s) (by have h:s.size≤30:=hs;omega) rfl
       have cC:=vN m rs rfl
       have kV:=refCheckVecF h.sl rfl
       have kD:=pJ (s:=x) (by have h:x.size≤30:=hx;omega) rfl
       have kF:=lawFirst2Eh (tA (yI a b c)) (tA (bN x)) rfl
       have eb:∀ {z:Int},Eh z→z≠0→Bh z:=fun h h0=>by
        rcases h with e|e|e|e|e
        ·exact absurd e h0
        all_goals simp [Bh,e]
       have M:MO a b c x (c3 a b c) (bO x):=by
        by_cases hz:f2 (c3 a b c) (bO x)=0
        ·obtain ⟨hp,hq⟩:=f2_zero hz
         rw [hz] at kF
         obtain ⟨p1,p2,p3,rfl,rfl,rfl,q1,q2,q3⟩:=slwN3 (n:=30) h.1 h.2.1 h.2.2 (by omega) hp
         obtain ⟨t,rfl,qt⟩:=slwN (n:=30) hx (by omega) hq
         obtain ⟨m1,m2,m3,u,e,ho,cM,rM⟩:=make_out q1 q2 q3 qt
         exact .inr ⟨m1,m2,m3,u,e,ho,kF,cM,rM⟩
        ·exact .inl ⟨_,eb (f2_eh (tA (yI _ _ _)) (tA (bN _))) hz,yN h.sl.rb hx.sl.rb rfl hz,kF⟩
       have S:SO n1 n2 n3 s a b c (kh n1 n2 n3 s) (c3 a b c):=by
        by_cases ho:kh n1 n2 n3 s=0
        ·obtain ⟨d,rfl,qd⟩:=slwN (n:=30) hs (by omega) (hk_zero ho).2.2.2.2.2
         obtain ⟨z00,b1,b2,b3,hk0,hd0⟩:=hk_zero ho
         unfold Bg at b1 b2 b3
         have hv:Hv n1 n2 n3 d:=⟨by constructor <;> omega,by constructor <;> omega,by constructor <;> omega,qd.wr (by omega),oX hk0⟩
         have cO:=opposite_W hv z00 (hk_gcd ho) (qd.neg.wr (by omega))
         have rO:=refOppositeL (a:=n1) (b:=n2) (c:=n3) (s:=writeB d) (u:=writeB (-d)) (by constructor <;> omega) (by constructor <;> omega) (by constructor <;> omega) (kn_o (negR (wr_len (qd.wr (by omega)))))
         refine .inr ⟨_,_,_,_,ho,cO,rO,?_⟩
         by_cases hp:c3 a b c=0
         ·obtain ⟨p1,p2,p3,rfl,rfl,rfl,q1,q2,q3⟩:=slwN3 (n:=30) h.1 h.2.1 h.2.2 (by omega) hp
          have q:=qh_of m ho qd q1 q2 q3
          exact .inr ⟨_,hp,apiSideF hv ⟨q1.wr (by omega),q2.wr (by omega),q3.wr (by omega)⟩ rfl,refSideF q⟩
         ·exact .inl ⟨eb (tA (yI _ _ _)) hp,yP m rs h.sl.rb (z:=c3 a b c) (by rw [ho];exact f2_r rfl) hp⟩
        ·exact .inl ⟨eb kh_eh ho,yO m rs rfl ho,yP m rs h.sl.rb (z:=kh n1 n2 n3 s) (f2_l ho) ho⟩
       exact halves_walk hs0 hc hd kH cC kV kD M S
end Ab
namespace Ab
open Go.ChangeShapes Go.WideShapes Go.ChangeAt Go.RowKit
theorem gPow:Tryz.prog.globalNamed "internal/strconv.uint64pow10" = some 7:=by kernel_rfl
theorem gl_of {W:World} {r:List (String×DataW Unit)} (h:laidMet Tryz.prog (("internal/strconv.uint64pow10",Lib.tabData .u64 Lib.pow10Tab)::r) W) (hs:W.ShapedOpen Tryz.prog):Gl W :=
 ⟨Lib.tabIs_of_head (t:=300) (e:=152) (n:=20) gPow (by kernel_rfl) (by kernel_rfl) (by kernel_rfl) (by kernel_rfl) (by kernel_rfl) h,
  Go.Proofs.cell_of_shapedOpen_int (zero := #[.int .i64 0]) (t:=3) hs (of_decide_eq_true (by kernel_rfl)) (by kernel_rfl) rfl (by kernel_rfl) (by kernel_rfl) (by kernel_rfl)⟩
theorem hold_t3 {β:List Nat} {a b c:ByteArray} {w:World}:(t3 a b c).holds β (.agg #[.string a,.string b,.string c]) w :=
 ⟨[.string a,.string b,.string c],rfl,[.string a],_,rfl,rfl,[.string b],_,rfl,rfl,[.string c],_,rfl,rfl,rfl⟩
end Ab
namespace Ab
open Go.ChangeShapes Go.WideShapes Go.RowKit
def iO (P:Program):Nat→TypeId→Nat→Option Bool
 | 0,_,_=>none
 | d+1,T,i=>match P.underlying T with
   | some (.int .i64)=>if i=0 then some false else none
   | some .string=>if i=0 then some true else none
   | some (.array n e)=>if 0<P.cellsOf e∧i/P.cellsOf e<n then iO P d e (i%P.cellsOf e) else none
   | some (.struct fs)=>(fs.toList.find? fun f=>decide (f.offset≤i∧i<f.offset+P.cellsOf f.type)).bind fun f=>iO P d f.type (i-f.offset)
   | _=>none
def isKind:Bool→Value→Prop
 | true,c => ∃ s:ByteArray,c = .string s∧s.size≤maxLen
 | false,c => ∃ n:Int,c = .int .i64 n∧(Lit.int .i64 n).wf=true
section
variable {H:Type} {enc:TypeId×Value→H} {P:Program} {w:World} {base:Nat} {spare:Nat→Bool} {held:Bool}
theorem piece {cs:List Value} {o n r:Nat} {c:Value} (h:((cs.drop o).take n)[r]?=some c):cs[o+r]?=some c:=by
 rw [List.getElem?_take] at h
 split at h
 ·rw [List.getElem?_drop] at h;exact h
 ·cases h
theorem trod_kind:∀ (d:Nat) {T:TypeId} {fuel i:Nat} {cs:List Value} {x:DataW H×List MemPlace} {k:Bool},DataW.trod enc P w base spare held fuel T cs=some x→iO P d T i=some k→∃ c,cs[i]?=some c∧isKind k c:=by
 intro d
 induction d with
 | zero=>intro T fuel i cs x k _ hk;cases hk
 | succ d ih =>
   intro T fuel i cs x k h hk
   unfold iO at hk
   split at hk
   ·rename_i hu
    split at hk <;> cases hk
    rename_i h0
    subst h0
    cases fuel with
    | zero=>cases h
    | succ m =>
      unfold DataW.trod at h
      rw [hu] at h
      split at h <;> simp_all
      obtain ⟨⟨_,hw⟩,_⟩:=h
      cases ‹IntKind.i64=_›
      exact ⟨_,rfl,hw⟩
   ·rename_i hu
    split at hk <;> cases hk
    rename_i h0
    subst h0
    cases fuel with
    | zero=>cases h
    | succ m =>
      unfold DataW.trod at h
      rw [hu] at h
      split at h <;> simp_all
      exact ⟨_,rfl,h.1⟩
   ·rename_i n e hu
    split at hk
    ·rename_i hi
     obtain ⟨xs,m,_,_,_,hlen,hat⟩:=DataW.trod_array hu h
     have hq:=hat (i/P.cellsOf e) hi.2
     rw [List.getElem?_eq_getElem (by omega)] at hq
     obtain ⟨c,hc,hk'⟩:=ih hq hk
     refine ⟨c,?_,hk'⟩
     have:=piece hc
     rw [Nat.mul_comm,Nat.div_add_mod] at this
     exact this
    ·cases hk
   ·rename_i fs hu
    rw [Option.bind_eq_some_iff] at hk
    obtain ⟨f,hf,hk⟩:=hk
    have hp:=List.find?_some hf
    simp only [decide_eq_true_eq] at hp
    obtain ⟨j,hj,hje⟩:=List.getElem_of_mem (List.mem_of_find?_eq_some hf)
    obtain ⟨xs,n,_,_,_,hlen,hat⟩:=DataW.trod_struct hu h
    have hq:=hat j f (by rw [← hje];simp)
    rw [List.getElem?_eq_getElem (by simp at hj;omega)] at hq
    obtain ⟨c,hc,hk'⟩:=ih hq hk
    refine ⟨c,?_,hk'⟩
    have:=piece hc
    rw [show f.offset+(i-f.offset)=i by omega] at this
    exact this
   ·cases hk
def rE (P:Program):Nat→TypeId→Bool
 | 0,_=>false
 | d+1,T=>match P.underlying T with
   | some (.int _)|some .string=>true
   | some (.array _ e)=>rE P d e
   | some (.struct fs)=>fs.toList.all fun f=>rE P d f.type
   | _=>false
theorem uL {α β:Type} {f g:α→Option (β×List MemPlace)}:∀ {l:List α} {xs:List (β×List MemPlace)},l.mapM f=some xs→(∀ a∈l,∀ x,f a=some x→g a=some x∧x.2 = [])→l.mapM g=some xs∧xs.flatMap (·.2) = []
 | [],xs,h,_=>by simp at h;subst h;exact ⟨rfl,rfl⟩
 | a::l,xs,h,hs=>by
   rw [List.mapM_cons] at h
   simp only [bind,Option.bind_eq_some_iff,pure,Option.some.injEq] at h
   obtain ⟨y,hy,ys,hys,rfl⟩:=h
   obtain ⟨g1,g2⟩:=hs a (by simp) y hy
   obtain ⟨i1,i2⟩:=uL hys fun b hb=>hs b (by simp [hb])
   exact ⟨by rw [List.mapM_cons,g1,i1];rfl,by simp [g2,i2]⟩
def SameRead (enc:TypeId×Value→H) (P:Program) (w:World) (base:Nat) (spare:Nat→Bool) (held:Bool) (w' : World) (base' : Nat) (spare' : Nat→Bool) (d:Nat):Prop :=
 ∀ (T:TypeId) (fuel:Nat) (cs:List Value) (x:DataW H×List MemPlace),rE P d T=true→DataW.trod enc P w base spare held fuel T cs=some x→DataW.trod enc P w' base' spare' held fuel T cs=some x∧x.2 = []
theorem trod_plain {w' : World} {base' : Nat} {spare' : Nat→Bool}:∀ d:Nat,SameRead enc P w base spare held w' base' spare' d:=by
 intro d
 induction d with
 | zero=>intro T fuel cs x hp;cases hp
 | succ d ih =>
   intro T fuel cs x hp h
   cases fuel with
   | zero=>cases h
   | succ m =>
     unfold rE at hp
     unfold DataW.trod at h ⊢
     split at hp
     ·rename_i hu
      rw [hu] at h ⊢
      split at h <;> simp_all <;> (obtain ⟨_,h⟩:=h;rw [← h])
     ·rename_i hu
      rw [hu] at h ⊢
      split at h <;> simp_all <;> (obtain ⟨_,h⟩:=h;rw [← h])
     ·rename_i hu
      rw [hu] at h ⊢
      split at h <;> simp_all
      obtain ⟨hl,xs,hxs,rfl⟩:=h
      obtain ⟨g1,g2⟩:=uL hxs fun a _ x hx=>ih _ _ _ _ hp hx
      exact ⟨⟨xs,g1,rfl⟩,g2⟩
     ·rename_i hu
      rw [hu] at h ⊢
      split at h <;> simp_all
      obtain ⟨hl,xs,hxs,rfl⟩:=h
      obtain ⟨g1,g2⟩:=uL hxs fun a ha x hx=>ih _ _ _ _ (by obtain ⟨j,hj,rfl⟩:=List.getElem_of_mem ha;simpa using hp j (by simpa using hj)) hx
      exact ⟨⟨xs,g1,rfl⟩,g2⟩
     ·cases hp
theorem yQ {w' : World} {base' : Nat} {spare' : Nat→Bool} {T:TypeId} {v:Value} {D:DataW H} {p:List MemPlace} (hp:rE P 10 T=true) (h:DataW.Trod enc P w base spare held T v D p):p = []∧DataW.Trod enc P w' base' spare' held T v D []:=by
 obtain ⟨fuel,hf⟩:=h
 obtain ⟨h1,h2⟩:=trod_plain (w':=w') (base':=base') (spare':=spare') 10 _ _ _ _ hp hf
 simp only at h2
 subst h2
 exact ⟨rfl,fuel,h1⟩
theorem agg_of {r:Reach} {b0 n:Nat} {T:TypeId} {v:Value} (hu:(match P.underlying T with|some (.struct _)|some (.array _ _)=>true|_=>false)=true) (hC:P.cellsOf T=n) (hv:Value.okWide P w r b0 T v):∃ cs:Array Value,v = .agg cs∧cs.size=n:=by
 split at hu
 ·rename_i hs
  simp only [Value.okWide,hs] at hv
  obtain ⟨cs,h1,h2,_⟩:=hv
  exact ⟨cs,h1,h2.trans hC⟩
 ·rename_i hs
  simp only [Value.okWide,hs] at hv
  obtain ⟨cs,h1,h2,_⟩:=hv
  exact ⟨cs,h1,h2.trans hC⟩
 ·cases hu
theorem nF {T:TypeId} {cs:Array Value} {D:DataW H} {p:List MemPlace} {k:Bool} (i:Nat) (h:DataW.Trod enc P w base spare held T (.agg cs) D p) (hk:iO P 10 T i=some k):∃ c,cs[i]?=some c∧isKind k c:=by
 obtain ⟨fuel,hf⟩:=h
 obtain ⟨c,h1,h2⟩:=trod_kind 10 hf hk
 exact ⟨c,by simpa [Value.cells] using h1,h2⟩
theorem open_vec {r:Reach} {b0:Nat} {T:TypeId} {v:Value} {D:DataW H} {p:List MemPlace} (hu:(match P.underlying T with|some (.struct _)|some (.array _ _)=>true|_=>false)=true) (hC:P.cellsOf T=3)
 (hk:(iO P 10 T 0,iO P 10 T 1,iO P 10 T 2)=(some true,some true,some true)) (hv:Value.okWide P w r b0 T v) (h:DataW.Trod enc P w base spare held T v D p):∃ a b c:ByteArray,v = .agg #[.string a,.string b,.string c]∧a.size≤maxLen∧b.size≤maxLen∧c.size≤maxLen:=by
 simp only [Prod.mk.injEq] at hk
 obtain ⟨cs,rfl,hs⟩:=agg_of hu hC hv
 obtain ⟨c0,c1,c2,rfl⟩:∃ c0 c1 c2,cs = #[c0,c1,c2]:=by
  obtain ⟨l⟩:=cs
  match l,hs with
  | [c0,c1,c2],_=>exact ⟨c0,c1,c2,rfl⟩
 obtain ⟨_,e0,a,rfl,ha⟩:=nF 0 h hk.1
 obtain ⟨_,e1,b,rfl,hb⟩:=nF 1 h hk.2.1
 obtain ⟨_,e2,c,rfl,hc⟩:=nF 2 h hk.2.2
 simp at e0 e1 e2
 subst e0 e1 e2
 exact ⟨a,b,c,rfl,ha,hb,hc⟩
theorem open_half {r:Reach} {b0:Nat} {T:TypeId} {v:Value} {D:DataW H} {p:List MemPlace} (hu:(match P.underlying T with|some (.struct _)|some (.array _ _)=>true|_=>false)=true) (hC:P.cellsOf T=4)
 (hk:(iO P 10 T 0,iO P 10 T 1,iO P 10 T 2,iO P 10 T 3)=(some false,some false,some false,some true)) (hv:Value.okWide P w r b0 T v) (h:DataW.Trod enc P w base spare held T v D p):∃ (a b c:Int) (s:ByteArray),v = .agg #[.int .i64 a,.int .i64 b,.int .i64 c,.string s]∧s.size≤maxLen:=by
 simp only [Prod.mk.injEq] at hk
 obtain ⟨cs,rfl,hs⟩:=agg_of hu hC hv
 obtain ⟨c0,c1,c2,c3,rfl⟩:∃ c0 c1 c2 c3,cs = #[c0,c1,c2,c3]:=by
  obtain ⟨l⟩:=cs
  match l,hs with
  | [c0,c1,c2,c3],_=>exact ⟨c0,c1,c2,c3,rfl⟩
 obtain ⟨_,e0,a,rfl,ha⟩:=nF 0 h hk.1
 obtain ⟨_,e1,b,rfl,hb⟩:=nF 1 h hk.2.1
 obtain ⟨_,e2,c,rfl,hc⟩:=nF 2 h hk.2.2.1
 obtain ⟨_,e3,d,rfl,hd⟩:=nF 3 h hk.2.2.2
 simp at e0 e1 e2 e3
 subst e0 e1 e2 e3
 exact ⟨a,b,c,d,rfl,hd⟩
end
end Ab
end Go.Proofs.YtiegbjjpjnpgpaaGreatDoor
