/- Parts of the proof, joined. -/
import Derived.Test.YtbhcckhbbclemaaGreatDoorJ21
import Derived.Test.YtbhcckhbbclemaaGreatDoorJ15
import Derived.Test.YtbhcckhbbclemaaGreatDoorShelf
set_option linter.unusedSimpArgs false
set_option linter.unusedVariables false
namespace Go.Proofs.YtbhcckhbbclemaaGreatDoor.Ab
open Go.RowKit Go.Proofs.YtbhcckhbbclemaaGreatDoor
abbrev fnv (F:FuncId):AV Kn := .fv (.sc (.lit (.func (.func F) #[] #[])))
abbrev Enters (F:FuncId):Prop := ∀ (args:Array Value) (w:World),(callFunc F args).run Tryz.prog w = .ok (.enter F args) w
theorem joinF {F:FuncId} {a1 a2 a3 b1 b2 b3 r1 r2 r3:Rat} (hF:Enters F) (h1:Fits Tryz.prog F [num a1,num b1] (num r1)) (h2:Fits Tryz.prog F [num a2,num b2] (num r2)) (h3:Fits Tryz.prog F [num a3,num b3] (num r3)) :
 Fits Tryz.prog 83 [fnv F,vc a1 a2 a3,vc b1 b2 b3] (vc r1 r2 r3):=by
 refine kgo Tryz.func83 (by kernel_rfl) fun w00=>?_
 refine kcall F [num a1,num b1] (h1) (by kernel_rfl) (hF) ?_
 refine kcall F [num a2,num b2] (h2) (by kernel_rfl) (hF) ?_
 refine kcall F [num a3,num b3] (h3) (by kernel_rfl) (hF) ?_
 exact kret Tryz.func83 (by kernel_rfl)
abbrev cloN (F:FuncId) (c:Rat):AV Kn := .fv (.clo F [(true,[nb c])] [])
theorem eachC {F:FuncId} {c a1 a2 a3 r1 r2 r3:Rat} (hF:Enters F) (h1:Fits Tryz.prog F [num c,num a1] (num r1)) (h2:Fits Tryz.prog F [num c,num a2] (num r2)) (h3:Fits Tryz.prog F [num c,num a3] (num r3)) :
 Fits Tryz.prog 147 [cloN F c,vc a1 a2 a3] (vc r1 r2 r3):=by
 refine kgo Tryz.func147 (by kernel_rfl) fun w00=>?_
 refine kcall F [num c,num a1] (h1) (by kernel_rfl) (hF) ?_
 refine kcall F [num c,num a2] (h2) (by kernel_rfl) (hF) ?_
 refine kcall F [num c,num a3] (h3) (by kernel_rfl) (hF) ?_
 exact kret Tryz.func147 (by kernel_rfl)
abbrev iv (a b c:Int):AV Kn := .fv (.ag [.lit (.int .i64 a),.lit (.int .i64 b),.lit (.int .i64 c)])
theorem integerF {n:Int} (hn:-9223372036854775808≤n∧n≤9223372036854775807):Fits Tryz.prog 81 [it n] (num (n:Rat)):=by
 intro β w vs hv
 obtain ⟨v,rfl,h1⟩:=args1 hv
 rw [hold_lit h1]
 exact (integer_any n w hn.1 hn.2).mono fun e w' ⟨u,e,h1,h2⟩=>⟨u,e,h2,num_holds.2 h1⟩
theorem eachI {F:FuncId} {a1 a2 a3:Int} {r1 r2 r3:Rat} (hF:Enters F) (h1:Fits Tryz.prog F [it a1] (num r1)) (h2:Fits Tryz.prog F [it a2] (num r2)) (h3:Fits Tryz.prog F [it a3] (num r3)) :
 Fits Tryz.prog 100 [fnv F,iv a1 a2 a3] (vc r1 r2 r3):=by
 refine kgo Tryz.func100 (by kernel_rfl) fun w00=>?_
 refine kcall F [it a1] (h1) (by kernel_rfl) (hF) ?_
 refine kcall F [it a2] (h2) (by kernel_rfl) (hF) ?_
 refine kcall F [it a3] (h3) (by kernel_rfl) (hF) ?_
 exact kret Tryz.func100 (by kernel_rfl)
abbrev M64 (n:Int):Prop := -9223372036854775808≤n∧n≤9223372036854775807
theorem integersF {a b c:Int} (ha:M64 a) (hb:M64 b) (hc:M64 c):Fits Tryz.prog 36 [iv a b c] (vc a b c):=by
 refine kgo Tryz.func36 (by kernel_rfl) fun w00=>?_
 refine kcall 100 [fnv 81,iv a b c] (eachI Tryz.call81 (integerF ha) (integerF hb) (integerF hc)) (by kernel_rfl) Tryz.call100 ?_
 exact kret Tryz.func36 (by kernel_rfl)
theorem Fits.args {P:Program} {f:FuncId} {l l' : List (AV Kn)} {x:AV Kn} (h:Fits P f l x) (hl:∀ β vs w,holdsA β l' vs w→holdsA β l vs w):Fits P f l' x:=fun β w vs hv=>h β w vs (hl β vs w hv)
abbrev zeroN:AV Kn := .fv (.ag [.lit (.int .i64 0),.lit (.int .i64 0),.lit (.pointer none)])
theorem zero_num {β:List Nat} {v:Value} {w:World} (h:zeroN.holds β v w):(num 0).holds β v w:=by
 obtain ⟨cs,rfl,a,r,rfl,⟨rfl,_⟩,b,r2,rfl,⟨rfl,_⟩,c,r3,rfl,⟨rfl,_⟩,e⟩:=h
 rw [show r3 = [] from e]
 exact num_holds.2 (.inl ⟨sm_zero,rfl⟩)
section
variable {a1 a2 a3 b1 b2 b3 c:Rat}
theorem vplusF (h1:Lf 36 a1) (h2:Lf 36 a2) (h3:Lf 36 a3) (k1:Lf 36 b1) (k2:Lf 36 b2) (k3:Lf 36 b3):Fits Tryz.prog 78 [vc a1 a2 a3,vc b1 b2 b3] (vc (a1+b1) (a2+b2) (a3+b3)):=by
 refine kgo Tryz.func78 (by kernel_rfl) fun w00=>?_
 refine kcall 83 [fnv 85,vc a1 a2 a3,vc b1 b2 b3] (joinF Tryz.call85 (plusF h1 k1) (plusF h2 k2) (plusF h3 k3)) (by kernel_rfl) Tryz.call83 ?_
 exact kret Tryz.func78 (by kernel_rfl)
theorem vminusF (h1:Lf 36 a1) (h2:Lf 36 a2) (h3:Lf 36 a3) (k1:Lf 36 b1) (k2:Lf 36 b2) (k3:Lf 36 b3):Fits Tryz.prog 75 [vc a1 a2 a3,vc b1 b2 b3] (vc (a1-b1) (a2-b2) (a3-b3)):=by
 refine kgo Tryz.func75 (by kernel_rfl) fun w00=>?_
 refine kcall 83 [fnv 99,vc a1 a2 a3,vc b1 b2 b3] (joinF Tryz.call99 (minusF h1 k1) (minusF h2 k2) (minusF h3 k3)) (by kernel_rfl) Tryz.call83 ?_
 exact kret Tryz.func75 (by kernel_rfl)
theorem scaledF (hc:Lf 38 c) (h1:Lf 38 a1) (h2:Lf 38 a2) (h3:Lf 38 a3):Fits Tryz.prog 80 [vc a1 a2 a3,num c] (vc (c*a1) (c*a2) (c*a3)):=by
 refine kgo Tryz.func80 (by kernel_rfl) fun w00=>?_
 refine kcall 147 [cloN 98 c,vc a1 a2 a3] (eachC Tryz.call98 (timesF hc h1) (timesF hc h2) (timesF hc h3)) (by kernel_rfl) Tryz.call147 ?_
 exact kret Tryz.func80 (by kernel_rfl)
theorem totalF {T:TypeId} (h1:Lf 32 a1) (h2:Lf 32 a2) (h3:Lf 32 a3):Fits Tryz.prog 140 [.fv (.nsl 3 T [nb a1,nb a2,nb a3])] (num (a1+a2+a3)):=by
 refine kgoS Tryz.func140 (by kernel_rfl) fun w00=>?_
 refine kcall 85 [zeroN,num a1] (Fits.args (plusF (p:=0) (q:=a1) (Lf.zero _) (h1.mono (by decide))) (fun β vs w ⟨v,r,e,k1,k2⟩=>⟨v,r,e,zero_num k1,k2⟩)) (by kernel_rfl) Tryz.call85 ?_
 refine kcall 85 [num (0+a1),num a2] (plusF ((Lf.addn (n:=34) (Lf.zero _) h1 (by decide)).mono (by decide)) (h2.mono (by decide))) (by kernel_rfl) Tryz.call85 ?_
 refine kcall 85 [num (0+a1+a2),num a3] (plusF (Lf.addn (n:=36) (Lf.addn (n:=34) (Lf.zero _) h1 (by decide)) (h2.mono (by decide)) (by decide)) (h3.mono (by decide))) (by kernel_rfl) Tryz.call85 ?_
 rw [show a1+a2+a3=0+a1+a2+a3 by rw [Rat.zero_add]]
 exact kret Tryz.func140 (by kernel_rfl)
theorem crossF (h1:Lf 35 a1) (h2:Lf 35 a2) (h3:Lf 35 a3) (k1:Lf 35 b1) (k2:Lf 35 b2) (k3:Lf 35 b3) :
 Fits Tryz.prog 68 [vc a1 a2 a3,vc b1 b2 b3] (vc (a2*b3-a3*b2) (a3*b1-a1*b3) (a1*b2-a2*b1)):=by
 refine kgo Tryz.func68 (by kernel_rfl) fun w00=>?_
 refine kcall 98 [num a2,num b3] (timesF (h2.mono (by decide)) (k3.mono (by decide))) (by kernel_rfl) Tryz.call98 ?_
 refine kcall 98 [num a3,num b2] (timesF (h3.mono (by decide)) (k2.mono (by decide))) (by kernel_rfl) Tryz.call98 ?_
 refine kcall 99 [num (a2*b3),num (a3*b2)] (minusF (h2.mul k3) (h3.mul k2)) (by kernel_rfl) Tryz.call99 ?_
 refine kcall 98 [num a3,num b1] (timesF (h3.mono (by decide)) (k1.mono (by decide))) (by kernel_rfl) Tryz.call98 ?_
 refine kcall 98 [num a1,num b3] (timesF (h1.mono (by decide)) (k3.mono (by decide))) (by kernel_rfl) Tryz.call98 ?_
 refine kcall 99 [num (a3*b1),num (a1*b3)] (minusF (h3.mul k1) (h1.mul k3)) (by kernel_rfl) Tryz.call99 ?_
 refine kcall 98 [num a1,num b2] (timesF (h1.mono (by decide)) (k2.mono (by decide))) (by kernel_rfl) Tryz.call98 ?_
 refine kcall 98 [num a2,num b1] (timesF (h2.mono (by decide)) (k1.mono (by decide))) (by kernel_rfl) Tryz.call98 ?_
 refine kcall 99 [num (a1*b2),num (a2*b1)] (minusF (h1.mul k2) (h2.mul k1)) (by kernel_rfl) Tryz.call99 ?_
 exact kret Tryz.func68 (by kernel_rfl)
theorem dotF (h1:Lf 31 a1) (h2:Lf 31 a2) (h3:Lf 31 a3) (k1:Lf 31 b1) (k2:Lf 31 b2) (k3:Lf 31 b3):Fits Tryz.prog 69 [vc a1 a2 a3,vc b1 b2 b3] (num (a1*b1+a2*b2+a3*b3)):=by
 refine kgo Tryz.func69 (by kernel_rfl) fun w00=>?_
 refine kcall 83 [fnv 98,vc a1 a2 a3,vc b1 b2 b3] (joinF Tryz.call98 (timesF (h1.mono (by decide)) (k1.mono (by decide))) (timesF (h2.mono (by decide)) (k2.mono (by decide))) (timesF (h3.mono (by decide)) (k3.mono (by decide)))) (by kernel_rfl) Tryz.call83 ?_
 refine kcallS 140 3 3 68 [nb (a1*b1),nb (a2*b2),nb (a3*b3)] (totalF (h1.mul k1) (h2.mul k2) (h3.mul k3)) (by kernel_rfl) Tryz.call140 ?_
 exact kret Tryz.func69 (by kernel_rfl)
theorem squareF (h1:Lf 31 a1) (h2:Lf 31 a2) (h3:Lf 31 a3):Fits Tryz.prog 71 [vc a1 a2 a3] (num (a1*a1+a2*a2+a3*a3)):=by
 refine kgo Tryz.func71 (by kernel_rfl) fun w00=>?_
 refine kcall 69 [vc a1 a2 a3,vc a1 a2 a3] (dotF h1 h2 h3 h1 h2 h3) (by kernel_rfl) Tryz.call69 ?_
 exact kret Tryz.func71 (by kernel_rfl)
theorem vIsZeroF {z:Bool} (h:(decide (a1=0)&&decide (a2=0)&&decide (a3=0))=z):Fits Tryz.prog 33 [vc a1 a2 a3] (bl z):=by
 intro β w vs hv
 obtain ⟨v,rfl,h1⟩:=args1 hv
 refine (isZero_vc v a1 a2 a3 w (vc_holds.1 h1)).mono fun e w' ⟨e1,h2⟩=>⟨_,e1,h2,?_⟩
 rw [h]
 exact ⟨rfl,rfl⟩
end
end Go.Proofs.YtbhcckhbbclemaaGreatDoor.Ab
namespace Go.Proofs.YtbhcckhbbclemaaGreatDoor.Ab
open Go.RowKit Go.Proofs.YtbhcckhbbclemaaGreatDoor Pl
def csNt (a:Nat):CS Kn where
 size:=1
 cold:=true
 pred cs w := ∃ v,cs = [v]∧Nt w v a
 stable:=fun cs w w' ⟨v,e,h⟩ hx=>⟨v,e,Nt.ext (K:=Kn) (fun _=>rfl) h hx⟩
 len:=fun cs w ⟨v,e,h⟩=>by rw [e];rfl
 one:=fun cs w ⟨v,e,h⟩=>by
  obtain ⟨A,n,c,rfl⟩:=Nt.form h
  rw [e]
  intro c hc
  rw [List.mem_singleton] at hc
  subst hc
  rfl
 iscold:=fun _ cs w ⟨v,e,h⟩=>by
  obtain ⟨A,n,c,rfl⟩:=Nt.form h
  rw [e]
  intro c hc
  rw [List.mem_singleton] at hc
  subst hc
  rfl
abbrev nts (a:Nat):Seg Kn := .sp (csNt a)
abbrev nt (a:Nat):AV Kn := .fv (.sc (nts a))
theorem nt_holds {β:List Nat} {v:Value} {w:World} {a:Nat}:(nt a).holds β v w↔Nt w v a :=
 ⟨fun ⟨u,e,h⟩=>by injection e with e;rw [e];exact h,fun h=>⟨v,rfl,h⟩⟩
abbrev frv (neg:Bool) (n d:Nat):AV Kn := .fv (.ag [.lit (.bool neg),nts n,nts d])
abbrev fra (q:Rat):AV Kn:=frv (decide (q.num<0)) q.num.natAbs q.den
theorem frv_holds {β:List Nat} {v:Value} {w:World} {neg:Bool} {n d:Nat}:(frv neg n d).holds β v w↔∃ s1 s2,v = .agg #[.bool neg,s1,s2]∧Nt w s1 n∧Nt w s2 d:=by
 constructor
 ·rintro ⟨cs,rfl,a,r,rfl,⟨rfl,_⟩,b,r2,rfl,⟨s1,rfl,h1⟩,c,r3,rfl,⟨s2,rfl,h2⟩,e⟩
  rw [show r3 = [] from e]
  exact ⟨s1,s2,rfl,h1,h2⟩
 ·rintro ⟨s1,s2,rfl,h1,h2⟩
  exact ⟨[.bool neg,s1,s2],rfl,[.bool neg],_,rfl,⟨rfl,rfl⟩,[s1],_,rfl,⟨s1,rfl,h1⟩,[s2],[],rfl,⟨s2,rfl,h2⟩,rfl⟩
theorem fra_holds {β:List Nat} {v:Value} {w:World} {q:Rat}:(fra q).holds β v w↔Fr w v q:=frv_holds
theorem numFractionF {q:Rat}:Fits Tryz.prog 150 [num q] (fra q):=by
 intro β w vs hv
 obtain ⟨v,rfl,h1⟩:=args1 hv
 exact (numFraction_any v q w (num_holds.1 h1)).mono fun e w' ⟨u,e,h1,h2⟩=>⟨u,e,h2,fra_holds.2 h1⟩
theorem numberF {q:Rat}:Fits Tryz.prog 65 [fra q] (num q):=by
 intro β w vs hv
 obtain ⟨v,rfl,h1⟩:=args1 hv
 exact (number_any v q w (fra_holds.1 h1)).mono fun e w' ⟨u,e,h1,h2⟩=>⟨u,e,h2,num_holds.2 h1⟩
theorem gcdF {a b:Nat} (ha:Lv 40 a) (hb:Lv 40 b) (h0:0<a∨0<b):Fits Tryz.prog 96 [nt a,nt b] (nt (Nat.gcd a b)):=by
 intro β w vs hv
 obtain ⟨v,u,rfl,h1,h2⟩:=args2 hv
 exact (gcd_any v u a b w (nt_holds.1 h1) (nt_holds.1 h2) ha hb h0).mono fun e w' ⟨u,e,h1,h2⟩=>⟨u,e,h2,nt_holds.2 h1⟩
theorem ntimesF {a b:Nat} (ha:Lv 40 a) (hb:Lv 40 b):Fits Tryz.prog 132 [nt a,nt b] (nt (a*b)):=by
 intro β w vs hv
 obtain ⟨v,u,rfl,h1,h2⟩:=args2 hv
 exact (nt_times (nt_holds.1 h1) (nt_holds.1 h2) ha hb).mono fun e w' ⟨u,e,h1,h2⟩=>⟨u,e,h2,nt_holds.2 h1⟩
theorem ndivideF {a b:Nat} (ha:Lv 40 a) (hb:0<b):Fits Tryz.prog 130 [nt a,nt b] (.tup [.sc (nts (a/b)),.sc (nts (a%b))]):=by
 intro β w vs hv
 obtain ⟨v,u,rfl,h1,h2⟩:=args2 hv
 refine (nt_divide (nt_holds.1 h1) (nt_holds.1 h2) ha hb).mono fun e w' ⟨u,u',e,h1,h2,h3⟩=>⟨_,e,h3,?_⟩
 exact ⟨[u,u'],rfl,u,_,rfl,⟨u,rfl,h1⟩,u',_,rfl,⟨u',rfl,h2⟩,rfl⟩
theorem naturalOfF {a:Nat} (ha:a<W64):Fits Tryz.prog 133 [.fv (.sc (.lit (.int .u64 (a:Int))))] (nt a):=by
 intro β w vs hv
 obtain ⟨v,rfl,h1⟩:=args1 hv
 rw [hold_lit h1]
 exact (naturalOf_any a ha w).mono fun e w' ⟨u,e,h1,h2⟩=>⟨u,e,h2,nt_holds.2 h1⟩
theorem ratioF {neg:Bool} {n d:Nat} (hn:Lv 40 n) (hd:Lv 40 d) (hd0:0<d):Fits Tryz.prog 63 [bl neg,nt n,nt d] (fra (mkRat (sg neg n) d)):=by
 rintro β w vs ⟨v,r,rfl,h0,hv⟩
 obtain ⟨v',u,rfl,h1,h2⟩:=args2 hv
 rw [hold_lit h0]
 exact (ratio_any neg n d v' u w (nt_holds.1 h1) (nt_holds.1 h2) hn hd hd0).mono fun e w' ⟨u,e,h1,h2⟩=>⟨u,e,h2,fra_holds.2 h1⟩
abbrev hf (a b c d:Rat):AV Kn := .fv (.ag [nb a,nb b,nb c,nb d])
abbrev frm (o1 o2 o3 x1 x2 x3 y1 y2 y3 z1 z2 z3:Rat):AV Kn := .fv (.ag [nb o1,nb o2,nb o3,nb x1,nb x2,nb x3,nb y1,nb y2,nb y3,nb z1,nb z2,nb z3])
abbrev mt (x1 x2 x3 y1 y2 y3 z1 z2 z3:Rat):AV Kn := .fv (.ag [nb x1,nb x2,nb x3,nb y1,nb y2,nb y3,nb z1,nb z2,nb z3])
abbrev dt (a1 a2 a3 b1 b2 b3:Rat):Rat:=a1*b1+a2*b2+a3*b3
theorem lf_dt {n:Nat} {a1 a2 a3 b1 b2 b3:Rat} (h1:Lf (n-5) a1) (h2:Lf (n-5) a2) (h3:Lf (n-5) a3) (k1:Lf (n-5) b1) (k2:Lf (n-5) b2) (k3:Lf (n-5) b3) (hn:5≤n):Lf n (dt a1 a2 a3 b1 b2 b3) :=
 Lf.addn (Lf.addn ((h1.mul k1).mono (by omega)) ((h2.mul k2).mono (by omega)) (by omega)) ((h3.mul k3).mono (by omega)) (by omega)
section
variable {n1 n2 n3 d p1 p2 p3:Rat}
theorem excessF (h1:Lf 31 n1) (h2:Lf 31 n2) (h3:Lf 31 n3) (hd:Lf 36 d) (k1:Lf 31 p1) (k2:Lf 31 p2) (k3:Lf 31 p3):Fits Tryz.prog 86 [hf n1 n2 n3 d,vc p1 p2 p3] (num (dt n1 n2 n3 p1 p2 p3-d)):=by
 refine kgo Tryz.func86 (by kernel_rfl) fun w00=>?_
 refine kcall 69 [vc n1 n2 n3,vc p1 p2 p3] (dotF h1 h2 h3 k1 k2 k3) (by kernel_rfl) Tryz.call69 ?_
 refine kcall 99 [num (dt n1 n2 n3 p1 p2 p3),num d] (minusF (lf_dt h1 h2 h3 k1 k2 k3 (by decide)) hd) (by kernel_rfl) Tryz.call99 ?_
 exact kret Tryz.func86 (by kernel_rfl)
abbrev wayR (n1 n2 n3 d p1 p2 p3:Rat):Rat := -(dt n1 n2 n3 p1 p2 p3-d)/dt n1 n2 n3 n1 n2 n3
theorem lf_way {n:Nat} (h1:Lf (n-11) n1) (h2:Lf (n-11) n2) (h3:Lf (n-11) n3) (hd:Lf (n-6) d) (k1:Lf (n-11) p1) (k2:Lf (n-11) p2) (k3:Lf (n-11) p3) (hn:11≤n):Lf n (wayR n1 n2 n3 d p1 p2 p3):=by
 rw [wayR,Rat.div_def]
 have e1:Lf (n-6) (dt n1 n2 n3 p1 p2 p3):=lf_dt (h1.mono (by omega)) (h2.mono (by omega)) (h3.mono (by omega)) (k1.mono (by omega)) (k2.mono (by omega)) (k3.mono (by omega)) (by omega)
 have e2:Lf (n-6) (dt n1 n2 n3 n1 n2 n3):=lf_dt (h1.mono (by omega)) (h2.mono (by omega)) (h3.mono (by omega)) (h1.mono (by omega)) (h2.mono (by omega)) (h3.mono (by omega)) (by omega)
 exact Lf.muln ((Lf.subn (n:=n-4) (e1.mono (by omega)) (hd.mono (by omega)) (by omega)).neg.mono (by omega)) ((Lf.inv e2).mono (by omega)) (by omega)
theorem toPlaneF (h1:Lf 25 n1) (h2:Lf 25 n2) (h3:Lf 25 n3) (hd:Lf 30 d) (k1:Lf 25 p1) (k2:Lf 25 p2) (k3:Lf 25 p3) (h0:dt n1 n2 n3 n1 n2 n3≠0) :
 Fits Tryz.prog 79 [hf n1 n2 n3 d,vc p1 p2 p3] (vc (wayR n1 n2 n3 d p1 p2 p3*n1) (wayR n1 n2 n3 d p1 p2 p3*n2) (wayR n1 n2 n3 d p1 p2 p3*n3)):=by
 have hE:Lf 32 (dt n1 n2 n3 p1 p2 p3-d):=Lf.subn (lf_dt h1 h2 h3 k1 k2 k3 (by decide)) (hd.mono (by decide)) (by decide)
 refine kgo Tryz.func79 (by kernel_rfl) fun w00=>?_
 refine kcall 86 [hf n1 n2 n3 d,vc p1 p2 p3] (excessF (h1.mono (by decide)) (h2.mono (by decide)) (h3.mono (by decide)) (hd.mono (by decide)) (k1.mono (by decide)) (k2.mono (by decide)) (k3.mono (by decide))) (by kernel_rfl) Tryz.call86 ?_
 refine kcall 146 [num (dt n1 n2 n3 p1 p2 p3-d)] (negatedF) (by kernel_rfl) Tryz.call146 ?_
 refine kcall 71 [vc n1 n2 n3] (squareF (h1.mono (by decide)) (h2.mono (by decide)) (h3.mono (by decide))) (by kernel_rfl) Tryz.call71 ?_
 refine kcall 70 [num (-(dt n1 n2 n3 p1 p2 p3-d)),num (dt n1 n2 n3 n1 n2 n3)] (overF (hE.neg.mono (by decide)) (lf_dt (h1.mono (by decide)) (h2.mono (by decide)) (h3.mono (by decide)) (h1.mono (by decide)) (h2.mono (by decide)) (h3.mono (by decide)) (by decide)) h0) (by kernel_rfl) Tryz.call70 ?_
 refine kcall 80 [vc n1 n2 n3,num (wayR n1 n2 n3 d p1 p2 p3)] (scaledF (lf_way (n:=38) (h1.mono (by decide)) (h2.mono (by decide)) (h3.mono (by decide)) (hd.mono (by decide)) (k1.mono (by decide)) (k2.mono (by decide)) (k3.mono (by decide)) (by decide)) (h1.mono (by decide)) (h2.mono (by decide)) (h3.mono (by decide))) (by kernel_rfl) Tryz.call80 ?_
 exact kret Tryz.func79 (by kernel_rfl)
end
abbrev cloV (F:FuncId) (a b c:Rat):AV Kn := .fv (.clo F [(true,[nb a,nb b,nb c])] [])
section
variable {x1 x2 x3 y1 y2 y3 z1 z2 z3 r1 r2 r3:Rat} {F:FuncId}
theorem eachVN (hF:Enters F) (h1:Fits Tryz.prog F [vc x1 x2 x3] (num r1)) (h2:Fits Tryz.prog F [vc y1 y2 y3] (num r2)) (h3:Fits Tryz.prog F [vc z1 z2 z3] (num r3)):Fits Tryz.prog 108 [fnv F,mt x1 x2 x3 y1 y2 y3 z1 z2 z3] (vc r1 r2 r3):=by
 refine kgo Tryz.func108 (by kernel_rfl) fun w00=>?_
 refine kcall F [vc x1 x2 x3] (h1) (by kernel_rfl) (hF) ?_
 refine kcall F [vc y1 y2 y3] (h2) (by kernel_rfl) (hF) ?_
 refine kcall F [vc z1 z2 z3] (h3) (by kernel_rfl) (hF) ?_
 exact kret Tryz.func108 (by kernel_rfl)
theorem eachVNc {a b c:Rat} (hF:Enters F) (h1:Fits Tryz.prog F [vc a b c,vc x1 x2 x3] (num r1)) (h2:Fits Tryz.prog F [vc a b c,vc y1 y2 y3] (num r2)) (h3:Fits Tryz.prog F [vc a b c,vc z1 z2 z3] (num r3)):Fits Tryz.prog 108 [cloV F a b c,mt x1 x2 x3 y1 y2 y3 z1 z2 z3] (vc r1 r2 r3):=by
 refine kgo Tryz.func108 (by kernel_rfl) fun w00=>?_
 refine kcall F [vc a b c,vc x1 x2 x3] (h1) (by kernel_rfl) (hF) ?_
 refine kcall F [vc a b c,vc y1 y2 y3] (h2) (by kernel_rfl) (hF) ?_
 refine kcall F [vc a b c,vc z1 z2 z3] (h3) (by kernel_rfl) (hF) ?_
 exact kret Tryz.func108 (by kernel_rfl)
theorem eachVVc {s1 s2 s3 t1 t2 t3 u1 u2 u3 o1 o2 o3 a1 a2 a3 b1 b2 b3 c1 c2 c3:Rat} (hF:Enters F) (h1:Fits Tryz.prog F [frm o1 o2 o3 a1 a2 a3 b1 b2 b3 c1 c2 c3,vc x1 x2 x3] (vc s1 s2 s3)) (h2:Fits Tryz.prog F [frm o1 o2 o3 a1 a2 a3 b1 b2 b3 c1 c2 c3,vc y1 y2 y3] (vc t1 t2 t3)) (h3:Fits Tryz.prog F [frm o1 o2 o3 a1 a2 a3 b1 b2 b3 c1 c2 c3,vc z1 z2 z3] (vc u1 u2 u3)):Fits Tryz.prog 37 [.fv (.clo F [(true,[nb o1,nb o2,nb o3,nb a1,nb a2,nb a3,nb b1,nb b2,nb b3,nb c1,nb c2,nb c3])] []),mt x1 x2 x3 y1 y2 y3 z1 z2 z3] (mt s1 s2 s3 t1 t2 t3 u1 u2 u3):=by
 refine kgo Tryz.func37 (by kernel_rfl) fun w00=>?_
 refine kcall F [frm o1 o2 o3 a1 a2 a3 b1 b2 b3 c1 c2 c3,vc x1 x2 x3] (h1) (by kernel_rfl) (hF) ?_
 refine kcall F [frm o1 o2 o3 a1 a2 a3 b1 b2 b3 c1 c2 c3,vc y1 y2 y3] (h2) (by kernel_rfl) (hF) ?_
 refine kcall F [frm o1 o2 o3 a1 a2 a3 b1 b2 b3 c1 c2 c3,vc z1 z2 z3] (h3) (by kernel_rfl) (hF) ?_
 exact kret Tryz.func37 (by kernel_rfl)
theorem eachIV {s1 s2 s3 t1 t2 t3 u1 u2 u3:Rat} (hF:Enters F) (h1:Fits Tryz.prog F [iv 1 0 0] (vc s1 s2 s3)) (h2:Fits Tryz.prog F [iv 0 1 0] (vc t1 t2 t3)) (h3:Fits Tryz.prog F [iv 0 0 1] (vc u1 u2 u3)):Fits Tryz.prog 101 [fnv F,.fv (.ag [.lit (.int .i64 1),.lit (.int .i64 0),.lit (.int .i64 0),.lit (.int .i64 0),.lit (.int .i64 1),.lit (.int .i64 0),.lit (.int .i64 0),.lit (.int .i64 0),.lit (.int .i64 1)])] (mt s1 s2 s3 t1 t2 t3 u1 u2 u3):=by
 refine kgo Tryz.func101 (by kernel_rfl) fun w00=>?_
 refine kcall F [iv 1 0 0] (h1) (by kernel_rfl) (hF) ?_
 refine kcall F [iv 0 1 0] (h2) (by kernel_rfl) (hF) ?_
 refine kcall F [iv 0 0 1] (h3) (by kernel_rfl) (hF) ?_
 exact kret Tryz.func101 (by kernel_rfl)
theorem unitsF:Fits Tryz.prog 38 [] (mt (1:Int) (0:Int) (0:Int) (0:Int) (1:Int) (0:Int) (0:Int) (0:Int) (1:Int)):=by
 have i1:M64 1:=by constructor <;> omega
 have i0:M64 0:=by constructor <;> omega
 refine kgo Tryz.func38 (by kernel_rfl) fun w00=>?_
 refine kcall 101 [fnv 36,.fv (.ag [.lit (.int .i64 1),.lit (.int .i64 0),.lit (.int .i64 0),.lit (.int .i64 0),.lit (.int .i64 1),.lit (.int .i64 0),.lit (.int .i64 0),.lit (.int .i64 0),.lit (.int .i64 1)])] (eachIV Tryz.call36 (integersF i1 i0 i0) (integersF i0 i1 i0) (integersF i0 i0 i1)) (by kernel_rfl) Tryz.call101 ?_
 exact kret Tryz.func38 (by kernel_rfl)
variable {o1 o2 o3 p1 p2 p3:Rat}
structure Lm (k:Nat) (x1 x2 x3 y1 y2 y3 z1 z2 z3:Rat):Prop where
 x1:Lf k x1
 x2:Lf k x2
 x3:Lf k x3
 y1:Lf k y1
 y2:Lf k y2
 y3:Lf k y3
 z1:Lf k z1
 z2:Lf k z2
 z3:Lf k z3
structure Lv3 (k:Nat) (a b c:Rat):Prop where
 a:Lf k a
 b:Lf k b
 c:Lf k c
theorem Lm.mono {k l:Nat} (h:Lm k x1 x2 x3 y1 y2 y3 z1 z2 z3) (hk:k≤l):Lm l x1 x2 x3 y1 y2 y3 z1 z2 z3:=⟨h.x1.mono hk,h.x2.mono hk,h.x3.mono hk,h.y1.mono hk,h.y2.mono hk,h.y3.mono hk,h.z1.mono hk,h.z2.mono hk,h.z3.mono hk⟩
theorem Lv3.mono {k l:Nat} {a b c:Rat} (h:Lv3 k a b c) (hk:k≤l):Lv3 l a b c:=⟨h.a.mono hk,h.b.mono hk,h.c.mono hk⟩
theorem squaresF (h:Lm 31 x1 x2 x3 y1 y2 y3 z1 z2 z3):Fits Tryz.prog 84 [frm o1 o2 o3 x1 x2 x3 y1 y2 y3 z1 z2 z3] (vc (dt x1 x2 x3 x1 x2 x3) (dt y1 y2 y3 y1 y2 y3) (dt z1 z2 z3 z1 z2 z3)):=by
 refine kgo Tryz.func84 (by kernel_rfl) fun w00=>?_
 refine kcall 108 [fnv 71,mt x1 x2 x3 y1 y2 y3 z1 z2 z3] (eachVN Tryz.call71 (squareF h.x1 h.x2 h.x3) (squareF h.y1 h.y2 h.y3) (squareF h.z1 h.z2 h.z3)) (by kernel_rfl) Tryz.call108 ?_
 exact kret Tryz.func84 (by kernel_rfl)
abbrev ld (p1 p2 p3 x y z:Rat):Rat:=p1*x+p2*y+p3*z
theorem leadF (h:Lm 31 x1 x2 x3 y1 y2 y3 z1 z2 z3) (k:Lv3 31 p1 p2 p3):Fits Tryz.prog 56 [frm o1 o2 o3 x1 x2 x3 y1 y2 y3 z1 z2 z3,vc p1 p2 p3] (vc (ld p1 p2 p3 x1 y1 z1) (ld p1 p2 p3 x2 y2 z2) (ld p1 p2 p3 x3 y3 z3)):=by
 have k1:=k.a.mono (l:=38) (by decide)
 have k2:=k.b.mono (l:=38) (by decide)
 have k3:=k.c.mono (l:=38) (by decide)
 have h':=h.mono (l:=38) (by decide)
 refine kgo Tryz.func56 (by kernel_rfl) fun w00=>?_
 refine kcall 80 [vc x1 x2 x3,num p1] (scaledF k1 h'.x1 h'.x2 h'.x3) (by kernel_rfl) Tryz.call80 ?_
 refine kcall 80 [vc y1 y2 y3,num p2] (scaledF k2 h'.y1 h'.y2 h'.y3) (by kernel_rfl) Tryz.call80 ?_
 refine kcall 78 [vc (p1*x1) (p1*x2) (p1*x3),vc (p2*y1) (p2*y2) (p2*y3)] (vplusF ((k.a.mul h.x1).mono (by decide)) ((k.a.mul h.x2).mono (by decide)) ((k.a.mul h.x3).mono (by decide)) ((k.b.mul h.y1).mono (by decide)) ((k.b.mul h.y2).mono (by decide)) ((k.b.mul h.y3).mono (by decide))) (by kernel_rfl) Tryz.call78 ?_
 refine kcall 80 [vc z1 z2 z3,num p3] (scaledF k3 h'.z1 h'.z2 h'.z3) (by kernel_rfl) Tryz.call80 ?_
 refine kcall 78 [vc (p1*x1+p2*y1) (p1*x2+p2*y2) (p1*x3+p2*y3),vc (p3*z1) (p3*z2) (p3*z3)] (vplusF (((k.a.mul h.x1).add (k.b.mul h.y1)).mono (by decide)) (((k.a.mul h.x2).add (k.b.mul h.y2)).mono (by decide)) (((k.a.mul h.x3).add (k.b.mul h.y3)).mono (by decide)) ((k.c.mul h.z1).mono (by decide)) ((k.c.mul h.z2).mono (by decide)) ((k.c.mul h.z3).mono (by decide))) (by kernel_rfl) Tryz.call78 ?_
 exact kret Tryz.func56 (by kernel_rfl)
theorem lf_ld {n:Nat} {p1 p2 p3 x y z:Rat} (k:Lv3 (n-5) p1 p2 p3) (hx:Lf (n-5) x) (hy:Lf (n-5) y) (hz:Lf (n-5) z) (hn:5≤n):Lf n (ld p1 p2 p3 x y z):=lf_dt (a1:=p1) (a2:=p2) (a3:=p3) k.a k.b k.c hx hy hz hn
theorem placeF (h:Lm 31 x1 x2 x3 y1 y2 y3 z1 z2 z3) (k:Lv3 31 p1 p2 p3) (ho:Lv3 36 o1 o2 o3) :
 Fits Tryz.prog 55 [frm o1 o2 o3 x1 x2 x3 y1 y2 y3 z1 z2 z3,vc p1 p2 p3] (vc (o1+ld p1 p2 p3 x1 y1 z1) (o2+ld p1 p2 p3 x2 y2 z2) (o3+ld p1 p2 p3 x3 y3 z3)):=by
 refine kgo Tryz.func55 (by kernel_rfl) fun w00=>?_
 refine kcall 56 [frm o1 o2 o3 x1 x2 x3 y1 y2 y3 z1 z2 z3,vc p1 p2 p3] (leadF h k) (by kernel_rfl) Tryz.call56 ?_
 refine kcall 78 [vc o1 o2 o3,vc (ld p1 p2 p3 x1 y1 z1) (ld p1 p2 p3 x2 y2 z2) (ld p1 p2 p3 x3 y3 z3)] (vplusF ho.a ho.b ho.c (lf_ld k h.x1 h.y1 h.z1 (by decide)) (lf_ld k h.x2 h.y2 h.z2 (by decide)) (lf_ld k h.x3 h.y3 h.z3 (by decide))) (by kernel_rfl) Tryz.call78 ?_
 exact kret Tryz.func55 (by kernel_rfl)
structure Sq0 (x1 x2 x3 y1 y2 y3 z1 z2 z3:Rat):Prop where
 x:dt x1 x2 x3 x1 x2 x3≠0
 y:dt y1 y2 y3 y1 y2 y3≠0
 z:dt z1 z2 z3 z1 z2 z3≠0
theorem multiplesF (h:Lm 31 x1 x2 x3 y1 y2 y3 z1 z2 z3) (k:Lv3 31 p1 p2 p3) (h0:Sq0 x1 x2 x3 y1 y2 y3 z1 z2 z3) :
 Fits Tryz.prog 46 [frm o1 o2 o3 x1 x2 x3 y1 y2 y3 z1 z2 z3,vc p1 p2 p3] (vc (dt p1 p2 p3 x1 x2 x3/dt x1 x2 x3 x1 x2 x3) (dt p1 p2 p3 y1 y2 y3/dt y1 y2 y3 y1 y2 y3) (dt p1 p2 p3 z1 z2 z3/dt z1 z2 z3 z1 z2 z3)):=by
 have l1:=(lf_dt (n:=36) k.a k.b k.c h.x1 h.x2 h.x3 (by decide)).mono (l:=38) (by decide)
 have l2:=(lf_dt (n:=36) k.a k.b k.c h.y1 h.y2 h.y3 (by decide)).mono (l:=38) (by decide)
 have l3:=(lf_dt (n:=36) k.a k.b k.c h.z1 h.z2 h.z3 (by decide)).mono (l:=38) (by decide)
 have m1:=(lf_dt (n:=36) h.x1 h.x2 h.x3 h.x1 h.x2 h.x3 (by decide)).mono (l:=38) (by decide)
 have m2:=(lf_dt (n:=36) h.y1 h.y2 h.y3 h.y1 h.y2 h.y3 (by decide)).mono (l:=38) (by decide)
 have m3:=(lf_dt (n:=36) h.z1 h.z2 h.z3 h.z1 h.z2 h.z3 (by decide)).mono (l:=38) (by decide)
 refine kgo Tryz.func46 (by kernel_rfl) fun w00=>?_
 refine kcall 108 [cloV 69 p1 p2 p3,mt x1 x2 x3 y1 y2 y3 z1 z2 z3] (eachVNc Tryz.call69 (dotF k.a k.b k.c h.x1 h.x2 h.x3) (dotF k.a k.b k.c h.y1 h.y2 h.y3) (dotF k.a k.b k.c h.z1 h.z2 h.z3)) (by kernel_rfl) Tryz.call108 ?_
 refine kcall 84 [frm o1 o2 o3 x1 x2 x3 y1 y2 y3 z1 z2 z3] (squaresF h) (by kernel_rfl) Tryz.call84 ?_
 refine kcall 83 [fnv 70,vc (dt p1 p2 p3 x1 x2 x3) (dt p1 p2 p3 y1 y2 y3) (dt p1 p2 p3 z1 z2 z3),vc (dt x1 x2 x3 x1 x2 x3) (dt y1 y2 y3 y1 y2 y3) (dt z1 z2 z3 z1 z2 z3)] (joinF Tryz.call70 (overF l1 m1 h0.x) (overF l2 m2 h0.y) (overF l3 m3 h0.z)) (by kernel_rfl) Tryz.call83 ?_
 exact kret Tryz.func46 (by kernel_rfl)
theorem localF (h:Lm 31 x1 x2 x3 y1 y2 y3 z1 z2 z3) (k:Lv3 29 p1 p2 p3) (ho:Lv3 29 o1 o2 o3) (h0:Sq0 x1 x2 x3 y1 y2 y3 z1 z2 z3) :
 Fits Tryz.prog 45 [frm o1 o2 o3 x1 x2 x3 y1 y2 y3 z1 z2 z3,vc p1 p2 p3] (vc (dt (p1-o1) (p2-o2) (p3-o3) x1 x2 x3/dt x1 x2 x3 x1 x2 x3) (dt (p1-o1) (p2-o2) (p3-o3) y1 y2 y3/dt y1 y2 y3 y1 y2 y3) (dt (p1-o1) (p2-o2) (p3-o3) z1 z2 z3/dt z1 z2 z3 z1 z2 z3)):=by
 have k':=k.mono (l:=36) (by decide)
 have ho':=ho.mono (l:=36) (by decide)
 refine kgo Tryz.func45 (by kernel_rfl) fun w00=>?_
 refine kcall 75 [vc p1 p2 p3,vc o1 o2 o3] (vminusF k'.a k'.b k'.c ho'.a ho'.b ho'.c) (by kernel_rfl) Tryz.call75 ?_
 refine kcall 46 [frm o1 o2 o3 x1 x2 x3 y1 y2 y3 z1 z2 z3,vc (p1-o1) (p2-o2) (p3-o3)] (multiplesF h ⟨Lf.subn k.a ho.a (by decide),Lf.subn k.b ho.b (by decide),Lf.subn k.c ho.c (by decide)⟩ h0) (by kernel_rfl) Tryz.call46 ?_
 exact kret Tryz.func45 (by kernel_rfl)
theorem orthogonalF (h:Lm 31 x1 x2 x3 y1 y2 y3 z1 z2 z3) (hxy:dt x1 x2 x3 y1 y2 y3=0) (hyz:dt y1 y2 y3 z1 z2 z3=0) (hzx:dt z1 z2 z3 x1 x2 x3=0) :
 Fits Tryz.prog 109 [frm o1 o2 o3 x1 x2 x3 y1 y2 y3 z1 z2 z3] (bl true):=by
 refine kgo Tryz.func109 (by kernel_rfl) fun w00=>?_
 refine kcall 69 [vc x1 x2 x3,vc y1 y2 y3] (dotF h.x1 h.x2 h.x3 h.y1 h.y2 h.y3) (by kernel_rfl) Tryz.call69 ?_
 refine kcall 32 [num (dt x1 x2 x3 y1 y2 y3)] (isZeroF (b:=true) (by rw [decide_eq_true_eq];exact hxy)) (by kernel_rfl) Tryz.call32 ?_
 refine kcall 69 [vc y1 y2 y3,vc z1 z2 z3] (dotF h.y1 h.y2 h.y3 h.z1 h.z2 h.z3) (by kernel_rfl) Tryz.call69 ?_
 refine kcall 32 [num (dt y1 y2 y3 z1 z2 z3)] (isZeroF (b:=true) (by rw [decide_eq_true_eq];exact hyz)) (by kernel_rfl) Tryz.call32 ?_
 refine kcall 69 [vc z1 z2 z3,vc x1 x2 x3] (dotF h.z1 h.z2 h.z3 h.x1 h.x2 h.x3) (by kernel_rfl) Tryz.call69 ?_
 refine kcall 32 [num (dt z1 z2 z3 x1 x2 x3)] (isZeroF (b:=true) (by rw [decide_eq_true_eq];exact hzx)) (by kernel_rfl) Tryz.call32 ?_
 exact kret Tryz.func109 (by kernel_rfl)
end
def csIs (v:Value) (h:v.oneCell'=true) (c:Bool) (hc:c=true→Kn v=false):CS Kn where
 size:=1
 cold:=c
 pred cs _:=cs = [v]
 stable _ _ _ h _:=h
 len _ _ h:=by rw [h];rfl
 one _ _ hp:=by rw [hp];intro c hc;rw [List.mem_singleton] at hc;rw [hc];exact h
 iscold hb _ _ hp:=by rw [hp];intro d hd;rw [List.mem_singleton] at hd;rw [hd];exact hc hb
abbrev isS (s:ByteArray):Seg Kn := .sp (csIs (.string s) rfl true (fun _=>rfl))
abbrev isI (n:Int):Seg Kn := .sp (csIs (.int .i64 n) rfl true (fun _=>rfl))
abbrev isU (n:Int):Seg Kn := .sp (csIs (.int .u64 n) rfl false (fun h=>by cases h))
abbrev tx (s:ByteArray):AV Kn := .fv (.sc (isS s))
abbrev lt (s:ByteArray):AV Kn := .fv (.sc (.lit (.string s)))
theorem hold_is {v u:Value} {h:v.oneCell'=true} {c:Bool} {hc:c=true→Kn v=false} {β:List Nat} {w:World} (k:(AV.fv (.sc (.sp (csIs v h c hc))):AV Kn).holds β u w):u=v:=by
 have:[u] = [v]:=k
 injection this
theorem is_hold {v:Value} {h:v.oneCell'=true} {c:Bool} {hc:c=true→Kn v=false} {β:List Nat} {w:World}:(AV.fv (.sc (.sp (csIs v h c hc))):AV Kn).holds β v w:=rfl
theorem lit_hold {v:Value} (h:v.oneCell'=true) {β:List Nat} {w:World}:(AV.fv (.sc (.lit v)):AV Kn).holds β v w:=⟨rfl,h⟩
def Gl (w:World):Prop:=Laid w∧∃ m,w.cell? ⟨0,0,none⟩=some (.int .i64 m)
theorem Gl.below {w w' : World} (h:Gl w) (hb:Below w.heap.size w w'):Gl w':=by
 refine ⟨h.1.below hb,?_⟩
 obtain ⟨m,hm⟩:=h.2
 exact ⟨m,(hb.cell (p:=⟨0,0,none⟩) (block_lt_of_cell hm)).trans hm⟩
theorem keepGl {w00:World} (h:Gl w00):∀ w,Below w00.heap.size w00 w→Gl w:=fun _ hb=>h.below hb
def decB (n:Nat):ByteArray:=⟨(Lib.decDigits n).toArray⟩
def overB (q:Rat):ByteArray:=if q.num<0 then ⟨#[45]⟩++decB q.num.natAbs else decB q.num.natAbs
theorem natTextF {a:Nat} (ha:Lv 20 a):FitsW Tryz.prog Gl 233 [nt a] (tx (decB a)):=by
 intro β w vs hG hv
 obtain ⟨v,rfl,h1⟩:=args1 hv
 exact (text_any v a w (nt_holds.1 h1) ha hG.1).mono fun e w' ⟨e1,h2⟩=>⟨_,e1,h2,is_hold⟩
def itoaB (n:Int):ByteArray:=⟨(Lib.itoa n).toArray⟩
theorem formatInt0F {n:Int} (hn:M64 n):FitsW Tryz.prog Gl 234 [it n,it 10] (tx (itoaB n)):=by
 intro β w vs hG hv
 obtain ⟨v,u,rfl,h1,h2⟩:=args2 hv
 rw [hold_lit h1,hold_lit h2]
 refine (Tryz.internal_strconv_FormatInt_10 n hn.1 hn.2 w hG.1).mono fun e w' ⟨e1,k,os,e2⟩=>⟨_,e1,?_,is_hold⟩
 rw [e2]
 exact (below_drewN w k).trans (below_grow (w.drewN k) os)
theorem formatIntF {n:Int} (hn:M64 n):FitsW Tryz.prog Gl 194 [it n,it 10] (tx (itoaB n)):=by
 refine kgoW Tryz.func194 (by kernel_rfl) fun w00 hG=>?_;have hI:=keepGl hG
 refine kcallW hI 234 [it n,it 10] (formatInt0F hn) (by kernel_rfl) Tryz.call234 ?_
 exact kret Tryz.func194 (by kernel_rfl)
abbrev smA (q:Rat):AV Kn := .fv (.ag [.lit (.int .i64 q.num),.lit (.int .i64 ((q.den:Int)-1)),.lit (.pointer none)])
theorem sm_holds {β:List Nat} {v:Value} {w:World} {q:Rat} (h:Sm q):(num q).holds β v w↔(smA q).holds β v w:=by
 rw [num_holds]
 constructor
 ·rintro (⟨_,rfl⟩|⟨h2,_⟩)
  ·exact ⟨[_,_,_],rfl,[_],_,rfl,⟨rfl,rfl⟩,[_],_,rfl,⟨rfl,rfl⟩,[_],[],rfl,⟨rfl,rfl⟩,rfl⟩
  ·exact absurd h h2
 ·rintro ⟨cs,rfl,a,r,rfl,⟨rfl,_⟩,b,r2,rfl,⟨rfl,_⟩,c,r3,rfl,⟨rfl,_⟩,e⟩
  rw [show r3 = [] from e]
  exact .inl ⟨h,rfl⟩
theorem denF {q:Rat} (h:Sm q):Fits Tryz.prog 142 [smA q] (it q.den):=by
 intro β w vs hv
 obtain ⟨v,rfl,h1⟩:=args1 hv
 obtain ⟨cs,rfl,a,r,rfl,⟨rfl,_⟩,b,r2,rfl,⟨rfl,_⟩,c,r3,rfl,⟨rfl,_⟩,e⟩:=h1
 rw [show r3 = [] from e]
 have hd:=sm_den h
 refine (den_any q.num ((q.den:Int)-1) none w (by omega) (by omega)).mono fun e w' ⟨e1,h2⟩=>⟨_,e1,h2,?_⟩
 rw [show ((q.den:Int)-1+1)=q.den by omega]
 exact lit_hold rfl
theorem cat_run {P:Program} {o:Oper} {ρ:Operand→Value} {w:World} {T T' : TypeId} {x y:Operand} {a b:ByteArray} (ho:o.op = .binOp .add T x y T') (hx:ρ x = .string a) (hy:ρ y = .string b) (hs:a.size+b.size≤9223372036854775807) :
 (execOp ρ o).run P w = .ok (.value (.string (a++b))) w:=by
 simp only [execOp,ho,hx,hy]
 refine run_v ?_
 have hne:¬ (((a.size+b.size:Nat):Int) > IntKind.i64.max):=by
  have:IntKind.i64.max=9223372036854775807:=by decide
  rw [this]
  omega
 simp only [eqGuard,binOp,Op.stringOp,if_neg hne]
 rfl
theorem decB_size {a k:Nat} (h:a<10^(k+1)):(decB a).size≤k+1:=by
 exact dec_length_pow h
theorem fraTextF {q:Rat} (hq:Lf 20 q) (hs:(decB q.num.natAbs).size≤1000000000):FitsW Tryz.prog Gl 193 [fra q] (.tup [.sc (isS (overB q)),.sc (isS (decB q.den))]):=by
 by_cases hn:q.num<0
 ·have hd:decide (q.num<0)=true:=by simpa using hn
  have ho:overB q=⟨#[45]⟩++decB q.num.natAbs:=by rw [overB,if_pos hn]
  rw [ho,show fra q=frv true q.num.natAbs q.den by rw [fra,hd]]
  obtain ⟨hq1,hq2⟩:=hq
  generalize q.num.natAbs=n at *
  have hcat:(⟨#[45]⟩:ByteArray).size+(decB n).size≤9223372036854775807:=by
   have:(⟨#[45]⟩:ByteArray).size=1:=rfl
   omega
  refine kgoW Tryz.func193 (by kernel_rfl) fun w00 hG=>?_;have hI:=keepGl hG
  refine kcallW hI 233 [nt n] (natTextF hq1) (by kernel_rfl) Tryz.call233 ?_
  refine kcallW hI 233 [nt q.den] (natTextF hq2) (by kernel_rfl) Tryz.call233 ?_
  refine kop2 (.binOp .add 9 (.const (.string ⟨#[45]⟩)) (.tmp 12) 9) (.const (.string ⟨#[45]⟩)) (.tmp 12) (lt ⟨#[45]⟩) (tx (decB n)) (tx (⟨#[45]⟩++decB n)) (by kernel_rfl) (by simp [Op.operands]) (by simp [Op.operands]) (fun ρ o β w ho hx hy=>⟨_,cat_run ho (hold_lit hx) (hold_is hy) hcat,is_hold⟩) ?_
  exact kret Tryz.func193 (by kernel_rfl)
 ·have hd:decide (q.num<0)=false:=by simpa using hn
  have ho:overB q=decB q.num.natAbs:=by rw [overB,if_neg hn]
  rw [ho,show fra q=frv false q.num.natAbs q.den by rw [fra,hd]]
  refine kgoW Tryz.func193 (by kernel_rfl) fun w00 hG=>?_;have hI:=keepGl hG
  refine kcallW hI 233 [nt q.num.natAbs] (natTextF hq.1) (by kernel_rfl) Tryz.call233 ?_
  refine kcallW hI 233 [nt q.den] (natTextF hq.2) (by kernel_rfl) Tryz.call233 ?_
  exact kret Tryz.func193 (by kernel_rfl)
theorem itoa_over (q:Rat):itoaB q.num=overB q:=by
 unfold itoaB overB decB Lib.itoa
 split
 ·congr 1
 ·rename_i h
  congr 3
  omega
theorem itoa_den (d:Nat):itoaB (d:Int)=decB d:=by
 unfold itoaB decB Lib.itoa
 rw [if_neg (by omega)]
 rfl
theorem smTextF {q:Rat} (h:Sm q):FitsW Tryz.prog Gl 138 [smA q] (.tup [.sc (isS (overB q)),.sc (isS (decB q.den))]):=by
 have hn:=sm_num h
 have hd:=sm_den h
 rw [← itoa_over,← itoa_den]
 refine kgoW Tryz.func138 (by kernel_rfl) fun w00 hG=>?_;have hI:=keepGl hG
 refine kcallW hI 194 [it q.num,it 10] (formatIntF ⟨by have:=hn.1;omega,by have:=hn.2;omega⟩) (by kernel_rfl) Tryz.call194 ?_
 refine kcall 142 [smA q] (denF h) (by kernel_rfl) Tryz.call142 ?_
 refine kcallW hI 194 [it q.den,it 10] (formatIntF ⟨by omega,hd.2⟩) (by kernel_rfl) Tryz.call194 ?_
 exact kret Tryz.func138 (by kernel_rfl)
theorem num_large {I:World→Prop} {f:FuncId} {fn:Func} {q:Rat} {x:AV Kn} (hq:¬ Sm q) (hfn:Tryz.prog.funcs[f]?=some fn) (hc:(fn.body.isSome,decide (1≤fn.ntmps),x.noPtr)=(true,true,true))
 (h:∀ w00,I w00→Ok Tryz.prog f w00 (fun v w=>x.holds [] v w) (runA Tryz.prog 1000 (.items [.code (fn.body.getD .skip)] { slots := [.fv (.ag [.lit (.int .i64 0),.lit (.int .i64 0),.ptr 0 0])]++List.replicate (fn.ntmps-1) .un,blocks := [(112,[.lit (.bool (decide (q.num<0))),nts q.num.natAbs,nts q.den])],ro:=1 }))) :
 FitsW Tryz.prog I f [num q] x:=by
 simp only [Prod.mk.injEq] at hc
 intro β w vs hI hv
 obtain ⟨v,rfl,h1⟩:=args1 hv
 rcases num_holds.1 h1 with ⟨h2,_⟩|⟨_,g,s1,s2,rfl,hg,n1,n2⟩
 ·exact absurd h2 hq
 have hb2:fn.body=some (fn.body.getD .skip):=by
  cases hb2:fn.body with
  | none=>rw [hb2] at hc;cases hc.1
  | some c=>rfl
 have hl:holdsL [g] [Seg.lit (.bool (decide (q.num<0))),nts q.num.natAbs,nts q.den] [.bool (decide (q.num<0)),s1,s2] w :=
  ⟨[.bool (decide (q.num<0))],_,rfl,⟨rfl,rfl⟩,[s1],_,rfl,⟨s1,rfl,n1⟩,[s2],[],rfl,⟨s2,rfl,n2⟩,rfl⟩
 refine (calls_of_good (w00:=w) (Out:=fun v w=>x.holds [] v w) hfn hb2 [.fv (.ag [.lit (.int .i64 0),.lit (.int .i64 0),.ptr 0 0])] [(112,[.lit (.bool (decide (q.num<0))),nts q.num.natAbs,nts q.den])] [g] _ (fn.ntmps-1) (by simp at hc;simp;omega)
  ⟨_,[],rfl,⟨[.int .i64 0,.int .i64 0,.pointer (some ⟨g,0,none⟩)],rfl,[_],_,rfl,⟨rfl,rfl⟩,[_],_,rfl,⟨rfl,rfl⟩,[_],[],rfl,⟨g,rfl,rfl⟩,rfl⟩,rfl⟩ rfl (by simp) (fun k T l hk=>?_) (by simp;exact lt_of_block hg) (Ok.go (by kernel_rfl) kn_ok 1000 (h w hI)).good).mono ?_
 ·match k,hk with
  | 0,hk =>
    simp at hk
    obtain ⟨rfl,rfl⟩:=hk
    exact ⟨g,_,rfl,hg,hl⟩
 ·rintro e w' ⟨v,rfl,hb,ho⟩
  exact ⟨v,rfl,hb,AV.noPtr_holds hc.2.2 ho⟩
theorem numTextF {q:Rat} (hq:Lf 20 q) (hs:(decB q.num.natAbs).size≤1000000000):FitsW Tryz.prog Gl 138 [num q] (.tup [.sc (isS (overB q)),.sc (isS (decB q.den))]):=by
 by_cases h:Sm q
 ·intro β w vs hG hv
  obtain ⟨v,r,rfl,h1,h2⟩:=hv
  exact smTextF h β w _ hG ⟨v,r,rfl,(sm_holds h).1 h1,h2⟩
 ·refine num_large h Tryz.func138 (by kernel_rfl) fun w00 hG=>?_
  have hI:=keepGl hG
  refine kop2 (.binOp .neq 65 (.tmp 5) (.const (.pointer none)) 65) (.tmp 5) (.const (.pointer none)) (.fv (.sc (.ptr 0 0))) (.fv (.sc (.lit (.pointer none)))) (bl true) (by kernel_rfl) (by simp [Op.operands]) (by simp [Op.operands]) (fun ρ o β w ho hx hy=>?_) ?_
  ·obtain ⟨g,_,hx⟩:=hold_ptr hx
   have hy:=hold_lit hy
   refine ⟨.bool true,?_,lit_hold rfl⟩
   simp only [execOp,ho,hx,hy]
   exact run_v (evalP_run (by kernel_rfl) w)
  refine kcallW hI 193 [fra q] (fraTextF hq hs) (by kernel_rfl) Tryz.call193 ?_
  exact kret Tryz.func138 (by kernel_rfl)
theorem trimF {s t:ByteArray} (h:(⟨(Lib.trimPrefix s.data.toList [45]).toArray⟩:ByteArray)=t):Fits Tryz.prog 139 [tx s,lt ⟨#[45]⟩] (tx t):=by
 intro β w vs hv
 obtain ⟨v,u,rfl,h1,h2⟩:=args2 hv
 rw [hold_is h1,hold_lit h2]
 refine (Tryz.strings_TrimPrefix s ⟨#[45]⟩ w).mono fun e w' ⟨e1,e2⟩=>⟨_,e1,by rw [e2];exact Below.refl _ _,?_⟩
 rw [← h]
 exact is_hold
theorem trim_over {q:Rat}:(⟨(Lib.trimPrefix (overB q).data.toList [45]).toArray⟩:ByteArray)=decB q.num.natAbs:=by
 unfold overB
 split
 ·have:(⟨#[45]⟩++decB q.num.natAbs:ByteArray).data.toList=45::Lib.decDigits q.num.natAbs:=by
   simp [decB]
  rw [this]
  simp [Lib.trimPrefix,Lib.hasPrefix,decB]
 ·simp only [decB]
  have hd:=(natOf_dec q.num.natAbs).2
  unfold Lib.trimPrefix
  split
  ·rename_i hp
   exfalso
   have h0:=hd.2
   cases hl:Lib.decDigits q.num.natAbs with
   | nil=>exact h0 hl
   | cons c r =>
     rw [hl] at hp
     simp [Lib.hasPrefix] at hp
     have:=hd.1 c (by rw [hl];simp)
     rw [← hp] at this
     revert this
     decide
  ·rfl
end Go.Proofs.YtbhcckhbbclemaaGreatDoor.Ab
