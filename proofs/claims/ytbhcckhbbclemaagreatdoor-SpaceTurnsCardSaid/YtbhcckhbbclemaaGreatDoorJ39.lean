/- Parts of the proof, joined. -/
import Derived.Test.YtbhcckhbbclemaaGreatDoorJ38
import Derived.Test.YtbhcckhbbclemaaGreatDoorJ21
import Derived.Test.YtbhcckhbbclemaaGreatDoorJ26
import Derived.Test.YtbhcckhbbclemaaGreatDoorJ35
set_option linter.unusedSimpArgs false
set_option linter.unusedVariables false
namespace Go.Proofs.YtbhcckhbbclemaaGreatDoor.Ab
open Go.RowKit Go.Proofs.YtbhcckhbbclemaaGreatDoor Pl
section
variable {a b c:Int} {s:ByteArray}
abbrev In (k x:Int):Prop := -k≤x∧x≤k
end
section
variable {a b c x y z d:Rat} {k l n:Nat}
theorem dotV (h1:Bq k a) (h2:Bq k b) (h3:Bq k c) (g1:Bq l x) (g2:Bq l y) (g3:Bq l z) (hk:2*(k+l)<10000):Fits Tryz.prog 17 [vS a b c,vS x y z] (tx (writeB (dt a b c x y z))) :=
 dotR (kn_S (refMulF (h1.zs (by omega)) (g1.zs (by omega)))) (kn_S (refMulF (h2.zs (by omega)) (g2.zs (by omega)))) (kn_S (refAddF ((h1.mul g1).zs (by omega)) ((h2.mul g2).zs (by omega))))
  (kn_S (refMulF (h3.zs (by omega)) (g3.zs (by omega)))) (kn_S (refAddF (((h1.mul g1).add (h2.mul g2)).zs (by omega)) ((h3.mul g3).zs (by omega))))
theorem squareV (h1:Bq k a) (h2:Bq k b) (h3:Bq k c) (hk:4*k<10000):Fits Tryz.prog 42 [vS a b c] (tx (writeB (dt a b c a b c))):=squareR (dotV h1 h2 h3 h1 h2 h3 (by omega))
end
theorem bq_int {z:Int} {k:Nat} (h:z.natAbs<10^k) (hk:0<k):Bq k (z:Rat):=by
 refine ⟨by rw [Rat.num_intCast];exact h,?_⟩
 rw [Rat.den_intCast]
 have:=Nat.pow_le_pow_right (n:=10) (by omega) hk
 omega
theorem chkB {k:Nat} {q:Rat} (h:Bq k q) (hk:k≤600):Fits Tryz.prog 90 [tx (writeB q)] (it 0):=chkF (h.wr hk).n (h.wr hk).d
def Fy (k:Nat) (s:ByteArray):Prop := ∃ q,s=writeB q∧Fw k q
section
variable {a b c d:ByteArray} {n:Int} {T:TypeId}
abbrev q4 (a b c d:ByteArray):List (Seg Kn) := [isS a,isS b,isS c,isS d]
theorem fewListT (h1:Fits Tryz.prog 28 [tx a,it n] (bl true)) (h2:Fits Tryz.prog 28 [tx b,it n] (bl true)) (h3:Fits Tryz.prog 28 [tx c,it n] (bl true)) (h4:Fits Tryz.prog 28 [tx d,it n] (bl true)):Fits Tryz.prog 5 [.fv (.nsl 4 T (q4 a b c d)),it 4,it n] (bl true):=by
 refine kgoSA Tryz.func5 (by kernel_rfl) fun w00=>?_
 refine kcall 28 [tx a,it n] (h1) (by kernel_rfl) Tryz.call28 ?_
 refine kcall 28 [tx b,it n] (h2) (by kernel_rfl) Tryz.call28 ?_
 refine kcall 28 [tx c,it n] (h3) (by kernel_rfl) Tryz.call28 ?_
 refine kcall 28 [tx d,it n] (h4) (by kernel_rfl) Tryz.call28 ?_
 exact kret Tryz.func5 (by kernel_rfl)
theorem fewListF {y:ByteArray→Bool} (h:∀ s,Fits Tryz.prog 28 [tx s,it n] (bl (y s))) (hn:(y a&&y b&&y c&&y d)=false):Fits Tryz.prog 5 [.fv (.nsl 4 T (q4 a b c d)),it 4,it n] (bl false):=by
 have ha:=h a
 have hb:=h b
 have hc:=h c
 have hd:=h d
 clear h
 generalize y a=a1 at *
 generalize y b=b1 at *
 generalize y c=c1 at *
 generalize y d=d1 at *
 refine kgoSA Tryz.func5 (by kernel_rfl) fun w00=>?_
 cases a1
 ·refine kcall 28 [tx a,it n] (ha) (by kernel_rfl) Tryz.call28 ?_
  exact kret Tryz.func5 (by kernel_rfl)
 refine kcall 28 [tx a,it n] (ha) (by kernel_rfl) Tryz.call28 ?_
 cases b1
 ·refine kcall 28 [tx b,it n] (hb) (by kernel_rfl) Tryz.call28 ?_
  exact kret Tryz.func5 (by kernel_rfl)
 refine kcall 28 [tx b,it n] (hb) (by kernel_rfl) Tryz.call28 ?_
 cases c1
 ·refine kcall 28 [tx c,it n] (hc) (by kernel_rfl) Tryz.call28 ?_
  exact kret Tryz.func5 (by kernel_rfl)
 refine kcall 28 [tx c,it n] (hc) (by kernel_rfl) Tryz.call28 ?_
 cases d1
 ·refine kcall 28 [tx d,it n] (hd) (by kernel_rfl) Tryz.call28 ?_
  exact kret Tryz.func5 (by kernel_rfl)
 ·cases hn
end
section
variable {o1 o2 o3 x1 x2 x3 y1 y2 y3 z1 z2 z3:Rat}
theorem isZeroT {s:ByteArray} {r:Bool} (h:(s.toList==(⟨#[48]⟩:ByteArray).toList)=r):Fits Tryz.prog 103 [tx s] (bl r):=by
 refine kgo Tryz.func103 (by kernel_rfl) fun w00=>?_
 refine kop2 (.binOp .eql 22 (.tmp 3) (.const (.string ⟨#[48]⟩)) 22) (.tmp 3) (.const (.string ⟨#[48]⟩)) (tx s) (lt ⟨#[48]⟩) (bl r) (by kernel_rfl) (by simp [Op.operands]) (by simp [Op.operands]) (fun ρ o β w ho hx hy=>⟨_,seq_run ho (hold_is hx) (hold_lit hy) h,lit_hold rfl⟩) ?_
 exact kret Tryz.func103 (by kernel_rfl)
theorem isOriginT {a b c:ByteArray} {r:Bool} (h:(a.toList==(⟨#[48]⟩:ByteArray).toList&&b.toList==(⟨#[48]⟩:ByteArray).toList&&c.toList==(⟨#[48]⟩:ByteArray).toList)=r):Fits Tryz.prog 40 [t3 a b c] (bl r):=by
 refine kgo Tryz.func40 (by kernel_rfl) fun w00=>?_
 refine kcall 102 [] (originF) (by kernel_rfl) Tryz.call102 ?_
 refine kop2 (.binOp .eql 25 (.tmp 3) (.tmp 4) 25) (.tmp 3) (.tmp 4) (t3 a b c) (.fv (.ag [.lit (.string ⟨#[48]⟩),.lit (.string ⟨#[48]⟩),.lit (.string ⟨#[48]⟩)])) (bl r) (by kernel_rfl) (by simp [Op.operands]) (by simp [Op.operands]) (fun ρ o β w ho hx hy=>⟨_,agg_eq (by kernel_rfl) (h▸equalT a b c _ _ _ w) ho (s3_is hx) (l3_is hy),lit_hold rfl⟩) ?_
 exact kret Tryz.func40 (by kernel_rfl)
theorem crossR {a b c d e f p1 p2 p3 p4 p5 p6 r1 r2 r3:ByteArray} (h1:Fits Tryz.prog 13 [tx b,tx f] (tx p1)) (h2:Fits Tryz.prog 13 [tx c,tx e] (tx p2)) (h3:Fits Tryz.prog 211 [tx p1,tx p2] (tx r1)) (h4:Fits Tryz.prog 13 [tx c,tx d] (tx p3)) (h5:Fits Tryz.prog 13 [tx a,tx f] (tx p4)) (h6:Fits Tryz.prog 211 [tx p3,tx p4] (tx r2))
 (h7:Fits Tryz.prog 13 [tx a,tx e] (tx p5)) (h8:Fits Tryz.prog 13 [tx b,tx d] (tx p6)) (h9:Fits Tryz.prog 211 [tx p5,tx p6] (tx r3)):Fits Tryz.prog 162 [t3 a b c,t3 d e f] (t3 r1 r2 r3):=by
 refine kgo Tryz.func162 (by kernel_rfl) fun w00=>?_
 refine kcall 13 [tx b,tx f] (h1) (by kernel_rfl) Tryz.call13 ?_
 refine kcall 13 [tx c,tx e] (h2) (by kernel_rfl) Tryz.call13 ?_
 refine kcall 211 [tx p1,tx p2] (h3) (by kernel_rfl) Tryz.call211 ?_
 refine kcall 13 [tx c,tx d] (h4) (by kernel_rfl) Tryz.call13 ?_
 refine kcall 13 [tx a,tx f] (h5) (by kernel_rfl) Tryz.call13 ?_
 refine kcall 211 [tx p3,tx p4] (h6) (by kernel_rfl) Tryz.call211 ?_
 refine kcall 13 [tx a,tx e] (h7) (by kernel_rfl) Tryz.call13 ?_
 refine kcall 13 [tx b,tx d] (h8) (by kernel_rfl) Tryz.call13 ?_
 refine kcall 211 [tx p5,tx p6] (h9) (by kernel_rfl) Tryz.call211 ?_
 exact kret Tryz.func162 (by kernel_rfl)
variable {k l:Nat}
theorem crossV {a b c x y z:Rat} (h1:Bq k a) (h2:Bq k b) (h3:Bq k c) (g1:Bq l x) (g2:Bq l y) (g3:Bq l z) (hk:k+l≤10000):Fits Tryz.prog 162 [vS a b c,vS x y z] (vS (b*z-c*y) (c*x-a*z) (a*y-b*x)) :=
 have m:∀ {p q:Rat},Bq k p→Bq l q→Fits Tryz.prog 13 [tx (writeB p),tx (writeB q)] (tx (writeB (p*q))):=fun hp hq=>kn_S (refMulF (hp.zs (by omega)) (hq.zs (by omega)))
 have s:∀ {p q r t:Rat},Bq k p→Bq l q→Bq k r→Bq l t→Fits Tryz.prog 211 [tx (writeB (p*q)),tx (writeB (r*t))] (tx (writeB (p*q-r*t))):=fun hp hq hr ht=>kn_S (subR ((hp.mul hq).zs (by omega)) ((hr.mul ht).zs (by omega)))
 crossR (m h2 g3) (m h3 g2) (s h2 g3 h3 g2) (m h3 g1) (m h1 g3) (s h3 g1 h1 g3) (m h1 g2) (m h2 g1) (s h1 g2 h2 g1)
theorem detR {a b c d e f g h i p q r v:ByteArray} (h1:Fits Tryz.prog 162 [t3 d e f,t3 g h i] (t3 p q r)) (h2:Fits Tryz.prog 17 [t3 a b c,t3 p q r] (tx v)):Fits Tryz.prog 104 [t3 a b c,t3 d e f,t3 g h i] (tx v):=by
 refine kgo Tryz.func104 (by kernel_rfl) fun w00=>?_
 refine kcall 162 [t3 d e f,t3 g h i] (h1) (by kernel_rfl) Tryz.call162 ?_
 refine kcall 17 [t3 a b c,t3 p q r] (h2) (by kernel_rfl) Tryz.call17 ?_
 exact kret Tryz.func104 (by kernel_rfl)
abbrev fr12 (o1 o2 o3 x1 x2 x3 y1 y2 y3 z1 z2 z3:ByteArray):AV Kn := .fv (.ag [isS o1,isS o2,isS o3,isS x1,isS x2,isS x3,isS y1,isS y2,isS y3,isS z1,isS z2,isS z3])
theorem shapeR {o1 o2 o3 x1 x2 x3 y1 y2 y3 z1 z2 z3 p q r v:ByteArray} (h1:Fits Tryz.prog 17 [t3 x1 x2 x3,t3 y1 y2 y3] (tx p)) (i1:Fits Tryz.prog 103 [tx p] (bl true)) (h2:Fits Tryz.prog 17 [t3 y1 y2 y3,t3 z1 z2 z3] (tx q)) (i2:Fits Tryz.prog 103 [tx q] (bl true)) (h3:Fits Tryz.prog 17 [t3 z1 z2 z3,t3 x1 x2 x3] (tx r)) (i3:Fits Tryz.prog 103 [tx r] (bl true))
 (h4:Fits Tryz.prog 104 [t3 x1 x2 x3,t3 y1 y2 y3,t3 z1 z2 z3] (tx v)) (h5:Fits Tryz.prog 48 [tx v] (it 1)):Fits Tryz.prog 41 [fr12 o1 o2 o3 x1 x2 x3 y1 y2 y3 z1 z2 z3] (it 0):=by
 refine kgo Tryz.func41 (by kernel_rfl) fun w00=>?_
 refine kcall 17 [t3 x1 x2 x3,t3 y1 y2 y3] (h1) (by kernel_rfl) Tryz.call17 ?_
 refine kcall 103 [tx p] (i1) (by kernel_rfl) Tryz.call103 ?_
 refine kcall 17 [t3 y1 y2 y3,t3 z1 z2 z3] (h2) (by kernel_rfl) Tryz.call17 ?_
 refine kcall 103 [tx q] (i2) (by kernel_rfl) Tryz.call103 ?_
 refine kcall 17 [t3 z1 z2 z3,t3 x1 x2 x3] (h3) (by kernel_rfl) Tryz.call17 ?_
 refine kcall 103 [tx r] (i3) (by kernel_rfl) Tryz.call103 ?_
 refine kcall 104 [t3 x1 x2 x3,t3 y1 y2 y3,t3 z1 z2 z3] (h4) (by kernel_rfl) Tryz.call104 ?_
 refine kcall 48 [tx v] (h5) (by kernel_rfl) Tryz.call48 ?_
 exact kret Tryz.func41 (by kernel_rfl)
theorem checkFrameR {o1 o2 o3 x1 x2 x3 y1 y2 y3 z1 z2 z3:ByteArray} (h1:Fits Tryz.prog 16 [t3 o1 o2 o3] (it 0)) (h2:Fits Tryz.prog 16 [t3 x1 x2 x3] (it 0)) (h3:Fits Tryz.prog 16 [t3 y1 y2 y3] (it 0)) (h4:Fits Tryz.prog 16 [t3 z1 z2 z3] (it 0))
 (i2:Fits Tryz.prog 40 [t3 x1 x2 x3] (bl false)) (i3:Fits Tryz.prog 40 [t3 y1 y2 y3] (bl false)) (i4:Fits Tryz.prog 40 [t3 z1 z2 z3] (bl false)) (h5:Fits Tryz.prog 41 [fr12 o1 o2 o3 x1 x2 x3 y1 y2 y3 z1 z2 z3] (it 0)):Fits Tryz.prog 8 [fr12 o1 o2 o3 x1 x2 x3 y1 y2 y3 z1 z2 z3] (it 0):=by
 refine kgoN 15 Tryz.func8 (by kernel_rfl) fun w00=>?_
 refine kown (by kernel_rfl) ?_
 refine kcall 16 [t3 o1 o2 o3] (h1) (by kernel_rfl) Tryz.call16 ?_
 refine kcall 16 [t3 x1 x2 x3] (h2) (by kernel_rfl) Tryz.call16 ?_
 refine kcall 16 [t3 y1 y2 y3] (h3) (by kernel_rfl) Tryz.call16 ?_
 refine kcall 16 [t3 z1 z2 z3] (h4) (by kernel_rfl) Tryz.call16 ?_
 refine kcall 40 [t3 x1 x2 x3] (i2) (by kernel_rfl) Tryz.call40 ?_
 refine kcall 40 [t3 y1 y2 y3] (i3) (by kernel_rfl) Tryz.call40 ?_
 refine kcall 40 [t3 z1 z2 z3] (i4) (by kernel_rfl) Tryz.call40 ?_
 refine kcall 41 [fr12 o1 o2 o3 x1 x2 x3 y1 y2 y3 z1 z2 z3] (h5) (by kernel_rfl) Tryz.call41 ?_
 exact kret Tryz.func8 (by kernel_rfl)
theorem stretchR {o1 o2 o3 x1 x2 x3 y1 y2 y3 z1 z2 z3 p q r:ByteArray} (h1:Fits Tryz.prog 42 [t3 x1 x2 x3] (tx p)) (h2:Fits Tryz.prog 42 [t3 y1 y2 y3] (tx q)) (h3:Fits Tryz.prog 42 [t3 z1 z2 z3] (tx r)):Fits Tryz.prog 9 [fr12 o1 o2 o3 x1 x2 x3 y1 y2 y3 z1 z2 z3] (t3 p q r):=by
 refine kgo Tryz.func9 (by kernel_rfl) fun w00=>?_
 refine kcall 42 [t3 x1 x2 x3] (h1) (by kernel_rfl) Tryz.call42 ?_
 refine kcall 42 [t3 y1 y2 y3] (h2) (by kernel_rfl) Tryz.call42 ?_
 refine kcall 42 [t3 z1 z2 z3] (h3) (by kernel_rfl) Tryz.call42 ?_
 exact kret Tryz.func9 (by kernel_rfl)
end
theorem equalV (d:Nat) (a b c x y z:ByteArray) (w:World):(Op.equalIn (d+2) 25 (.agg #[.string a,.string b,.string c]) (.agg #[.string x,.string y,.string z])).run Tryz.prog w = .ok (a.toList==x.toList&&b.toList==y.toList&&c.toList==z.toList) w :=
 equal3 (d+1) (e:=22) (by kernel_rfl) (by kernel_rfl) (fun w=>by kernel_rfl) (fun w=>by kernel_rfl) (fun w=>run_equalIn_string w _ _ _ _ (by kernel_rfl)) (fun w=>run_equalIn_string w _ _ _ _ (by kernel_rfl)) (fun w=>run_equalIn_string w _ _ _ _ (by kernel_rfl)) w
theorem equalFr (a0 a1 a2 a3 a4 a5 a6 a7 a8 a9 b0 b1:ByteArray) (w:World):(Op.equal 32 (.agg #[.string a0,.string a1,.string a2,.string a3,.string a4,.string a5,.string a6,.string a7,.string a8,.string a9,.string b0,.string b1])
 (.agg #[.string a0,.string a1,.string a2,.string a3,.string a4,.string a5,.string a6,.string a7,.string a8,.string a9,.string b0,.string b1])).run Tryz.prog w = .ok true w:=by
 have u:=Tryz.isAgg25
 have z:=Tryz.sizeOf25
 have k:=fun (a b c:ByteArray) (w:World)=>equalV 9997 a b c a b c w
 simp only [beq_self_eq_true,Bool.and_self] at k
 unfold Op.equal Op.maxDepth
 rw [show (10000:Nat)=9999+1 from rfl,run_equalIn_struct w 9999 _ _ _ (by kernel_rfl) (by kernel_rfl)]
 simp only [Program.fieldsOf,Tryz.underlying32]
 simp [go_sem,u,z,Op.eqFields,k]
theorem equalQ (a b c d x y z v:ByteArray) (w:World):(Op.equal 23 (.agg #[.string a,.string b,.string c,.string d]) (.agg #[.string x,.string y,.string z,.string v])).run Tryz.prog w = .ok (a.toList==x.toList&&b.toList==y.toList&&c.toList==z.toList&&d.toList==v.toList) w :=
 equal4 9999 (e:=22) (by kernel_rfl) (by kernel_rfl) (fun w=>by kernel_rfl) (fun w=>by kernel_rfl) (fun w=>run_equalIn_string w _ _ _ _ (by kernel_rfl)) (fun w=>run_equalIn_string w _ _ _ _ (by kernel_rfl)) (fun w=>run_equalIn_string w _ _ _ _ (by kernel_rfl)) (fun w=>run_equalIn_string w _ _ _ _ (by kernel_rfl)) w
theorem segS {β:List Nat} {s:ByteArray} {l:List (Seg Kn)} {cs:List Value} {w:World} (h:holdsL β (isS s::l) cs w):∃ r,cs = .string s::r∧holdsL β l r w:=by
 obtain ⟨a,b,rfl,h1,h2⟩:=h
 rw [show a=_ from h1]
 exact ⟨b,rfl,h2⟩
theorem fr_is {a0 a1 a2 a3 a4 a5 a6 a7 a8 a9 b0 b1:ByteArray} {β:List Nat} {v:Value} {w:World} (h:(fr12 a0 a1 a2 a3 a4 a5 a6 a7 a8 a9 b0 b1).holds β v w) :
 v = .agg #[.string a0,.string a1,.string a2,.string a3,.string a4,.string a5,.string a6,.string a7,.string a8,.string a9,.string b0,.string b1]:=by
 obtain ⟨cs,rfl,h⟩:=h
 obtain ⟨r0,e0,h0⟩:=segS h
 obtain ⟨r1,e1,h1⟩:=segS h0
 obtain ⟨r2,e2,h2⟩:=segS h1
 obtain ⟨r3,e3,h3⟩:=segS h2
 obtain ⟨r4,e4,h4⟩:=segS h3
 obtain ⟨r5,e5,h5⟩:=segS h4
 obtain ⟨r6,e6,h6⟩:=segS h5
 obtain ⟨r7,e7,h7⟩:=segS h6
 obtain ⟨r8,e8,h8⟩:=segS h7
 obtain ⟨r9,e9,h9⟩:=segS h8
 obtain ⟨r10,e10,h10⟩:=segS h9
 obtain ⟨r11,e11,h11⟩:=segS h10
 rw [e0,e1,e2,e3,e4,e5,e6,e7,e8,e9,e10,e11,show r11 = [] from h11]
theorem q4_is {a b c d:ByteArray} {β:List Nat} {v:Value} {w:World} (h:(.fv (.ag (q4 a b c d)):AV Kn).holds β v w):v = .agg #[.string a,.string b,.string c,.string d]:=by
 obtain ⟨cs,rfl,h⟩:=h
 obtain ⟨r0,e0,h0⟩:=segS h
 obtain ⟨r1,e1,h1⟩:=segS h0
 obtain ⟨r2,e2,h2⟩:=segS h1
 obtain ⟨r3,e3,h3⟩:=segS h2
 rw [e0,e1,e2,e3,show r3 = [] from h3]
abbrev z48:Seg Kn := .lit (.string ⟨#[48]⟩)
theorem l4_is {a b c d:Value} {β:List Nat} {v:Value} {w:World} (h:(.fv (.ag [.lit a,.lit b,.lit c,.lit d]):AV Kn).holds β v w):v = .agg #[a,b,c,d]:=by
 obtain ⟨cs,rfl,x1,r1,rfl,h1,x2,r2,rfl,h2,x3,r3,rfl,h3,x4,r4,rfl,h4,e⟩:=h
 rw [show r4 = [] from e,h1.1,h2.1,h3.1,h4.1]
 rfl
section
variable {f:FuncId} {w00:World} {Out:Value→World→Prop} {c:Cfg Kn}
theorem kf12 (x y:Operand) (a0 a1 a2 a3 a4 a5 a6 a7 a8 a9 b0 b1:ByteArray) (hg:Ok Tryz.prog f w00 Out (runA Tryz.prog 1000 (c.give (bl false))))
 (hc:(c.op.map fun o=>o.op,c.okT (bl false),c.ev x,c.ev y)=(some (.binOp .neq 32 x y 32),true,fr12 a0 a1 a2 a3 a4 a5 a6 a7 a8 a9 b0 b1,fr12 a0 a1 a2 a3 a4 a5 a6 a7 a8 a9 b0 b1):=by kernel_rfl):Ok Tryz.prog f w00 Out c :=
 kop2 (.binOp .neq 32 x y 32) x y _ _ (bl false) hc (by simp [Op.operands]) (by simp [Op.operands]) (fun ρ o β w ho hx hy=>⟨_,agg_ne (by kernel_rfl) (equalFr a0 a1 a2 a3 a4 a5 a6 a7 a8 a9 b0 b1 w) ho (fr_is hx) (fr_is hy),lit_hold rfl⟩) hg
theorem kq4 (x y:Operand) (p q r s:ByteArray) (b:Bool) (h:(p.toList==(⟨#[48]⟩:ByteArray).toList&&q.toList==(⟨#[48]⟩:ByteArray).toList&&r.toList==(⟨#[48]⟩:ByteArray).toList&&s.toList==(⟨#[48]⟩:ByteArray).toList)=b) (hg:Ok Tryz.prog f w00 Out (runA Tryz.prog 1000 (c.give (bl b))))
 (hc:(c.op.map fun o=>o.op,c.okT (bl b),c.ev x,c.ev y)=(some (.binOp .eql 23 x y 23),true,.fv (.ag (q4 p q r s)),.fv (.ag [z48,z48,z48,z48])):=by kernel_rfl):Ok Tryz.prog f w00 Out c :=
 kop2 (.binOp .eql 23 x y 23) x y _ _ (bl b) hc (by simp [Op.operands]) (by simp [Op.operands]) (fun ρ o β w ho hx hy=>⟨_,agg_eq (by kernel_rfl) (h▸equalQ p q r s _ _ _ _ w) ho (q4_is hx) (l4_is hy),lit_hold rfl⟩) hg
end
abbrev e0:Seg Kn := .lit (.string ⟨#[]⟩)
theorem apiTurnZeroF {w u1 u2 u3:Rat} (hw:Wr w) (hu:Wr3 u1 u2 u3) (h0:w=0) (h1:(decide (u1=0)&&decide (u2=0)&&decide (u3=0))=true):FitsW Tryz.prog Gl 7 [.fv (.ag (q4 (writeB w) (writeB u1) (writeB u2) (writeB u3)))] (.tup [.ag [e0,e0,e0,e0,e0,e0,e0,e0,e0,e0,e0,e0],.sc (.lit (.int .i64 6))]):=by
 refine kgoW Tryz.func7 (by kernel_rfl) fun w00 hG=>?_;have hI:=keepGl hG
 refine kcallW hI 29 [fnv 30,tx (writeB w),fnv 31,vS u1 u2 u3] (readRV hw hu) (by kernel_rfl) Tryz.call29 ?_
 refine kcall 32 [num w] (isZeroF (by rw [decide_eq_true_eq];exact h0)) (by kernel_rfl) Tryz.call32 ?_
 refine kcall 33 [vc u1 u2 u3] (vIsZeroF h1) (by kernel_rfl) Tryz.call33 ?_
 exact kret Tryz.func7 (by kernel_rfl)
abbrev Tx:=Nat→ByteArray
abbrev Q4 (q:Tx):AV Kn := .fv (.ag (q4 (q 0) (q 1) (q 2) (q 3)))
abbrev V3 (v:Tx):AV Kn:=t3 (v 0) (v 1) (v 2)
abbrev FR (f:Tx):AV Kn:=fr12 (f 0) (f 1) (f 2) (f 3) (f 4) (f 5) (f 6) (f 7) (f 8) (f 9) (f 10) (f 11)
abbrev okV3 (v:Tx):AV Kn := .tup [.ag [isS (v 0),isS (v 1),isS (v 2)],.sc z0]
abbrev okFR (f:Tx):AV Kn := .tup [.ag [isS (f 0),isS (f 1),isS (f 2),isS (f 3),isS (f 4),isS (f 5),isS (f 6),isS (f 7),isS (f 8),isS (f 9),isS (f 10),isS (f 11)],.sc z0]
abbrev P6 (p s:Tx):AV Kn := .fv (.ag [isS (p 0),isS (p 1),isS (p 2),isS (s 0),isS (s 1),isS (s 2)])
abbrev isZ4 (q:Tx):Bool:=(q 0).toList==(⟨#[48]⟩:ByteArray).toList&&(q 1).toList==(⟨#[48]⟩:ByteArray).toList&&(q 2).toList==(⟨#[48]⟩:ByteArray).toList&&(q 3).toList==(⟨#[48]⟩:ByteArray).toList
abbrev FL (q:Tx) (b:Bool):Prop:=Fits Tryz.prog 5 [.fv (.nsl 4 23 (q4 (q 0) (q 1) (q 2) (q 3))),it 4,it 3] (bl b)
abbrev FV3 (p:Tx) (b:Bool):Prop:=Fits Tryz.prog 6 [V3 p,it 3] (bl b)
abbrev TurnW (q:AV Kn) (x:AV Kn):Prop:=FitsW Tryz.prog Gl 7 [q] x
abbrev PlaceW (f p x:Tx):Prop:=FitsW Tryz.prog Gl 15 [FR f,V3 p] (okV3 x)
abbrev one3:AV Kn:=vS ((1:Int):Rat) ((1:Int):Rat) ((1:Int):Rat)
abbrev m3:ByteArray:=⟨#[45,51]⟩
section
variable {q r c m f g i h p s a b x y:Tx} {d:ByteArray}
set_option maxRecDepth 100000 in
theorem turns_walk (l1:FL q true) (l2:FL r true) (v1:FV3 p true) (v2:FV3 s true) (hq:isZ4 q=false) (hr:isZ4 r=false) (cF:TurnW (Q4 q) (okFR f)) (cG:TurnW (Q4 r) (okFR g)) (kF:Fits Tryz.prog 8 [FR f] (it 0)) (kG:Fits Tryz.prog 8 [FR g] (it 0)) (sF:Fits Tryz.prog 9 [FR f] one3)
 (cI:FitsW Tryz.prog Gl 11 [FR f] (okFR i)) (n1:Fits Tryz.prog 12 [tx (q 1)] (tx (c 1))) (n2:Fits Tryz.prog 12 [tx (q 2)] (tx (c 2))) (n3:Fits Tryz.prog 12 [tx (q 3)] (tx (c 3))) (cC:TurnW (.fv (.ag (q4 (q 0) (c 1) (c 2) (c 3)))) (okFR i))
 (w0:Fits Tryz.prog 13 [lt m3,tx (q 0)] (tx (m 0))) (w1:Fits Tryz.prog 13 [lt m3,tx (q 1)] (tx (m 1))) (w2:Fits Tryz.prog 13 [lt m3,tx (q 2)] (tx (m 2))) (w3:Fits Tryz.prog 13 [lt m3,tx (q 3)] (tx (m 3))) (cM:TurnW (Q4 m) (okFR f))
 (cH:FitsW Tryz.prog Gl 14 [FR f,FR g] (okFR h)) (cA:PlaceW f p a) (cB:PlaceW f s b) (kA:Fits Tryz.prog 16 [V3 a] (it 0)) (kB:Fits Tryz.prog 16 [V3 b] (it 0)) (kH:Fits Tryz.prog 8 [FR h] (it 0))
 (cX:PlaceW g p x) (cY:PlaceW f x y) (cZ:PlaceW h p y) (cU:PlaceW i a p) (dA:Fits Tryz.prog 17 [V3 a,V3 b] (tx d)) (dB:Fits Tryz.prog 17 [V3 p,V3 s] (tx d)):FitsW Tryz.prog Gl 3 [Q4 q,Q4 r,P6 p s] (bl true):=by
 have i1:M64 1:=by constructor <;> omega
 refine kgoW Tryz.func3 (by kernel_rfl) fun w00 hG=>?_;have hI:=keepGl hG
 refine kcallW hI 4 [] (awakeF) (by kernel_rfl) Tryz.call4 ?_
 refine kcallSA 5 0 4 23 _ [it 4,it 3] l1 (by kernel_rfl) Tryz.call5 ?_
 refine kcallSA 5 1 4 23 _ [it 4,it 3] l2 (by kernel_rfl) Tryz.call5 ?_
 refine kcall 6 [V3 p,it 3] (v1) (by kernel_rfl) Tryz.call6 ?_
 refine kcall 6 [V3 s,it 3] (v2) (by kernel_rfl) Tryz.call6 ?_
 refine kq4 (.tmp 60) (.tmp 61) (q 0) (q 1) (q 2) (q 3) false hq ?_
 refine kq4 (.tmp 64) (.tmp 65) (r 0) (r 1) (r 2) (r 3) false hr ?_
 refine kcallW hI 7 [Q4 q] (cF) (by kernel_rfl) Tryz.call7 ?_
 refine kcallW hI 7 [Q4 r] (cG) (by kernel_rfl) Tryz.call7 ?_
 refine kcall 8 [FR f] (kF) (by kernel_rfl) Tryz.call8 ?_
 refine kcall 8 [FR g] (kG) (by kernel_rfl) Tryz.call8 ?_
 refine kcall 9 [FR f] (sF) (by kernel_rfl) Tryz.call9 ?_
 refine kcall 10 [it 1,it 1,it 1] (lawVecF i1 i1 i1) (by kernel_rfl) Tryz.call10 ?_
 refine kv3 (.tmp 101) (.tmp 102) (writeB ((1:Int):Rat)) (writeB ((1:Int):Rat)) (writeB ((1:Int):Rat)) ?_
 refine kcallW hI 11 [FR f] (cI) (by kernel_rfl) Tryz.call11 ?_
 refine kcall 12 [tx (q 1)] (n1) (by kernel_rfl) Tryz.call12 ?_
 refine kcall 12 [tx (q 2)] (n2) (by kernel_rfl) Tryz.call12 ?_
 refine kcall 12 [tx (q 3)] (n3) (by kernel_rfl) Tryz.call12 ?_
 refine kcallW hI 7 [.fv (.ag (q4 (q 0) (c 1) (c 2) (c 3)))] (cC) (by kernel_rfl) Tryz.call7 ?_
 refine kcall 13 [lt m3,tx (q 0)] (w0) (by kernel_rfl) Tryz.call13 ?_
 refine kcall 13 [lt m3,tx (q 1)] (w1) (by kernel_rfl) Tryz.call13 ?_
 refine kcall 13 [lt m3,tx (q 2)] (w2) (by kernel_rfl) Tryz.call13 ?_
 refine kcall 13 [lt m3,tx (q 3)] (w3) (by kernel_rfl) Tryz.call13 ?_
 refine kcallW hI 7 [Q4 m] (cM) (by kernel_rfl) Tryz.call7 ?_
 refine kcallW hI 14 [FR f,FR g] (cH) (by kernel_rfl) Tryz.call14 ?_
 refine kcallW hI 15 [FR f,V3 p] (cA) (by kernel_rfl) Tryz.call15 ?_
 refine kcallW hI 15 [FR f,V3 s] (cB) (by kernel_rfl) Tryz.call15 ?_
 refine kf12 (.tmp 176) (.tmp 177) (i 0) (i 1) (i 2) (i 3) (i 4) (i 5) (i 6) (i 7) (i 8) (i 9) (i 10) (i 11) ?_
 refine kf12 (.tmp 181) (.tmp 182) (f 0) (f 1) (f 2) (f 3) (f 4) (f 5) (f 6) (f 7) (f 8) (f 9) (f 10) (f 11) ?_
 refine kcall 16 [V3 a] (kA) (by kernel_rfl) Tryz.call16 ?_
 refine kcall 16 [V3 b] (kB) (by kernel_rfl) Tryz.call16 ?_
 refine kcall 8 [FR h] (kH) (by kernel_rfl) Tryz.call8 ?_
 refine kcallW hI 15 [FR g,V3 p] (cX) (by kernel_rfl) Tryz.call15 ?_
 refine kcallW hI 15 [FR f,V3 x] (cY) (by kernel_rfl) Tryz.call15 ?_
 refine kcallW hI 15 [FR h,V3 p] (cZ) (by kernel_rfl) Tryz.call15 ?_
 refine kcallW hI 15 [FR i,V3 a] (cU) (by kernel_rfl) Tryz.call15 ?_
 refine kv3 (.tmp 235) (.tmp 236) (y 0) (y 1) (y 2) ?_
 refine kv3 (.tmp 240) (.tmp 242) (p 0) (p 1) (p 2) ?_
 refine kcall 17 [V3 a,V3 b] (dA) (by kernel_rfl) Tryz.call17 ?_
 refine kcall 17 [V3 p,V3 s] (dB) (by kernel_rfl) Tryz.call17 ?_
 refine ktx 247 252 d ?_
 exact kret Tryz.func3 (by kernel_rfl)
abbrev zero4:AV Kn := .fv (.ag [z48,z48,z48,z48])
abbrev zeroF:AV Kn := .tup [.ag [e0,e0,e0,e0,e0,e0,e0,e0,e0,e0,e0,e0],.sc (.lit (.int .i64 6))]
set_option maxRecDepth 100000 in
theorem turns_zero (l1:FL q true) (l2:FL r true) (v1:FV3 p true) (v2:FV3 s true) (hz:isZ4 q=true∨isZ4 q=false∧isZ4 r=true) (cZ:TurnW zero4 zeroF):FitsW Tryz.prog Gl 3 [Q4 q,Q4 r,P6 p s] (bl true):=by
 refine kgoW Tryz.func3 (by kernel_rfl) fun w00 hG=>?_;have hI:=keepGl hG
 refine kcallW hI 4 [] (awakeF) (by kernel_rfl) Tryz.call4 ?_
 refine kcallSA 5 0 4 23 _ [it 4,it 3] l1 (by kernel_rfl) Tryz.call5 ?_
 refine kcallSA 5 1 4 23 _ [it 4,it 3] l2 (by kernel_rfl) Tryz.call5 ?_
 refine kcall 6 [V3 p,it 3] (v1) (by kernel_rfl) Tryz.call6 ?_
 refine kcall 6 [V3 s,it 3] (v2) (by kernel_rfl) Tryz.call6 ?_
 rcases hz with hq|⟨hq,hr⟩
 ·refine kq4 (.tmp 60) (.tmp 61) (q 0) (q 1) (q 2) (q 3) true hq ?_
  refine kcallW hI 7 [zero4] (cZ) (by kernel_rfl) Tryz.call7 ?_
  exact kret Tryz.func3 (by kernel_rfl)
 ·refine kq4 (.tmp 60) (.tmp 61) (q 0) (q 1) (q 2) (q 3) false hq ?_
  refine kq4 (.tmp 64) (.tmp 65) (r 0) (r 1) (r 2) (r 3) true hr ?_
  refine kcallW hI 7 [zero4] (cZ) (by kernel_rfl) Tryz.call7 ?_
  exact kret Tryz.func3 (by kernel_rfl)
set_option maxRecDepth 100000 in
theorem turns_no {b1 b2 b3 b4:Bool} (l1:FL q b1) (l2:FL r b2) (v1:FV3 p b3) (v2:FV3 s b4) (hb:(b1&&b2&&b3&&b4)=false):FitsW Tryz.prog Gl 3 [Q4 q,Q4 r,P6 p s] (bl true):=by
 refine kgoW Tryz.func3 (by kernel_rfl) fun w00 hG=>?_;have hI:=keepGl hG
 refine kcallW hI 4 [] (awakeF) (by kernel_rfl) Tryz.call4 ?_
 cases b1
 ·refine kcallSA 5 0 4 23 _ [it 4,it 3] l1 (by kernel_rfl) Tryz.call5 ?_
  refine kcallW hI 4 [] (awakeF) (by kernel_rfl) Tryz.call4 ?_
  exact kret Tryz.func3 (by kernel_rfl)
 refine kcallSA 5 0 4 23 _ [it 4,it 3] l1 (by kernel_rfl) Tryz.call5 ?_
 cases b2
 ·refine kcallSA 5 1 4 23 _ [it 4,it 3] l2 (by kernel_rfl) Tryz.call5 ?_
  refine kcallW hI 4 [] (awakeF) (by kernel_rfl) Tryz.call4 ?_
  exact kret Tryz.func3 (by kernel_rfl)
 refine kcallSA 5 1 4 23 _ [it 4,it 3] l2 (by kernel_rfl) Tryz.call5 ?_
 cases b3
 ·refine kcall 6 [V3 p,it 3] (v1) (by kernel_rfl) Tryz.call6 ?_
  refine kcallW hI 4 [] (awakeF) (by kernel_rfl) Tryz.call4 ?_
  exact kret Tryz.func3 (by kernel_rfl)
 refine kcall 6 [V3 p,it 3] (v1) (by kernel_rfl) Tryz.call6 ?_
 cases b4
 ·refine kcall 6 [V3 s,it 3] (v2) (by kernel_rfl) Tryz.call6 ?_
  refine kcallW hI 4 [] (awakeF) (by kernel_rfl) Tryz.call4 ?_
  exact kret Tryz.func3 (by kernel_rfl)
 ·cases hb
end
abbrev nm (w a b c:Rat):Rat:=w*w+a*a+b*b+c*c
def rd (w a b c:Rat):Rat:=(w*w+a*a-b*b-c*c)/nm w a b c
def ro (w a b c:Rat):Rat:=((2:Int):Rat)*(a*b+w*c)/nm w a b c
structure On (x1 x2 x3 y1 y2 y3 z1 z2 z3:Rat):Prop where
 xx:dt x1 x2 x3 x1 x2 x3=1
 yy:dt y1 y2 y3 y1 y2 y3=1
 zz:dt z1 z2 z3 z1 z2 z3=1
 xy:dt x1 x2 x3 y1 y2 y3=0
 yz:dt y1 y2 y3 z1 z2 z3=0
 zx:dt z1 z2 z3 x1 x2 x3=0
 c1:y2*z3-y3*z2=x1
 c2:y3*z1-y1*z3=x2
 c3:y1*z2-y2*z1=x3
structure Rt (x1 x2 x3 y1 y2 y3 z1 z2 z3:Rat):Prop extends On x1 x2 x3 y1 y2 y3 z1 z2 z3 where
 d1:z2*x3-z3*x2=y1
 d2:z3*x1-z1*x3=y2
 d3:z1*x2-z2*x1=y3
 f1:x2*y3-x3*y2=z1
 f2:x3*y1-x1*y3=z2
 f3:x1*y2-x2*y1=z3
theorem dotk {k N a1 a2 a3 b1 b2 b3 e:Rat} (h:k*N=1) (he:a1*b1+a2*b2+a3*b3=N*N*e):dt (k*a1) (k*a2) (k*a3) (k*b1) (k*b2) (k*b3)=e:=by
 have h1:dt (k*a1) (k*a2) (k*a3) (k*b1) (k*b2) (k*b3)=k*k*(a1*b1+a2*b2+a3*b3):=by grind
 have h2:k*k*(N*N*e)=k*N*(k*N)*e:=by grind
 rw [h1,he,h2,h]
 grind
theorem crsk {k N a2 a3 b2 b3 e:Rat} (h:k*N=1) (he:a2*b3-a3*b2=N*e):k*a2*(k*b3)-k*a3*(k*b2)=k*e:=by
 have h1:k*a2*(k*b3)-k*a3*(k*b2)=k*k*(a2*b3-a3*b2):=by grind
 have h2:k*k*(N*e)=k*N*(k*e):=by grind
 rw [h1,he,h2,h]
 grind
theorem rt_of {w a b c:Rat} (h:nm w a b c≠0):Rt (rd w a b c) (ro w a b c) (ro w a c (-b)) (ro w b a (-c)) (rd w b a c) (ro w b c a) (ro w c a b) (ro w c b (-a)) (rd w c a b):=by
 obtain ⟨k,hk⟩:∃ k,k=(nm w a b c)⁻¹:=⟨_,rfl⟩
 have h1:k*nm w a b c=1:=by rw [hk];exact Rat.inv_mul_cancel _ h
 have e1:∀ x:Rat,x/nm w a b c=k*x:=fun x=>by rw [hk,Rat.div_def,Rat.mul_comm]
 have n1:nm w b a c=nm w a b c:=by unfold nm;grind
 have n2:nm w a c (-b)=nm w a b c:=by unfold nm;grind
 have n3:nm w b a (-c)=nm w a b c:=by unfold nm;grind
 have n4:nm w b c a=nm w a b c:=by unfold nm;grind
 have n5:nm w c a b=nm w a b c:=by unfold nm;grind
 have n6:nm w c b (-a)=nm w a b c:=by unfold nm;grind
 unfold rd ro
 simp only [n1,n2,n3,n4,n5,n6,e1]
 clear e1 hk n1 n2 n3 n4 n5 n6
 have s2:((2:Int):Rat)=2:=rfl
 rw [s2]
 clear s2
 refine ⟨⟨dotk h1 ?_,dotk h1 ?_,dotk h1 ?_,dotk h1 ?_,dotk h1 ?_,dotk h1 ?_,crsk h1 ?_,crsk h1 ?_,crsk h1 ?_⟩,crsk h1 ?_,crsk h1 ?_,crsk h1 ?_,crsk h1 ?_,crsk h1 ?_,crsk h1 ?_⟩ <;> (clear h1 h;unfold nm;grind)
section
variable {x1 x2 x3 y1 y2 y3 z1 z2 z3 u1 u2 u3 v1 v2 v3 w1 w2 w3:Rat}
theorem Rt.dot (h:Rt x1 x2 x3 y1 y2 y3 z1 z2 z3):dt (ld u1 u2 u3 x1 y1 z1) (ld u1 u2 u3 x2 y2 z2) (ld u1 u2 u3 x3 y3 z3) (ld v1 v2 v3 x1 y1 z1) (ld v1 v2 v3 x2 y2 z2) (ld v1 v2 v3 x3 y3 z3)=dt u1 u2 u3 v1 v2 v3:=by
 have e:dt (ld u1 u2 u3 x1 y1 z1) (ld u1 u2 u3 x2 y2 z2) (ld u1 u2 u3 x3 y3 z3) (ld v1 v2 v3 x1 y1 z1) (ld v1 v2 v3 x2 y2 z2) (ld v1 v2 v3 x3 y3 z3) =
  u1*v1*dt x1 x2 x3 x1 x2 x3+u2*v2*dt y1 y2 y3 y1 y2 y3+u3*v3*dt z1 z2 z3 z1 z2 z3+(u1*v2+u2*v1)*dt x1 x2 x3 y1 y2 y3+(u2*v3+u3*v2)*dt y1 y2 y3 z1 z2 z3+(u3*v1+u1*v3)*dt z1 z2 z3 x1 x2 x3:=by clear h;unfold dt ld;grind
 rw [e,h.xx,h.yy,h.zz,h.xy,h.yz,h.zx]
 unfold dt
 grind
theorem cross_ld (a2 a3 b2 b3 c2 c3:Rat):ld u1 u2 u3 a2 b2 c2*ld v1 v2 v3 a3 b3 c3-ld u1 u2 u3 a3 b3 c3*ld v1 v2 v3 a2 b2 c2=ld (u2*v3-u3*v2) (u3*v1-u1*v3) (u1*v2-u2*v1) (b2*c3-b3*c2) (c2*a3-c3*a2) (a2*b3-a3*b2):=by
 unfold ld
 grind
theorem On.mul (h:Rt x1 x2 x3 y1 y2 y3 z1 z2 z3) (k:On u1 u2 u3 v1 v2 v3 w1 w2 w3):On (ld u1 u2 u3 x1 y1 z1) (ld u1 u2 u3 x2 y2 z2) (ld u1 u2 u3 x3 y3 z3) (ld v1 v2 v3 x1 y1 z1) (ld v1 v2 v3 x2 y2 z2) (ld v1 v2 v3 x3 y3 z3) (ld w1 w2 w3 x1 y1 z1) (ld w1 w2 w3 x2 y2 z2) (ld w1 w2 w3 x3 y3 z3) :=
 ⟨h.dot.trans k.xx,h.dot.trans k.yy,h.dot.trans k.zz,h.dot.trans k.xy,h.dot.trans k.yz,h.dot.trans k.zx,
  by rw [cross_ld,k.c1,k.c2,k.c3,h.c1,h.d1,h.f1],by rw [cross_ld,k.c1,k.c2,k.c3,h.c2,h.d2,h.f2],by rw [cross_ld,k.c1,k.c2,k.c3,h.c3,h.d3,h.f3]⟩
theorem On.sgn (h:On x1 x2 x3 y1 y2 y3 z1 z2 z3):dt x1 x2 x3 (y2*z3-y3*z2) (y3*z1-y1*z3) (y1*z2-y2*z1)=1:=by
 rw [h.c1,h.c2,h.c3];exact h.xx
theorem Rt.back (h:On x1 x2 x3 y1 y2 y3 z1 z2 z3):ld (ld u1 u2 u3 x1 y1 z1) (ld u1 u2 u3 x2 y2 z2) (ld u1 u2 u3 x3 y3 z3) x1 x2 x3=u1∧ld (ld u1 u2 u3 x1 y1 z1) (ld u1 u2 u3 x2 y2 z2) (ld u1 u2 u3 x3 y3 z3) y1 y2 y3=u2∧ld (ld u1 u2 u3 x1 y1 z1) (ld u1 u2 u3 x2 y2 z2) (ld u1 u2 u3 x3 y3 z3) z1 z2 z3=u3:=by
 have a1:=h.xx
 have a2:=h.yy
 have a3:=h.zz
 have b1:=h.xy
 have b2:=h.yz
 have b3:=h.zx
 clear h
 refine ⟨?_,?_,?_⟩
 ·have e:ld (ld u1 u2 u3 x1 y1 z1) (ld u1 u2 u3 x2 y2 z2) (ld u1 u2 u3 x3 y3 z3) x1 x2 x3=u1*dt x1 x2 x3 x1 x2 x3+u2*dt x1 x2 x3 y1 y2 y3+u3*dt z1 z2 z3 x1 x2 x3:=by clear a1 a2 a3 b1 b2 b3;unfold ld dt;grind
  rw [e,a1,b1,b3];grind
 ·have e:ld (ld u1 u2 u3 x1 y1 z1) (ld u1 u2 u3 x2 y2 z2) (ld u1 u2 u3 x3 y3 z3) y1 y2 y3=u1*dt x1 x2 x3 y1 y2 y3+u2*dt y1 y2 y3 y1 y2 y3+u3*dt y1 y2 y3 z1 z2 z3:=by clear a1 a2 a3 b1 b2 b3;unfold ld dt;grind
  rw [e,b1,a2,b2];grind
 ·have e:ld (ld u1 u2 u3 x1 y1 z1) (ld u1 u2 u3 x2 y2 z2) (ld u1 u2 u3 x3 y3 z3) z1 z2 z3=u1*dt z1 z2 z3 x1 x2 x3+u2*dt y1 y2 y3 z1 z2 z3+u3*dt z1 z2 z3 z1 z2 z3:=by clear a1 a2 a3 b1 b2 b3;unfold ld dt;grind
  rw [e,b3,b2,a3];grind
theorem ld_ld {p1 p2 p3:Rat}:ld (ld p1 p2 p3 u1 v1 w1) (ld p1 p2 p3 u2 v2 w2) (ld p1 p2 p3 u3 v3 w3) x1 y1 z1=ld p1 p2 p3 (ld u1 u2 u3 x1 y1 z1) (ld v1 v2 v3 x1 y1 z1) (ld w1 w2 w3 x1 y1 z1):=by unfold ld;grind
end
theorem bq_quot {m:Int} {n k:Nat} {x:Rat} (hn:0<n) (hx:x*n=m) (hm:m.natAbs<10^k) (hk:n<10^k):Bq k x:=by
 have e:x=mkRat m n:=by
  rw [Rat.mkRat_eq_div,← hx]
  have:(n:Rat)≠0:=by exact_mod_cast (by omega:n≠0)
  rw [Rat.div_def,Rat.mul_assoc,Rat.mul_inv_cancel _ this,Rat.mul_one]
 obtain ⟨h1,h2⟩:=mkRat_num_le m (d:=n) (by omega)
 rw [e]
 exact ⟨by omega,by omega⟩
theorem one_den {a b c d:Rat} (ha:Bq 3 a) (hb:Bq 3 b) (hc:Bq 3 c) (hd:Bq 3 d):∃ (D:Rat) (A B C E:Int),D≠0∧a*D=A∧b*D=B∧c*D=C∧d*D=E∧A.natAbs<10^12∧B.natAbs<10^12∧C.natAbs<10^12∧E.natAbs<10^12:=by
 have key:∀ q:Rat,q*(q.den:Rat)=q.num:=fun q=>by
  have h0:(q.den:Rat)≠0:=by exact_mod_cast q.den_nz
  have h1:q=q.num/q.den:=by rw [← Rat.mkRat_eq_div,Rat.mkRat_self]
  have h2:q.num/(q.den:Rat)*q.den=q.num:=by rw [Rat.div_def,Rat.mul_assoc,Rat.inv_mul_cancel _ h0,Rat.mul_one]
  rw [← h1] at h2
  exact h2
 have mz:∀ {x y:Rat},x≠0→y≠0→x*y≠0:=fun hx hy e=>(Rat.mul_eq_zero.1 e).elim hx hy
 have nz:∀ q:Rat,(q.den:Rat)≠0:=fun q=>by exact_mod_cast q.den_nz
 have sz:∀ {x:Int} {l m n:Nat},x.natAbs<10^3→l<10^3→m<10^3→n<10^3→(x*(l*m*n:Nat)).natAbs<10^12:=fun h1 h2 h3 h4=>by
  rw [Int.natAbs_mul,Int.natAbs_natCast]
  exact Nat.mul_lt_mul'' (c:=10^3) (d:=10^9) h1 (Nat.mul_lt_mul'' (c:=10^6) (d:=10^3) (Nat.mul_lt_mul'' (c:=10^3) (d:=10^3) h2 h3) h4)
 refine ⟨a.den*b.den*c.den*d.den,a.num*(b.den*c.den*d.den:Nat),b.num*(a.den*c.den*d.den:Nat),c.num*(a.den*b.den*d.den:Nat),d.num*(a.den*b.den*c.den:Nat),?_,?_,?_,?_,?_,sz ha.1 hb.2 hc.2 hd.2,sz hb.1 ha.2 hc.2 hd.2,sz hc.1 ha.2 hb.2 hd.2,sz hd.1 ha.2 hb.2 hc.2⟩
 ·have h1:=nz a
  have h2:=nz b
  have h3:=nz c
  have h4:=nz d
  exact mz (mz (mz h1 h2) h3) h4
 all_goals push_cast
 ·rw [← key a];grind
 ·rw [← key b];grind
 ·rw [← key c];grind
 ·rw [← key d];grind
theorem sqi_lt {x y:Int} (hx:x.natAbs<10^12) (hy:y.natAbs<10^12):(x*y).natAbs<10^24:=by
 rw [Int.natAbs_mul]
 exact Nat.mul_lt_mul'' (c:=10^12) (d:=10^12) hx hy
theorem bq_rot {w a b c:Rat} (hw:Bq 3 w) (ha:Bq 3 a) (hb:Bq 3 b) (hc:Bq 3 c) (h:nm w a b c≠0):Bq 25 (rd w a b c)∧Bq 25 (ro w a b c)∧Bq 25 (ro w a b (-c)):=by
 obtain ⟨D,W,A,B,C,hD,e0,e1,e2,e3,s0,s1,s2,s3⟩:=one_den hw ha hb hc
 have p0:=sqi_lt s0 s0
 have p1:=sqi_lt s1 s1
 have p2:=sqi_lt s2 s2
 have p3:=sqi_lt s3 s3
 have p4:=sqi_lt s1 s2
 have p5:=sqi_lt s0 s3
 have q0:0≤W*W:=by rw [← Int.natAbs_mul_self];omega
 have q1:0≤A*A:=by rw [← Int.natAbs_mul_self];omega
 have q2:0≤B*B:=by rw [← Int.natAbs_mul_self];omega
 have q3:0≤C*C:=by rw [← Int.natAbs_mul_self];omega
 have f0:w*w*(D*D)=((W*W:Int):Rat):=by push_cast;rw [← e0];grind
 have f1:a*a*(D*D)=((A*A:Int):Rat):=by push_cast;rw [← e1];grind
 have f2:b*b*(D*D)=((B*B:Int):Rat):=by push_cast;rw [← e2];grind
 have f3:c*c*(D*D)=((C*C:Int):Rat):=by push_cast;rw [← e3];grind
 have f4:a*b*(D*D)=((A*B:Int):Rat):=by push_cast;rw [← e1,← e2];grind
 have f5:w*c*(D*D)=((W*C:Int):Rat):=by push_cast;rw [← e0,← e3];grind
 generalize W*W=w2 at *
 generalize A*A=a2 at *
 generalize B*B=b2 at *
 generalize C*C=c2 at *
 generalize A*B=ab at *
 generalize W*C=wc at *
 obtain ⟨n,hn⟩:∃ n:Nat,(n:Int)=w2+a2+b2+c2:=⟨(w2+a2+b2+c2).toNat,by omega⟩
 have hN:nm w a b c*(D*D)=(n:Rat):=by
  have:(n:Rat)=((w2+a2+b2+c2:Int):Rat):=by rw [← hn];rfl
  rw [this]
  push_cast
  rw [← f0,← f1,← f2,← f3]
  unfold nm
  grind
 have hD2:D*D≠0:=fun e=>(Rat.mul_eq_zero.1 e).elim hD hD
 have hn0:n≠0:=fun e=>by
  rw [e] at hN
  rcases Rat.mul_eq_zero.1 hN with h'|h'
  ·exact h h'
  ·exact hD2 h'
 have hlt:n<10^25:=by omega
 have q:∀ {t:Rat} {m:Int},t*(D*D)=m→m.natAbs<10^25→Bq 25 (t/nm w a b c):=fun {t m} ht hm=>by
  refine bq_quot (n:=n) (m:=m) (by omega) ?_ hm hlt
  rw [← hN,← ht,Rat.div_def]
  have:(nm w a b c)⁻¹*nm w a b c=1:=Rat.inv_mul_cancel _ h
  generalize (nm w a b c)⁻¹=i at *
  generalize nm w a b c=N at *
  grind
 have n2:nm w a b (-c)=nm w a b c:=by unfold nm;grind
 have t2:((2:Int):Rat)=2:=rfl
 unfold rd ro
 rw [n2,t2]
 refine ⟨q (m:=w2+a2-b2-c2) ?_ (by omega),q (m:=2*(ab+wc)) ?_ (by omega),q (m:=2*(ab-wc)) ?_ (by omega)⟩
 ·push_cast;rw [← f0,← f1,← f2,← f3];grind
 ·push_cast;rw [← f4,← f5];grind
 ·push_cast;rw [← f4,← f5];grind
end Go.Proofs.YtbhcckhbbclemaaGreatDoor.Ab
