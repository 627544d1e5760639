/- Parts of the proof, joined. -/
import Derived.Test.YtbkfbobdmojgnaaGreatDoorJ21
import Derived.Test.YtbkfbobdmojgnaaGreatDoorJ15
import Derived.Test.YtbkfbobdmojgnaaGreatDoorShelf
set_option linter.unusedSimpArgs false
set_option linter.unusedVariables false
namespace Go.Proofs.YtbkfbobdmojgnaaGreatDoor.Ab
open Go.RowKit Go.Proofs.YtbkfbobdmojgnaaGreatDoor Pl
section
variable {x1 x2 x3 y1 y2 y3 z1 z2 z3 r1 r2 r3:Rat} {F:FuncId}
theorem eachVN (hF:Enters F) (h1:Fits Tryz.prog F [vc x1 x2 x3] (num r1)) (h2:Fits Tryz.prog F [vc y1 y2 y3] (num r2)) (h3:Fits Tryz.prog F [vc z1 z2 z3] (num r3)):Fits Tryz.prog 105 [fnv F,mt x1 x2 x3 y1 y2 y3 z1 z2 z3] (vc r1 r2 r3):=by
 refine kgo Tryz.func105 (by kernel_rfl) fun w00=>?_
 refine kcall F [vc x1 x2 x3] (h1) (by kernel_rfl) (hF) ?_
 refine kcall F [vc y1 y2 y3] (h2) (by kernel_rfl) (hF) ?_
 refine kcall F [vc z1 z2 z3] (h3) (by kernel_rfl) (hF) ?_
 exact kret Tryz.func105 (by kernel_rfl)
theorem eachVVc {s1 s2 s3 t1 t2 t3 u1 u2 u3 o1 o2 o3 a1 a2 a3 b1 b2 b3 c1 c2 c3:Rat} (hF:Enters F) (h1:Fits Tryz.prog F [frm o1 o2 o3 a1 a2 a3 b1 b2 b3 c1 c2 c3,vc x1 x2 x3] (vc s1 s2 s3)) (h2:Fits Tryz.prog F [frm o1 o2 o3 a1 a2 a3 b1 b2 b3 c1 c2 c3,vc y1 y2 y3] (vc t1 t2 t3)) (h3:Fits Tryz.prog F [frm o1 o2 o3 a1 a2 a3 b1 b2 b3 c1 c2 c3,vc z1 z2 z3] (vc u1 u2 u3)):Fits Tryz.prog 110 [.fv (.clo F [(true,[nb o1,nb o2,nb o3,nb a1,nb a2,nb a3,nb b1,nb b2,nb b3,nb c1,nb c2,nb c3])] []),mt x1 x2 x3 y1 y2 y3 z1 z2 z3] (mt s1 s2 s3 t1 t2 t3 u1 u2 u3):=by
 refine kgo Tryz.func110 (by kernel_rfl) fun w00=>?_
 refine kcall F [frm o1 o2 o3 a1 a2 a3 b1 b2 b3 c1 c2 c3,vc x1 x2 x3] (h1) (by kernel_rfl) (hF) ?_
 refine kcall F [frm o1 o2 o3 a1 a2 a3 b1 b2 b3 c1 c2 c3,vc y1 y2 y3] (h2) (by kernel_rfl) (hF) ?_
 refine kcall F [frm o1 o2 o3 a1 a2 a3 b1 b2 b3 c1 c2 c3,vc z1 z2 z3] (h3) (by kernel_rfl) (hF) ?_
 exact kret Tryz.func110 (by kernel_rfl)
theorem eachIV {s1 s2 s3 t1 t2 t3 u1 u2 u3:Rat} (hF:Enters F) (h1:Fits Tryz.prog F [iv 1 0 0] (vc s1 s2 s3)) (h2:Fits Tryz.prog F [iv 0 1 0] (vc t1 t2 t3)) (h3:Fits Tryz.prog F [iv 0 0 1] (vc u1 u2 u3)):Fits Tryz.prog 169 [fnv F,.fv (.ag [.lit (.int .i64 1),.lit (.int .i64 0),.lit (.int .i64 0),.lit (.int .i64 0),.lit (.int .i64 1),.lit (.int .i64 0),.lit (.int .i64 0),.lit (.int .i64 0),.lit (.int .i64 1)])] (mt s1 s2 s3 t1 t2 t3 u1 u2 u3):=by
 refine kgo Tryz.func169 (by kernel_rfl) fun w00=>?_
 refine kcall F [iv 1 0 0] (h1) (by kernel_rfl) (hF) ?_
 refine kcall F [iv 0 1 0] (h2) (by kernel_rfl) (hF) ?_
 refine kcall F [iv 0 0 1] (h3) (by kernel_rfl) (hF) ?_
 exact kret Tryz.func169 (by kernel_rfl)
theorem unitsF:Fits Tryz.prog 111 [] (mt (1:Int) (0:Int) (0:Int) (0:Int) (1:Int) (0:Int) (0:Int) (0:Int) (1:Int)):=by
 have i1:M64 1:=by constructor <;> omega
 have i0:M64 0:=by constructor <;> omega
 refine kgo Tryz.func111 (by kernel_rfl) fun w00=>?_
 refine kcall 169 [fnv 109,.fv (.ag [.lit (.int .i64 1),.lit (.int .i64 0),.lit (.int .i64 0),.lit (.int .i64 0),.lit (.int .i64 1),.lit (.int .i64 0),.lit (.int .i64 0),.lit (.int .i64 0),.lit (.int .i64 1)])] (eachIV Tryz.call109 (integersF i1 i0 i0) (integersF i0 i1 i0) (integersF i0 i0 i1)) (by kernel_rfl) Tryz.call169 ?_
 exact kret Tryz.func111 (by kernel_rfl)
variable {o1 o2 o3 p1 p2 p3:Rat}
structure Lm (k:Nat) (x1 x2 x3 y1 y2 y3 z1 z2 z3:Rat):Prop where
 x1:Lf k x1
 x2:Lf k x2
 x3:Lf k x3
 y1:Lf k y1
 y2:Lf k y2
 y3:Lf k y3
 z1:Lf k z1
 z2:Lf k z2
 z3:Lf k z3
structure Lv3 (k:Nat) (a b c:Rat):Prop where
 a:Lf k a
 b:Lf k b
 c:Lf k c
theorem Lm.mono {k l:Nat} (h:Lm k x1 x2 x3 y1 y2 y3 z1 z2 z3) (hk:k≤l):Lm l x1 x2 x3 y1 y2 y3 z1 z2 z3:=⟨h.x1.mono hk,h.x2.mono hk,h.x3.mono hk,h.y1.mono hk,h.y2.mono hk,h.y3.mono hk,h.z1.mono hk,h.z2.mono hk,h.z3.mono hk⟩
theorem Lv3.mono {k l:Nat} {a b c:Rat} (h:Lv3 k a b c) (hk:k≤l):Lv3 l a b c:=⟨h.a.mono hk,h.b.mono hk,h.c.mono hk⟩
theorem squaresF (h:Lm 31 x1 x2 x3 y1 y2 y3 z1 z2 z3):Fits Tryz.prog 103 [frm o1 o2 o3 x1 x2 x3 y1 y2 y3 z1 z2 z3] (vc (dt x1 x2 x3 x1 x2 x3) (dt y1 y2 y3 y1 y2 y3) (dt z1 z2 z3 z1 z2 z3)):=by
 refine kgo Tryz.func103 (by kernel_rfl) fun w00=>?_
 refine kcall 105 [fnv 63,mt x1 x2 x3 y1 y2 y3 z1 z2 z3] (eachVN Tryz.call63 (squareF h.x1 h.x2 h.x3) (squareF h.y1 h.y2 h.y3) (squareF h.z1 h.z2 h.z3)) (by kernel_rfl) Tryz.call105 ?_
 exact kret Tryz.func103 (by kernel_rfl)
abbrev ld (p1 p2 p3 x y z:Rat):Rat:=p1*x+p2*y+p3*z
theorem leadF (h:Lm 31 x1 x2 x3 y1 y2 y3 z1 z2 z3) (k:Lv3 31 p1 p2 p3):Fits Tryz.prog 101 [frm o1 o2 o3 x1 x2 x3 y1 y2 y3 z1 z2 z3,vc p1 p2 p3] (vc (ld p1 p2 p3 x1 y1 z1) (ld p1 p2 p3 x2 y2 z2) (ld p1 p2 p3 x3 y3 z3)):=by
 have k1:=k.a.mono (l:=38) (by decide)
 have k2:=k.b.mono (l:=38) (by decide)
 have k3:=k.c.mono (l:=38) (by decide)
 have h':=h.mono (l:=38) (by decide)
 refine kgo Tryz.func101 (by kernel_rfl) fun w00=>?_
 refine kcall 75 [vc x1 x2 x3,num p1] (scaledF k1 h'.x1 h'.x2 h'.x3) (by kernel_rfl) Tryz.call75 ?_
 refine kcall 75 [vc y1 y2 y3,num p2] (scaledF k2 h'.y1 h'.y2 h'.y3) (by kernel_rfl) Tryz.call75 ?_
 refine kcall 91 [vc (p1*x1) (p1*x2) (p1*x3),vc (p2*y1) (p2*y2) (p2*y3)] (vplusF ((k.a.mul h.x1).mono (by decide)) ((k.a.mul h.x2).mono (by decide)) ((k.a.mul h.x3).mono (by decide)) ((k.b.mul h.y1).mono (by decide)) ((k.b.mul h.y2).mono (by decide)) ((k.b.mul h.y3).mono (by decide))) (by kernel_rfl) Tryz.call91 ?_
 refine kcall 75 [vc z1 z2 z3,num p3] (scaledF k3 h'.z1 h'.z2 h'.z3) (by kernel_rfl) Tryz.call75 ?_
 refine kcall 91 [vc (p1*x1+p2*y1) (p1*x2+p2*y2) (p1*x3+p2*y3),vc (p3*z1) (p3*z2) (p3*z3)] (vplusF (((k.a.mul h.x1).add (k.b.mul h.y1)).mono (by decide)) (((k.a.mul h.x2).add (k.b.mul h.y2)).mono (by decide)) (((k.a.mul h.x3).add (k.b.mul h.y3)).mono (by decide)) ((k.c.mul h.z1).mono (by decide)) ((k.c.mul h.z2).mono (by decide)) ((k.c.mul h.z3).mono (by decide))) (by kernel_rfl) Tryz.call91 ?_
 exact kret Tryz.func101 (by kernel_rfl)
theorem lf_ld {n:Nat} {p1 p2 p3 x y z:Rat} (k:Lv3 (n-5) p1 p2 p3) (hx:Lf (n-5) x) (hy:Lf (n-5) y) (hz:Lf (n-5) z) (hn:5≤n):Lf n (ld p1 p2 p3 x y z):=lf_dt (a1:=p1) (a2:=p2) (a3:=p3) k.a k.b k.c hx hy hz hn
theorem placeF (h:Lm 31 x1 x2 x3 y1 y2 y3 z1 z2 z3) (k:Lv3 31 p1 p2 p3) (ho:Lv3 36 o1 o2 o3) :
 Fits Tryz.prog 98 [frm o1 o2 o3 x1 x2 x3 y1 y2 y3 z1 z2 z3,vc p1 p2 p3] (vc (o1+ld p1 p2 p3 x1 y1 z1) (o2+ld p1 p2 p3 x2 y2 z2) (o3+ld p1 p2 p3 x3 y3 z3)):=by
 refine kgo Tryz.func98 (by kernel_rfl) fun w00=>?_
 refine kcall 101 [frm o1 o2 o3 x1 x2 x3 y1 y2 y3 z1 z2 z3,vc p1 p2 p3] (leadF h k) (by kernel_rfl) Tryz.call101 ?_
 refine kcall 91 [vc o1 o2 o3,vc (ld p1 p2 p3 x1 y1 z1) (ld p1 p2 p3 x2 y2 z2) (ld p1 p2 p3 x3 y3 z3)] (vplusF ho.a ho.b ho.c (lf_ld k h.x1 h.y1 h.z1 (by decide)) (lf_ld k h.x2 h.y2 h.z2 (by decide)) (lf_ld k h.x3 h.y3 h.z3 (by decide))) (by kernel_rfl) Tryz.call91 ?_
 exact kret Tryz.func98 (by kernel_rfl)
structure Sq0 (x1 x2 x3 y1 y2 y3 z1 z2 z3:Rat):Prop where
 x:dt x1 x2 x3 x1 x2 x3≠0
 y:dt y1 y2 y3 y1 y2 y3≠0
 z:dt z1 z2 z3 z1 z2 z3≠0
theorem orthogonalF (h:Lm 31 x1 x2 x3 y1 y2 y3 z1 z2 z3) (hxy:dt x1 x2 x3 y1 y2 y3=0) (hyz:dt y1 y2 y3 z1 z2 z3=0) (hzx:dt z1 z2 z3 x1 x2 x3=0) :
 Fits Tryz.prog 172 [frm o1 o2 o3 x1 x2 x3 y1 y2 y3 z1 z2 z3] (bl true):=by
 refine kgo Tryz.func172 (by kernel_rfl) fun w00=>?_
 refine kcall 61 [vc x1 x2 x3,vc y1 y2 y3] (dotF h.x1 h.x2 h.x3 h.y1 h.y2 h.y3) (by kernel_rfl) Tryz.call61 ?_
 refine kcall 94 [num (dt x1 x2 x3 y1 y2 y3)] (isZeroF (b:=true) (by rw [decide_eq_true_eq];exact hxy)) (by kernel_rfl) Tryz.call94 ?_
 refine kcall 61 [vc y1 y2 y3,vc z1 z2 z3] (dotF h.y1 h.y2 h.y3 h.z1 h.z2 h.z3) (by kernel_rfl) Tryz.call61 ?_
 refine kcall 94 [num (dt y1 y2 y3 z1 z2 z3)] (isZeroF (b:=true) (by rw [decide_eq_true_eq];exact hyz)) (by kernel_rfl) Tryz.call94 ?_
 refine kcall 61 [vc z1 z2 z3,vc x1 x2 x3] (dotF h.z1 h.z2 h.z3 h.x1 h.x2 h.x3) (by kernel_rfl) Tryz.call61 ?_
 refine kcall 94 [num (dt z1 z2 z3 x1 x2 x3)] (isZeroF (b:=true) (by rw [decide_eq_true_eq];exact hzx)) (by kernel_rfl) Tryz.call94 ?_
 exact kret Tryz.func172 (by kernel_rfl)
end
def csIs (v:Value) (h:v.oneCell'=true) (c:Bool) (hc:c=true→Kn v=false):CS Kn where
 size:=1
 cold:=c
 pred cs _:=cs = [v]
 stable _ _ _ h _:=h
 len _ _ h:=by rw [h];rfl
 one _ _ hp:=by rw [hp];intro c hc;rw [List.mem_singleton] at hc;rw [hc];exact h
 iscold hb _ _ hp:=by rw [hp];intro d hd;rw [List.mem_singleton] at hd;rw [hd];exact hc hb
abbrev isS (s:ByteArray):Seg Kn := .sp (csIs (.string s) rfl true (fun _=>rfl))
abbrev isI (n:Int):Seg Kn := .sp (csIs (.int .i64 n) rfl true (fun _=>rfl))
abbrev isU (n:Int):Seg Kn := .sp (csIs (.int .u64 n) rfl false (fun h=>by cases h))
abbrev tx (s:ByteArray):AV Kn := .fv (.sc (isS s))
abbrev lt (s:ByteArray):AV Kn := .fv (.sc (.lit (.string s)))
theorem hold_is {v u:Value} {h:v.oneCell'=true} {c:Bool} {hc:c=true→Kn v=false} {β:List Nat} {w:World} (k:(AV.fv (.sc (.sp (csIs v h c hc))):AV Kn).holds β u w):u=v:=by
 have:[u] = [v]:=k
 injection this
theorem is_hold {v:Value} {h:v.oneCell'=true} {c:Bool} {hc:c=true→Kn v=false} {β:List Nat} {w:World}:(AV.fv (.sc (.sp (csIs v h c hc))):AV Kn).holds β v w:=rfl
theorem lit_hold {v:Value} (h:v.oneCell'=true) {β:List Nat} {w:World}:(AV.fv (.sc (.lit v)):AV Kn).holds β v w:=⟨rfl,h⟩
def Gl (w:World):Prop:=Laid w∧∃ m,w.cell? ⟨0,0,none⟩=some (.int .i64 m)
theorem Gl.below {w w' : World} (h:Gl w) (hb:Below w.heap.size w w'):Gl w':=by
 refine ⟨h.1.below hb,?_⟩
 obtain ⟨m,hm⟩:=h.2
 exact ⟨m,(hb.cell (p:=⟨0,0,none⟩) (block_lt_of_cell hm)).trans hm⟩
theorem keepGl {w00:World} (h:Gl w00):∀ w,Below w00.heap.size w00 w→Gl w:=fun _ hb=>h.below hb
def decB (n:Nat):ByteArray:=⟨(Lib.decDigits n).toArray⟩
def overB (q:Rat):ByteArray:=if q.num<0 then ⟨#[45]⟩++decB q.num.natAbs else decB q.num.natAbs
theorem natTextF {a:Nat} (ha:Lv 20 a):FitsW Tryz.prog Gl 232 [nt a] (tx (decB a)):=by
 intro β w vs hG hv
 obtain ⟨v,rfl,h1⟩:=args1 hv
 exact (text_any v a w (nt_holds.1 h1) ha hG.1).mono fun e w' ⟨e1,h2⟩=>⟨_,e1,h2,is_hold⟩
def itoaB (n:Int):ByteArray:=⟨(Lib.itoa n).toArray⟩
theorem formatInt0F {n:Int} (hn:M64 n):FitsW Tryz.prog Gl 233 [it n,it 10] (tx (itoaB n)):=by
 intro β w vs hG hv
 obtain ⟨v,u,rfl,h1,h2⟩:=args2 hv
 rw [hold_lit h1,hold_lit h2]
 refine (Tryz.internal_strconv_FormatInt_10 n hn.1 hn.2 w hG.1).mono fun e w' ⟨e1,k,os,e2⟩=>⟨_,e1,?_,is_hold⟩
 rw [e2]
 exact (below_drewN w k).trans (below_grow (w.drewN k) os)
theorem formatIntF {n:Int} (hn:M64 n):FitsW Tryz.prog Gl 189 [it n,it 10] (tx (itoaB n)):=by
 refine kgoW Tryz.func189 (by kernel_rfl) fun w00 hG=>?_;have hI:=keepGl hG
 refine kcallW hI 233 [it n,it 10] (formatInt0F hn) (by kernel_rfl) Tryz.call233 ?_
 exact kret Tryz.func189 (by kernel_rfl)
abbrev smA (q:Rat):AV Kn := .fv (.ag [.lit (.int .i64 q.num),.lit (.int .i64 ((q.den:Int)-1)),.lit (.pointer none)])
theorem sm_holds {β:List Nat} {v:Value} {w:World} {q:Rat} (h:Sm q):(num q).holds β v w↔(smA q).holds β v w:=by
 rw [num_holds]
 constructor
 ·rintro (⟨_,rfl⟩|⟨h2,_⟩)
  ·exact ⟨[_,_,_],rfl,[_],_,rfl,⟨rfl,rfl⟩,[_],_,rfl,⟨rfl,rfl⟩,[_],[],rfl,⟨rfl,rfl⟩,rfl⟩
  ·exact absurd h h2
 ·rintro ⟨cs,rfl,a,r,rfl,⟨rfl,_⟩,b,r2,rfl,⟨rfl,_⟩,c,r3,rfl,⟨rfl,_⟩,e⟩
  rw [show r3 = [] from e]
  exact .inl ⟨h,rfl⟩
theorem denF {q:Rat} (h:Sm q):Fits Tryz.prog 153 [smA q] (it q.den):=by
 intro β w vs hv
 obtain ⟨v,rfl,h1⟩:=args1 hv
 obtain ⟨cs,rfl,a,r,rfl,⟨rfl,_⟩,b,r2,rfl,⟨rfl,_⟩,c,r3,rfl,⟨rfl,_⟩,e⟩:=h1
 rw [show r3 = [] from e]
 have hd:=sm_den h
 refine (den_any q.num ((q.den:Int)-1) none w (by omega) (by omega)).mono fun e w' ⟨e1,h2⟩=>⟨_,e1,h2,?_⟩
 rw [show ((q.den:Int)-1+1)=q.den by omega]
 exact lit_hold rfl
theorem cat_run {P:Program} {o:Oper} {ρ:Operand→Value} {w:World} {T T' : TypeId} {x y:Operand} {a b:ByteArray} (ho:o.op = .binOp .add T x y T') (hx:ρ x = .string a) (hy:ρ y = .string b) (hs:a.size+b.size≤9223372036854775807) :
 (execOp ρ o).run P w = .ok (.value (.string (a++b))) w:=by
 simp only [execOp,ho,hx,hy]
 refine run_v ?_
 have hne:¬ (((a.size+b.size:Nat):Int) > IntKind.i64.max):=by
  have:IntKind.i64.max=9223372036854775807:=by decide
  rw [this]
  omega
 simp only [eqGuard,binOp,Op.stringOp,if_neg hne]
 rfl
theorem decB_size {a k:Nat} (h:a<10^(k+1)):(decB a).size≤k+1:=by
 exact dec_length_pow h
theorem fraTextF {q:Rat} (hq:Lf 20 q) (hs:(decB q.num.natAbs).size≤1000000000):FitsW Tryz.prog Gl 188 [fra q] (.tup [.sc (isS (overB q)),.sc (isS (decB q.den))]):=by
 by_cases hn:q.num<0
 ·have hd:decide (q.num<0)=true:=by simpa using hn
  have ho:overB q=⟨#[45]⟩++decB q.num.natAbs:=by rw [overB,if_pos hn]
  rw [ho,show fra q=frv true q.num.natAbs q.den by rw [fra,hd]]
  obtain ⟨hq1,hq2⟩:=hq
  generalize q.num.natAbs=n at *
  have hcat:(⟨#[45]⟩:ByteArray).size+(decB n).size≤9223372036854775807:=by
   have:(⟨#[45]⟩:ByteArray).size=1:=rfl
   omega
  refine kgoW Tryz.func188 (by kernel_rfl) fun w00 hG=>?_;have hI:=keepGl hG
  refine kcallW hI 232 [nt n] (natTextF hq1) (by kernel_rfl) Tryz.call232 ?_
  refine kcallW hI 232 [nt q.den] (natTextF hq2) (by kernel_rfl) Tryz.call232 ?_
  refine kop2 (.binOp .add 9 (.const (.string ⟨#[45]⟩)) (.tmp 12) 9) (.const (.string ⟨#[45]⟩)) (.tmp 12) (lt ⟨#[45]⟩) (tx (decB n)) (tx (⟨#[45]⟩++decB n)) (by kernel_rfl) (by simp [Op.operands]) (by simp [Op.operands]) (fun ρ o β w ho hx hy=>⟨_,cat_run ho (hold_lit hx) (hold_is hy) hcat,is_hold⟩) ?_
  exact kret Tryz.func188 (by kernel_rfl)
 ·have hd:decide (q.num<0)=false:=by simpa using hn
  have ho:overB q=decB q.num.natAbs:=by rw [overB,if_neg hn]
  rw [ho,show fra q=frv false q.num.natAbs q.den by rw [fra,hd]]
  refine kgoW Tryz.func188 (by kernel_rfl) fun w00 hG=>?_;have hI:=keepGl hG
  refine kcallW hI 232 [nt q.num.natAbs] (natTextF hq.1) (by kernel_rfl) Tryz.call232 ?_
  refine kcallW hI 232 [nt q.den] (natTextF hq.2) (by kernel_rfl) Tryz.call232 ?_
  exact kret Tryz.func188 (by kernel_rfl)
theorem itoa_over (q:Rat):itoaB q.num=overB q:=by
 unfold itoaB overB decB Lib.itoa
 split
 ·congr 1
 ·rename_i h
  congr 3
  omega
theorem itoa_den (d:Nat):itoaB (d:Int)=decB d:=by
 unfold itoaB decB Lib.itoa
 rw [if_neg (by omega)]
 rfl
theorem smTextF {q:Rat} (h:Sm q):FitsW Tryz.prog Gl 130 [smA q] (.tup [.sc (isS (overB q)),.sc (isS (decB q.den))]):=by
 have hn:=sm_num h
 have hd:=sm_den h
 rw [← itoa_over,← itoa_den]
 refine kgoW Tryz.func130 (by kernel_rfl) fun w00 hG=>?_;have hI:=keepGl hG
 refine kcallW hI 189 [it q.num,it 10] (formatIntF ⟨by have:=hn.1;omega,by have:=hn.2;omega⟩) (by kernel_rfl) Tryz.call189 ?_
 refine kcall 153 [smA q] (denF h) (by kernel_rfl) Tryz.call153 ?_
 refine kcallW hI 189 [it q.den,it 10] (formatIntF ⟨by omega,hd.2⟩) (by kernel_rfl) Tryz.call189 ?_
 exact kret Tryz.func130 (by kernel_rfl)
theorem num_large {I:World→Prop} {f:FuncId} {fn:Func} {q:Rat} {x:AV Kn} (hq:¬ Sm q) (hfn:Tryz.prog.funcs[f]?=some fn) (hc:(fn.body.isSome,decide (1≤fn.ntmps),x.noPtr)=(true,true,true))
 (h:∀ w00,I w00→Ok Tryz.prog f w00 (fun v w=>x.holds [] v w) (runA Tryz.prog 1000 (.items [.code (fn.body.getD .skip)] { slots := [.fv (.ag [.lit (.int .i64 0),.lit (.int .i64 0),.ptr 0 0])]++List.replicate (fn.ntmps-1) .un,blocks := [(163,[.lit (.bool (decide (q.num<0))),nts q.num.natAbs,nts q.den])],ro:=1 }))) :
 FitsW Tryz.prog I f [num q] x:=by
 simp only [Prod.mk.injEq] at hc
 intro β w vs hI hv
 obtain ⟨v,rfl,h1⟩:=args1 hv
 rcases num_holds.1 h1 with ⟨h2,_⟩|⟨_,g,s1,s2,rfl,hg,n1,n2⟩
 ·exact absurd h2 hq
 have hb2:fn.body=some (fn.body.getD .skip):=by
  cases hb2:fn.body with
  | none=>rw [hb2] at hc;cases hc.1
  | some c=>rfl
 have hl:holdsL [g] [Seg.lit (.bool (decide (q.num<0))),nts q.num.natAbs,nts q.den] [.bool (decide (q.num<0)),s1,s2] w :=
  ⟨[.bool (decide (q.num<0))],_,rfl,⟨rfl,rfl⟩,[s1],_,rfl,⟨s1,rfl,n1⟩,[s2],[],rfl,⟨s2,rfl,n2⟩,rfl⟩
 refine (calls_of_good (w00:=w) (Out:=fun v w=>x.holds [] v w) hfn hb2 [.fv (.ag [.lit (.int .i64 0),.lit (.int .i64 0),.ptr 0 0])] [(163,[.lit (.bool (decide (q.num<0))),nts q.num.natAbs,nts q.den])] [g] _ (fn.ntmps-1) (by simp at hc;simp;omega)
  ⟨_,[],rfl,⟨[.int .i64 0,.int .i64 0,.pointer (some ⟨g,0,none⟩)],rfl,[_],_,rfl,⟨rfl,rfl⟩,[_],_,rfl,⟨rfl,rfl⟩,[_],[],rfl,⟨g,rfl,rfl⟩,rfl⟩,rfl⟩ rfl (by simp) (fun k T l hk=>?_) (by simp;exact lt_of_block hg) (Ok.go (by kernel_rfl) kn_ok 1000 (h w hI)).good).mono ?_
 ·match k,hk with
  | 0,hk =>
    simp at hk
    obtain ⟨rfl,rfl⟩:=hk
    exact ⟨g,_,rfl,hg,hl⟩
 ·rintro e w' ⟨v,rfl,hb,ho⟩
  exact ⟨v,rfl,hb,AV.noPtr_holds hc.2.2 ho⟩
theorem numTextF {q:Rat} (hq:Lf 20 q) (hs:(decB q.num.natAbs).size≤1000000000):FitsW Tryz.prog Gl 130 [num q] (.tup [.sc (isS (overB q)),.sc (isS (decB q.den))]):=by
 by_cases h:Sm q
 ·intro β w vs hG hv
  obtain ⟨v,r,rfl,h1,h2⟩:=hv
  exact smTextF h β w _ hG ⟨v,r,rfl,(sm_holds h).1 h1,h2⟩
 ·refine num_large h Tryz.func130 (by kernel_rfl) fun w00 hG=>?_
  have hI:=keepGl hG
  refine kop2 (.binOp .neq 88 (.tmp 5) (.const (.pointer none)) 88) (.tmp 5) (.const (.pointer none)) (.fv (.sc (.ptr 0 0))) (.fv (.sc (.lit (.pointer none)))) (bl true) (by kernel_rfl) (by simp [Op.operands]) (by simp [Op.operands]) (fun ρ o β w ho hx hy=>?_) ?_
  ·obtain ⟨g,_,hx⟩:=hold_ptr hx
   have hy:=hold_lit hy
   refine ⟨.bool true,?_,lit_hold rfl⟩
   simp only [execOp,ho,hx,hy]
   exact run_v (evalP_run (by kernel_rfl) w)
  refine kcallW hI 188 [fra q] (fraTextF hq hs) (by kernel_rfl) Tryz.call188 ?_
  exact kret Tryz.func130 (by kernel_rfl)
theorem trimF {s t:ByteArray} (h:(⟨(Lib.trimPrefix s.data.toList [45]).toArray⟩:ByteArray)=t):Fits Tryz.prog 131 [tx s,lt ⟨#[45]⟩] (tx t):=by
 intro β w vs hv
 obtain ⟨v,u,rfl,h1,h2⟩:=args2 hv
 rw [hold_is h1,hold_lit h2]
 refine (Tryz.strings_TrimPrefix s ⟨#[45]⟩ w).mono fun e w' ⟨e1,e2⟩=>⟨_,e1,by rw [e2];exact Below.refl _ _,?_⟩
 rw [← h]
 exact is_hold
theorem trim_over {q:Rat}:(⟨(Lib.trimPrefix (overB q).data.toList [45]).toArray⟩:ByteArray)=decB q.num.natAbs:=by
 unfold overB
 split
 ·have:(⟨#[45]⟩++decB q.num.natAbs:ByteArray).data.toList=45::Lib.decDigits q.num.natAbs:=by
   simp [decB]
  rw [this]
  simp [Lib.trimPrefix,Lib.hasPrefix,decB]
 ·simp only [decB]
  have hd:=(natOf_dec q.num.natAbs).2
  unfold Lib.trimPrefix
  split
  ·rename_i hp
   exfalso
   have h0:=hd.2
   cases hl:Lib.decDigits q.num.natAbs with
   | nil=>exact h0 hl
   | cons c r =>
     rw [hl] at hp
     simp [Lib.hasPrefix] at hp
     have:=hd.1 c (by rw [hl];simp)
     rw [← hp] at this
     revert this
     decide
  ·rfl
theorem len_run {o:Oper} {ρ:Operand→Value} {w:World} {t:Tmp} {T:TypeId} {s:ByteArray} (ho:o.op = .call ⟨.builtin .len,#[.tmp t],#[T]⟩) (hT:Tryz.prog.underlying T=some .string) (hx:ρ (.tmp t) = .string s) :
 (execOp ρ o).run Tryz.prog w = .ok (.value (.int .i64 s.size)) w:=by
 have hm:(#[Operand.tmp t].map ρ) = #[.string s]:=by simp [hx]
 simp only [execOp,ho,resolve,Sem.run_bind,Sem.run_pure,Result.andThen,hm,invoke,builtin,Builtin.len_]
 simp [Sem.run_bind,run_underlying hT,Result.andThen,goInt]
section
variable {f:FuncId} {w00:World} {Out:Value→World→Prop}
theorem klen {c:Cfg Kn} (t:Tmp) (s:ByteArray) (hc:(c.op.map fun o=>o.op,c.okT (.fv (.sc (isI s.size))),c.ev (.tmp t))=(some (.call ⟨.builtin .len,#[.tmp t],#[9]⟩),true,tx s))
 (hg:Ok Tryz.prog f w00 Out (runA Tryz.prog 1000 (c.give (.fv (.sc (isI s.size)))))):Ok Tryz.prog f w00 Out c:=by
 simp only [Prod.mk.injEq] at hc
 obtain ⟨h1,h2,h3⟩:=hc
 exact kop2 _ (.tmp t) (.tmp t) (tx s) (tx s) (.fv (.sc (isI s.size))) (by rw [h1,h2,h3]) (by simp [Op.operands,Call.operands]) (by simp [Op.operands,Call.operands])
  (fun ρ o β w ho hx _=>⟨_,len_run ho Tryz.underlying9 (hold_is hx),is_hold⟩) hg
end
theorem gt_run {o:Oper} {ρ:Operand→Value} {w:World} {x y:Operand} {a b:Int} {r:Bool} (ho:o.op = .binOp .gtr 3 x y 3) (hx:ρ x = .int .i64 a) (hy:ρ y = .int .i64 b) (h:decide (b<a)=r) :
 (execOp ρ o).run Tryz.prog w = .ok (.value (.bool r)) w:=by
 simp only [execOp,ho,hx,hy]
 refine run_v ?_
 rw [← h]
 exact evalP_run (by kernel_rfl) w
theorem sne_run {o:Oper} {ρ:Operand→Value} {w:World} {x y:Operand} {a b:ByteArray} {r:Bool} {T T' : TypeId} (ho:o.op = .binOp .neq T x y T') (hx:ρ x = .string a) (hy:ρ y = .string b) (h:(!(a.toList==b.toList))=r) :
 (execOp ρ o).run Tryz.prog w = .ok (.value (.bool r)) w:=by
 simp only [execOp,ho,hx,hy]
 refine run_v ?_
 rw [← h]
 exact evalP_run (by kernel_rfl) w
def writeB (q:Rat):ByteArray:=if q.den=1 then overB q else overB q++(⟨#[47]⟩++decB q.den)
theorem decB_size_le {a k:Nat} (h:a<10^(k+1)):(decB a).size≤k+1:=decB_size h
theorem over_size {q:Rat}:(overB q).size≤(decB q.num.natAbs).size+1:=by
 unfold overB
 split
 ·simp
  have:(⟨#[45]⟩:ByteArray).size=1:=rfl
  omega
 ·omega
theorem dec_one_iff {n:Nat}:(!((decB n).toList==(⟨#[49]⟩:ByteArray).toList)) = !decide (n=1):=by
 congr 1
 rw [Bool.eq_iff_iff]
 simp only [beq_iff_eq,decide_eq_true_eq]
 rw [Go.ByteArray.toList_eq,Go.ByteArray.toList_eq]
 simp only [decB]
 constructor
 ·intro h
  have:=(natOf_dec n).1
  rw [h] at this
  rw [← this]
  rfl
 ·rintro rfl
  exact dec_small (by omega)
theorem writeF {q:Rat} (hq:Lf 20 q) (hn:(decB q.num.natAbs).size≤600) (hd:(decB q.den).size≤600):FitsW Tryz.prog Gl 62 [num q] (.tup [.sc (isS (writeB q)),.sc (.lit (.int .i64 0))]):=by
 have h1:decide ((600:Int)<((decB q.num.natAbs).size:Int))=false:=by simp;omega
 have h2:decide ((600:Int)<((decB q.den).size:Int))=false:=by simp;omega
 have hs:=over_size (q:=q)
 have hb1:(⟨#[47]⟩:ByteArray).size+(decB q.den).size≤9223372036854775807:=by
  have:(⟨#[47]⟩:ByteArray).size=1:=rfl
  omega
 have hb2:(overB q).size+(⟨#[47]⟩++decB q.den:ByteArray).size≤9223372036854775807:=by
  have:(⟨#[47]⟩:ByteArray).size=1:=rfl
  simp
  omega
 by_cases h:q.den=1
 ·have hw:writeB q=overB q:=by rw [writeB,if_pos h]
  have h3:(!((decB q.den).toList==(⟨#[49]⟩:ByteArray).toList))=false:=by rw [dec_one_iff,h];rfl
  rw [hw]
  refine kgoW Tryz.func62 (by kernel_rfl) fun w00 hG=>?_;have hI:=keepGl hG
  refine kcallW hI 130 [num q] (numTextF hq (by omega)) (by kernel_rfl) Tryz.call130 ?_
  refine kcall 131 [tx (overB q),lt ⟨#[45]⟩] (trimF trim_over) (by kernel_rfl) Tryz.call131 ?_
  refine klen 12 (decB q.num.natAbs) (by kernel_rfl) ?_
  refine kop2 (.binOp .gtr 3 (.tmp 13) (.const (.int .i64 600)) 3) (.tmp 13) (.const (.int .i64 600)) (.fv (.sc (isI (decB q.num.natAbs).size))) (it 600) (bl false) (by kernel_rfl) (by simp [Op.operands]) (by simp [Op.operands]) (fun ρ o β w ho hx hy=>⟨_,gt_run ho (hold_is hx) (hold_lit hy) h1,lit_hold rfl⟩) ?_
  refine klen 16 (decB q.den) (by kernel_rfl) ?_
  refine kop2 (.binOp .gtr 3 (.tmp 17) (.const (.int .i64 600)) 3) (.tmp 17) (.const (.int .i64 600)) (.fv (.sc (isI (decB q.den).size))) (it 600) (bl false) (by kernel_rfl) (by simp [Op.operands]) (by simp [Op.operands]) (fun ρ o β w ho hx hy=>⟨_,gt_run ho (hold_is hx) (hold_lit hy) h2,lit_hold rfl⟩) ?_
  refine kop2 (.binOp .neq 9 (.tmp 20) (.const (.string ⟨#[49]⟩)) 9) (.tmp 20) (.const (.string ⟨#[49]⟩)) (tx (decB q.den)) (lt ⟨#[49]⟩) (bl false) (by kernel_rfl) (by simp [Op.operands]) (by simp [Op.operands]) (fun ρ o β w ho hx hy=>⟨_,sne_run ho (hold_is hx) (hold_lit hy) h3,lit_hold rfl⟩) ?_
  exact kret Tryz.func62 (by kernel_rfl)
 ·have hw:writeB q=overB q++(⟨#[47]⟩++decB q.den):=by rw [writeB,if_neg h]
  have h3:(!((decB q.den).toList==(⟨#[49]⟩:ByteArray).toList))=true:=by rw [dec_one_iff];simpa using h
  rw [hw]
  refine kgoW Tryz.func62 (by kernel_rfl) fun w00 hG=>?_;have hI:=keepGl hG
  refine kcallW hI 130 [num q] (numTextF hq (by omega)) (by kernel_rfl) Tryz.call130 ?_
  refine kcall 131 [tx (overB q),lt ⟨#[45]⟩] (trimF trim_over) (by kernel_rfl) Tryz.call131 ?_
  refine klen 12 (decB q.num.natAbs) (by kernel_rfl) ?_
  refine kop2 (.binOp .gtr 3 (.tmp 13) (.const (.int .i64 600)) 3) (.tmp 13) (.const (.int .i64 600)) (.fv (.sc (isI (decB q.num.natAbs).size))) (it 600) (bl false) (by kernel_rfl) (by simp [Op.operands]) (by simp [Op.operands]) (fun ρ o β w ho hx hy=>⟨_,gt_run ho (hold_is hx) (hold_lit hy) h1,lit_hold rfl⟩) ?_
  refine klen 16 (decB q.den) (by kernel_rfl) ?_
  refine kop2 (.binOp .gtr 3 (.tmp 17) (.const (.int .i64 600)) 3) (.tmp 17) (.const (.int .i64 600)) (.fv (.sc (isI (decB q.den).size))) (it 600) (bl false) (by kernel_rfl) (by simp [Op.operands]) (by simp [Op.operands]) (fun ρ o β w ho hx hy=>⟨_,gt_run ho (hold_is hx) (hold_lit hy) h2,lit_hold rfl⟩) ?_
  refine kop2 (.binOp .neq 9 (.tmp 20) (.const (.string ⟨#[49]⟩)) 9) (.tmp 20) (.const (.string ⟨#[49]⟩)) (tx (decB q.den)) (lt ⟨#[49]⟩) (bl true) (by kernel_rfl) (by simp [Op.operands]) (by simp [Op.operands]) (fun ρ o β w ho hx hy=>⟨_,sne_run ho (hold_is hx) (hold_lit hy) h3,lit_hold rfl⟩) ?_
  refine kop2 (.binOp .add 9 (.const (.string ⟨#[47]⟩)) (.tmp 23) 9) (.const (.string ⟨#[47]⟩)) (.tmp 23) (lt ⟨#[47]⟩) (tx (decB q.den)) (tx (⟨#[47]⟩++decB q.den)) (by kernel_rfl) (by simp [Op.operands]) (by simp [Op.operands]) (fun ρ o β w ho hx hy=>⟨_,cat_run ho (hold_lit hx) (hold_is hy) hb1,is_hold⟩) ?_
  refine kop2 (.binOp .add 9 (.tmp 22) (.tmp 24) 9) (.tmp 22) (.tmp 24) (tx (overB q)) (tx (⟨#[47]⟩++decB q.den)) (tx (overB q++(⟨#[47]⟩++decB q.den))) (by kernel_rfl) (by simp [Op.operands]) (by simp [Op.operands]) (fun ρ o β w ho hx hy=>⟨_,cat_run ho (hold_is hx) (hold_is hy) hb2,is_hold⟩) ?_
  exact kret Tryz.func62 (by kernel_rfl)
end Go.Proofs.YtbkfbobdmojgnaaGreatDoor.Ab
namespace Go.Proofs.YtbkfbobdmojgnaaGreatDoor
open Go.RowKit Pl
theorem iter_below (w:World) (s:ByteArray) (pos:Nat):Below w.heap.size w (w.iter s pos):=(Below.refl _ _).alloc (Nat.le_refl _) _
set_option maxRecDepth 100000 in
theorem isDigits_any (s:ByteArray) (w:World) (hd:AllDig (bytesOf s)) (h0:0<s.size):Calls Tryz.prog 175 #[.string s] w fun e w'=>e = .returned (.bool true)∧Below w.heap.size w w':=by
 have hne:(!(s.toList==(⟨#[]⟩:ByteArray).toList))=true:=by
  rw [Go.ByteArray.toList_eq,Go.ByteArray.toList_eq]
  have:s.data.toList≠[]:=fun h=>by
   have h2:(bytesOf s).length=0:=by simp only [bytesOf];rw [h];rfl
   rw [bytesOf_length] at h2
   omega
  simpa using this
 have H:=Lib.hid (And.intro hd (And.intro h0 hne))
 clear hd h0 hne
 go_enter Tryz.func175,Tryz.ntmps175
 go_wp2
 go_loopw [4] (fun _ wr => ∃ pos:Nat,wr=w.iter s pos∧pos≤s.size) (fun _ wr=>s.size-wr.iterPos w.heap.size)
 case atStart=>exact ⟨0,rfl,Nat.zero_le _⟩
 case round =>
  obtain ⟨pos,rfl,hpos⟩:=hrel
  by_cases hp:pos<s.size
  ·have hc:48≤(s[pos]'hp).toNat∧(s[pos]'hp).toNat≤57:=by
    have:=H.out.1 (s[pos]'hp) (by
     unfold bytesOf
     rw [Array.mem_toList_iff]
     exact Array.getElem_mem _)
    exact this
   obtain ⟨c,hcc⟩:∃ c,c=(s[pos]'hp).toNat:=⟨_,rfl⟩
   have hnx:∀ ty,(Instr.next (.pointer (some ⟨w.heap.size,0,none⟩)) true ty).run Tryz.prog (w.iter s pos) = .ok (.tuple #[.bool true,.int .i64 pos,.int .i32 (c:Int)]) (w.iter s (pos+1)):=fun ty=>by
    rw [hcc]
    exact run_next_ascii w s pos ty hp (by omega)
   rw [← hcc] at hc
   have k1:(48:Int)≤c:=by omega
   have k2:(c:Int)≤57:=by omega
   have HH:=Lib.hid (And.intro hp hpos)
   clear hc hcc hp hpos
   go_wp2
   go_roundw
   case rel=>exact ⟨pos+1,rfl,HH.out.1⟩
   case measure =>
    have:=HH.out.1
    simp
    omega
  ·have hnx:∀ ty,(Instr.next (.pointer (some ⟨w.heap.size,0,none⟩)) true ty).run Tryz.prog (w.iter s pos)=_:=fun ty=>run_next_end w s pos ty hp
   have hne:=H.out.2.2
   go_wp2
   go_ret
   exact ⟨by simp at hne ⊢;exact hne,iter_below _ _ _⟩
end Go.Proofs.YtbkfbobdmojgnaaGreatDoor
namespace Go.Proofs.YtbkfbobdmojgnaaGreatDoor.Ab
open Go.RowKit Go.Proofs.YtbkfbobdmojgnaaGreatDoor Pl
theorem isDigitsF {s:ByteArray} (hd:AllDig (bytesOf s)) (h0:0<s.size):Fits Tryz.prog 175 [tx s] (bl true):=by
 intro β w vs hv
 obtain ⟨v,rfl,h1⟩:=args1 hv
 rw [hold_is h1]
 exact (isDigits_any s w hd h0).mono fun e w' ⟨e1,e2⟩=>⟨_,e1,e2,lit_hold rfl⟩
theorem index_run {o:Oper} {ρ:Operand→Value} {w:World} {x y:Operand} {s:ByteArray} {i:Nat} {c:UInt8} {T:TypeId} (ho:o.op = .index T x y) (hT:Tryz.prog.underlying T=some .string) (hx:ρ x = .string s) (hy:ρ y = .int .i64 i) (hc:s[i]?=some c) :
 (execOp ρ o).run Tryz.prog w = .ok (.value (.int .u8 c.toNat)) w:=by
 simp only [execOp,ho,hx,hy]
 refine run_v ?_
 simp [Instr.index,asIntOf,Sem.run_bind,run_underlying hT,Result.andThen,hc]
theorem byteNe_run {o:Oper} {ρ:Operand→Value} {w:World} {x y:Operand} {a b:Int} {r:Bool} {T T' : TypeId} (ho:o.op = .binOp .neq T x y T') (hx:ρ x = .int .u8 a) (hy:ρ y = .int .u8 b) (h:(a != b)=r) :
 (execOp ρ o).run Tryz.prog w = .ok (.value (.bool r)) w:=by
 simp only [execOp,ho,hx,hy]
 refine run_v ?_
 rw [← h]
 exact evalP_run (by kernel_rfl) w
theorem intEq_run {o:Oper} {ρ:Operand→Value} {w:World} {x y:Operand} {a b:Int} {r:Bool} {T T' : TypeId} (ho:o.op = .binOp .eql T x y T') (hx:ρ x = .int .i64 a) (hy:ρ y = .int .i64 b) (h:(a==b)=r) :
 (execOp ρ o).run Tryz.prog w = .ok (.value (.bool r)) w:=by
 simp only [execOp,ho,hx,hy]
 refine run_v ?_
 rw [← h]
 exact evalP_run (by kernel_rfl) w
theorem seq_run {o:Oper} {ρ:Operand→Value} {w:World} {x y:Operand} {a b:ByteArray} {r:Bool} {T T' : TypeId} (ho:o.op = .binOp .eql T x y T') (hx:ρ x = .string a) (hy:ρ y = .string b) (h:(a.toList==b.toList)=r) :
 (execOp ρ o).run Tryz.prog w = .ok (.value (.bool r)) w:=by
 simp only [execOp,ho,hx,hy]
 refine run_v ?_
 rw [← h]
 exact evalP_run (by kernel_rfl) w
abbrev isB (n:Int):Seg Kn := .sp (csIs (.int .u8 n) rfl true (fun _=>rfl))
theorem isPlainF (n:Nat):Fits Tryz.prog 147 [tx (decB n)] (bl true):=by
 have hd:=natOf_dec n
 have hsz:0<(decB n).size:=by
  have:(Lib.decDigits n).length≠0:=fun h=>hd.2.2 (List.eq_nil_of_length_eq_zero h)
  have e:(decB n).size=(Lib.decDigits n).length:=by simp [decB,ByteArray.size]
  omega
 have hlen:0<(Lib.decDigits n).length:=List.length_pos_iff.2 hd.2.2
 obtain ⟨c,hcl⟩:∃ c,(Lib.decDigits n)[0]?=some c:=⟨_,List.getElem?_eq_getElem hlen⟩
 have hc:(decB n)[0]?=some c:=by
  rw [getElem?_pos (decB n) 0 hsz]
  have:(decB n)[0]'hsz=(Lib.decDigits n)[0]'hlen:=by
   first
    | rfl
    | exact List.getElem_toArray _
  rw [this,← hcl,List.getElem?_eq_getElem hlen]
 by_cases h:c=48
 ·have hone:(decB n).size=1:=by
   have h0:n=0:=by
    rcases Nat.eq_zero_or_pos n with e|e
    ·exact e
    ·exfalso
     have:=dec_head e
     rw [List.head?_eq_getElem?,hcl,h] at this
     exact this rfl
   subst h0
   simp only [decB]
   rw [dec_small (by omega)]
   rfl
  have h1:(((c.toNat:Nat):Int) != 48)=false:=by rw [h];rfl
  have h2:(((decB n).size:Int)==1)=true:=by rw [hone];rfl
  refine kgo Tryz.func147 (by kernel_rfl) fun w00=>?_
  refine kcall 175 [tx (decB n)] (isDigitsF hd.2.1 hsz) (by kernel_rfl) Tryz.call175 ?_
  refine kop2 (.index 9 (.tmp 6) (.const (.int .i64 0))) (.tmp 6) (.const (.int .i64 0)) (tx (decB n)) (it 0) (.fv (.sc (isB c.toNat))) (by kernel_rfl) (by simp [Op.operands]) (by simp [Op.operands]) (fun ρ o β w ho hx hy=>⟨_,index_run (i:=0) ho Tryz.underlying9 (hold_is hx) (hold_lit hy) hc,is_hold⟩) ?_
  refine kop2 (.binOp .neq 5 (.tmp 7) (.const (.int .u8 48)) 5) (.tmp 7) (.const (.int .u8 48)) (.fv (.sc (isB c.toNat))) (.fv (.sc (.lit (.int .u8 48)))) (bl false) (by kernel_rfl) (by simp [Op.operands]) (by simp [Op.operands]) (fun ρ o β w ho hx hy=>⟨_,byteNe_run ho (hold_is hx) (hold_lit hy) h1,lit_hold rfl⟩) ?_
  refine klen 10 (decB n) (by kernel_rfl) ?_
  refine kop2 (.binOp .eql 3 (.tmp 11) (.const (.int .i64 1)) 3) (.tmp 11) (.const (.int .i64 1)) (.fv (.sc (isI (decB n).size))) (it 1) (bl true) (by kernel_rfl) (by simp [Op.operands]) (by simp [Op.operands]) (fun ρ o β w ho hx hy=>⟨_,intEq_run ho (hold_is hx) (hold_lit hy) h2,lit_hold rfl⟩) ?_
  exact kret Tryz.func147 (by kernel_rfl)
 ·have h1:(((c.toNat:Nat):Int) != 48)=true:=by
   rw [bne_iff_ne]
   intro e
   exact h (UInt8.toNat_inj.1 (by have:(48:UInt8).toNat=48:=rfl;omega))
  refine kgo Tryz.func147 (by kernel_rfl) fun w00=>?_
  refine kcall 175 [tx (decB n)] (isDigitsF hd.2.1 hsz) (by kernel_rfl) Tryz.call175 ?_
  refine kop2 (.index 9 (.tmp 6) (.const (.int .i64 0))) (.tmp 6) (.const (.int .i64 0)) (tx (decB n)) (it 0) (.fv (.sc (isB c.toNat))) (by kernel_rfl) (by simp [Op.operands]) (by simp [Op.operands]) (fun ρ o β w ho hx hy=>⟨_,index_run (i:=0) ho Tryz.underlying9 (hold_is hx) (hold_lit hy) hc,is_hold⟩) ?_
  refine kop2 (.binOp .neq 5 (.tmp 7) (.const (.int .u8 48)) 5) (.tmp 7) (.const (.int .u8 48)) (.fv (.sc (isB c.toNat))) (.fv (.sc (.lit (.int .u8 48)))) (bl true) (by kernel_rfl) (by simp [Op.operands]) (by simp [Op.operands]) (fun ρ o β w ho hx hy=>⟨_,byteNe_run ho (hold_is hx) (hold_lit hy) h1,lit_hold rfl⟩) ?_
  exact kret Tryz.func147 (by kernel_rfl)
end Go.Proofs.YtbkfbobdmojgnaaGreatDoor.Ab
