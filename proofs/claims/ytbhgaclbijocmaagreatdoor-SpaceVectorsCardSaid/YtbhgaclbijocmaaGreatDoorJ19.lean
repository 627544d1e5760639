/- Parts of the proof, joined. -/
import Derived.Test.YtbhgaclbijocmaaGreatDoorJ18
import Derived.Test.YtbhgaclbijocmaaGreatDoorJ16
import Derived.WalkKit
import Derived.ProofKit
import Derived.OpenShut
import Derived.Deep.DeepHandedRow
import Derived.Deep.DeepWitnessRowRef
import Derived.Lib.LaidTab
import Derived.Stop.LaidErr
import Derived.Shelf.Vars
import Derived.Lay
set_option linter.unusedSimpArgs false
set_option linter.unusedVariables false
namespace Go.Proofs.YtbhgaclbijocmaaGreatDoor.Ab
open Go.RowKit Go.Proofs.YtbhgaclbijocmaaGreatDoor Pl
section
variable {P:Program} {f:FuncId}
theorem fitsAS_of {fn:Func} {n:Nat} {T:TypeId} {l:List (Seg Kn)} {u x:AV Kn} (hfn:P.funcs[f]?=some fn) (hb:fn.body.isSome=true) (hn:decide (2≤fn.ntmps)=true) (hx:x.noPtr=true) (hl:l.all Seg.noPtr=true) (hu:u.noPtr=true)
 (h:∀ w00,Ok P f w00 (fun v w=>x.holds [] v w) (.items [.code (fn.body.getD .skip)] { slots := [u,.fv (.sc (.slc 0 0 n n))]++List.replicate (fn.ntmps-2) .un,blocks := [(T,l)],ro:=1 })):Fits P f [u,.fv (.nsl n T l)] x:=by
 rintro β w vs ⟨v,r,rfl,h1,v2,r2,rfl,⟨g,cs,rfl,hg,hcs⟩,h3⟩
 have h1' : u.holds [g] v w:=AV.noPtr_holds hu h1
 have h3' : r2 = []:=h3
 subst h3'
 have hb2:fn.body=some (fn.body.getD .skip):=by
  cases hb2:fn.body with
  | none=>rw [hb2] at hb;cases hb
  | some c=>rfl
 refine (fA (w00:=w) (Out:=fun v w=>x.holds [] v w) hfn hb2 [u,.fv (.sc (.slc 0 0 n n))] [(T,l)] [g] [v,.slice (some ⟨g,0,none⟩) n n] (fn.ntmps-2) (by simp at hn;simp;omega) ⟨_,_,rfl,h1',_,[],rfl,⟨g,rfl,rfl⟩,rfl⟩ rfl (by simp)
  (fun k T' l' hk=>?_) (by simp;exact lt_of_block hg) (h w).good).mono ?_
 ·match k,hk with
  | 0,hk =>
    simp at hk
    obtain ⟨rfl,rfl⟩:=hk
    exact ⟨g,cs,rfl,hg,hcs.noPtr hl⟩
 ·rintro e w' ⟨v,rfl,hb,ho⟩
  exact ⟨v,rfl,hb,AV.noPtr_holds hx ho⟩
end
theorem kgoAS {f:FuncId} {fn:Func} {n:Nat} {T:TypeId} {l:List (Seg Kn)} {u x:AV Kn} (hfn:Tryz.prog.funcs[f]?=some fn) (hc:(fn.body.isSome,decide (2≤fn.ntmps),x.noPtr,l.all Seg.noPtr,u.noPtr)=(true,true,true,true,true))
 (h:∀ w00,Ok Tryz.prog f w00 (fun v w=>x.holds [] v w) (eK Tryz.prog 1000 (.items [.code (fn.body.getD .skip)] { slots := [u,.fv (.sc (.slc 0 0 n n))]++List.replicate (fn.ntmps-2) .un,blocks := [(T,l)],ro:=1 }))):Fits Tryz.prog f [u,.fv (.nsl n T l)] x:=by
 simp only [Prod.mk.injEq] at hc
 exact fitsAS_of hfn hc.1 hc.2.1 hc.2.2.1 hc.2.2.2.1 hc.2.2.2.2 fun w00=>Ok.go (by kernel_rfl) oR 1000 (h w00)
abbrev lo (n:Int) (s:ByteArray):Bool:=decide (n<(s.size:Nat))
section
variable {a b c d x y u:ByteArray} {n:Int} {T:TypeId} {r:Bool}
set_option maxRecDepth 100000 in
theorem shortF (h:(lo n a || lo n b || lo n c || lo n x || lo n y || lo n u)=r):Fits Tryz.prog 22 [it n,.fv (.nsl 2 T [dI a,dI b,dI c,dI x,dI y,dI u])] (bl (!r)):=by
 obtain ⟨r1,e1⟩:∃ r,lo n a=r:=⟨_,rfl⟩
 obtain ⟨r2,e2⟩:∃ r,lo n b=r:=⟨_,rfl⟩
 obtain ⟨r3,e3⟩:∃ r,lo n c=r:=⟨_,rfl⟩
 obtain ⟨r4,e4⟩:∃ r,lo n x=r:=⟨_,rfl⟩
 obtain ⟨r5,e5⟩:∃ r,lo n y=r:=⟨_,rfl⟩
 obtain ⟨r6,e6⟩:∃ r,lo n u=r:=⟨_,rfl⟩
 rw [e1,e2,e3,e4,e5,e6] at h
 subst h
 refine kgoAS Tryz.func22 (by kernel_rfl) fun w00=>?_
 refine iE 16 22 Tryz.underlying22 a (by kernel_rfl) ?_
 refine kgg (.tmp 17) (.tmp 18) a.size n r1 _ lit_int e1 ?_
 cases r1
 case true=>exact aN Tryz.func22 (by kernel_rfl)
 refine iE 25 22 Tryz.underlying22 b (by kernel_rfl) ?_
 refine kgg (.tmp 26) (.tmp 27) b.size n r2 _ lit_int e2 ?_
 cases r2
 case true=>exact aN Tryz.func22 (by kernel_rfl)
 refine iE 35 22 Tryz.underlying22 c (by kernel_rfl) ?_
 refine kgg (.tmp 36) (.tmp 37) c.size n r3 _ lit_int e3 ?_
 cases r3
 case true=>exact aN Tryz.func22 (by kernel_rfl)
 refine iE 16 22 Tryz.underlying22 x (by kernel_rfl) ?_
 refine kgg (.tmp 17) (.tmp 18) x.size n r4 _ lit_int e4 ?_
 cases r4
 case true=>exact aN Tryz.func22 (by kernel_rfl)
 refine iE 25 22 Tryz.underlying22 y (by kernel_rfl) ?_
 refine kgg (.tmp 26) (.tmp 27) y.size n r5 _ lit_int e5 ?_
 cases r5
 case true=>exact aN Tryz.func22 (by kernel_rfl)
 refine iE 35 22 Tryz.underlying22 u (by kernel_rfl) ?_
 refine kgg (.tmp 36) (.tmp 37) u.size n r6 _ lit_int e6 ?_
 cases r6
 case true=>exact aN Tryz.func22 (by kernel_rfl)
 exact aN Tryz.func22 (by kernel_rfl)
theorem checkRowAny {za zb zc z:Int} (h1:Fits Tryz.prog 13 [tx a] (it za)) (h2:Fits Tryz.prog 13 [tx b] (it zb)) (h3:Fits Tryz.prog 13 [tx c] (it zc)) (e1:Ev za) (e2:Ev zb) (e3:Ev zc) (hz:f3 za zb zc=z) :
 Fits Tryz.prog 82 [.fv (.nsl 3 T [dI a,dI b,dI c])] (it z):=by
 rcases e1 with rfl|rfl|rfl
 ·rcases e2 with rfl|rfl|rfl
  ·have hz:zc=z:=hz
   subst hz
   rcases e3 with rfl|rfl|rfl <;> (refine nJ Tryz.func82 (by kernel_rfl) fun w00=>?_;refine aB 13 [tx a] (h1) (by kernel_rfl) Tryz.call13 ?_;refine aB 13 [tx b] (h2) (by kernel_rfl) Tryz.call13 ?_;refine aB 13 [tx c] (h3) (by kernel_rfl) Tryz.call13 ?_;exact aN Tryz.func82 (by kernel_rfl))
  all_goals
   have hz:_=z:=hz
   subst hz
   refine nJ Tryz.func82 (by kernel_rfl) fun w00=>?_
   refine aB 13 [tx a] (h1) (by kernel_rfl) Tryz.call13 ?_
   refine aB 13 [tx b] (h2) (by kernel_rfl) Tryz.call13 ?_
   exact aN Tryz.func82 (by kernel_rfl)
 all_goals
  have hz:_=z:=hz
  subst hz
  refine nJ Tryz.func82 (by kernel_rfl) fun w00=>?_
  refine aB 13 [tx a] (h1) (by kernel_rfl) Tryz.call13 ?_
  exact aN Tryz.func82 (by kernel_rfl)
abbrev Sl (s:ByteArray):Prop:=s.size≤40
abbrev Sl3 (a b c:ByteArray):Prop:=Sl a∧Sl b∧Sl c
theorem Sl.rb {s:ByteArray} (h:Sl s):Rb s:=by have h:s.size≤40:=h;show s.size<_;omega
theorem Sl3.rb (h:Sl3 a b c):Rb3 a b c:=⟨Sl.rb h.1,Sl.rb h.2.1,Sl.rb h.2.2⟩
theorem bD {z:Int} (h:Sl3 a b c) (hz:c3 a b c=z):Fits Tryz.prog 23 [t3 a b c] (it z):=by
 have h1:a.size≤40:=h.1
 have h2:b.size≤40:=h.2.1
 have h3:c.size≤40:=h.2.2
 refine gR Tryz.func23 (by kernel_rfl) fun w00=>?_
 refine aB 82 [.fv (.nsl 3 22 [dI a,dI b,dI c])] (checkRowAny (dX (by omega) rfl) (dX (by omega) rfl) (dX (by omega) rfl) (aV _) (aV _) (aV _) hz) (by kernel_rfl) Tryz.call82 ?_
 exact aN Tryz.func23 (by kernel_rfl)
abbrev e0:Seg Kn := .lit (.string ⟨#[]⟩)
abbrev noT:AV Kn := .fv (.ag [e0,e0,e0])
abbrev noV (z:Int):AV Kn := .tup [.ag [e0,e0,e0],.sc (lz z)]
theorem kM {F:FuncId} {z:Int} (h:Rb3 a b c) (k:Rb3 x y u) (hz:f2 (c3 a b c) (c3 x y u)=z) (h0:z≠0):FitsW Tryz.prog Gl 84 [eV F,t3 a b c,t3 x y u] (noV z):=by
 rcases show Ev z from hz▸f2_ev (cL _ _ _) (cL _ _ _) with rfl|rfl|rfl
 ·exact absurd rfl h0
 all_goals
  refine bM Tryz.func84 (by kernel_rfl) fun w00 hG=>?_;have hI:=aP hG
  refine aE hI 90 [eV 83,t3 a b c,eV 83,t3 x y u] (readVVAny h k hz) (by kernel_rfl) Tryz.call90 ?_
  exact aN Tryz.func84 (by kernel_rfl)
theorem lI {z:Int} (h:Rb3 a b c) (k:Rb3 x y u) (hz:f2 (c3 a b c) (c3 x y u)=z) (h0:z≠0):FitsW Tryz.prog Gl 25 [t3 a b c,t3 x y u] (noV z):=by
 refine bM Tryz.func25 (by kernel_rfl) fun w00 hG=>?_;have hI:=aP hG
 refine aE hI 84 [eV 85,t3 a b c,t3 x y u] (kM h k hz h0) (by kernel_rfl) Tryz.call84 ?_
 exact aN Tryz.func25 (by kernel_rfl)
theorem lJ {z:Int} (h:Rb3 a b c) (k:Rb3 x y u) (hz:f2 (c3 a b c) (c3 x y u)=z) (h0:z≠0):FitsW Tryz.prog Gl 26 [t3 a b c,t3 x y u] (noV z):=by
 refine bM Tryz.func26 (by kernel_rfl) fun w00 hG=>?_;have hI:=aP hG
 refine aE hI 84 [eV 86,t3 a b c,t3 x y u] (kM h k hz h0) (by kernel_rfl) Tryz.call84 ?_
 exact aN Tryz.func26 (by kernel_rfl)
theorem nU {z:Int} (h:Rb3 a b c) (k:Rb3 x y u) (hz:f2 (c3 a b c) (c3 x y u)=z) (h0:z≠0):FitsW Tryz.prog Gl 29 [t3 a b c,t3 x y u] (noV z):=by
 refine bM Tryz.func29 (by kernel_rfl) fun w00 hG=>?_;have hI:=aP hG
 refine aE hI 84 [eV 92,t3 a b c,t3 x y u] (kM h k hz h0) (by kernel_rfl) Tryz.call84 ?_
 exact aN Tryz.func29 (by kernel_rfl)
theorem iC {z:Int} (h:Rb a) (k:Rb3 x y u) (hz:f2 (aZ a) (c3 x y u)=z) (h0:z≠0):FitsW Tryz.prog Gl 27 [tx a,t3 x y u] (noV z):=by
 rcases show Ev z from hz▸f2_ev (aV _) (cL _ _ _) with rfl|rfl|rfl
 ·exact absurd rfl h0
 all_goals
  refine bM Tryz.func27 (by kernel_rfl) fun w00 hG=>?_;have hI:=aP hG
  refine aE hI 87 [eV 60,tx a,eV 83,t3 x y u] (readRVAny h k hz) (by kernel_rfl) Tryz.call87 ?_
  exact aN Tryz.func27 (by kernel_rfl)
theorem apiDotErrF {z:Int} (h:Rb3 a b c) (k:Rb3 x y u) (hz:f2 (c3 a b c) (c3 x y u)=z) (h0:z≠0):FitsW Tryz.prog Gl 28 [t3 a b c,t3 x y u] (noS z):=by
 rcases show Ev z from hz▸f2_ev (cL _ _ _) (cL _ _ _) with rfl|rfl|rfl
 ·exact absurd rfl h0
 all_goals
  refine bM Tryz.func28 (by kernel_rfl) fun w00 hG=>?_;have hI:=aP hG
  refine aE hI 90 [eV 83,t3 a b c,eV 83,t3 x y u] (readVVAny h k hz) (by kernel_rfl) Tryz.call90 ?_
  exact aN Tryz.func28 (by kernel_rfl)
theorem nV {z:Int} (h:Rb3 a b c) (k:Rb3 x y u) (hz:f2 (c3 a b c) (c3 x y u)=z) (h0:z≠0):FitsW Tryz.prog Gl 31 [t3 a b c,t3 x y u] (noS z):=by
 rcases show Ev z from hz▸f2_ev (cL _ _ _) (cL _ _ _) with rfl|rfl|rfl
 ·exact absurd rfl h0
 all_goals
  refine bM Tryz.func31 (by kernel_rfl) fun w00 hG=>?_;have hI:=aP hG
  refine aE hI 90 [eV 83,t3 a b c,eV 83,t3 x y u] (readVVAny h k hz) (by kernel_rfl) Tryz.call90 ?_
  exact aN Tryz.func31 (by kernel_rfl)
theorem apiSquareErrF {z:Int} (h:Rb3 a b c) (hz:c3 a b c=z) (h0:z≠0):FitsW Tryz.prog Gl 30 [t3 a b c] (noS z):=by
 rcases show Ev z from hz▸cL _ _ _ with rfl|rfl|rfl
 ·exact absurd rfl h0
 all_goals
  refine bM Tryz.func30 (by kernel_rfl) fun w00 hG=>?_;have hI:=aP hG
  refine aE hI 83 [t3 a b c] (jB h hz) (by kernel_rfl) Tryz.call83 ?_
  exact aN Tryz.func30 (by kernel_rfl)
theorem scaleR3 (h1:Fits Tryz.prog 18 [tx a,tx b] (tx x)) (h2:Fits Tryz.prog 18 [tx a,tx c] (tx y)) (h3:Fits Tryz.prog 18 [tx a,tx d] (tx u)):Fits Tryz.prog 32 [tx a,t3 b c d] (t3 x y u):=by
 refine gR Tryz.func32 (by kernel_rfl) fun w00=>?_
 refine aB 18 [tx a,tx b] (h1) (by kernel_rfl) Tryz.call18 ?_
 refine aB 18 [tx a,tx c] (h2) (by kernel_rfl) Tryz.call18 ?_
 refine aB 18 [tx a,tx d] (h3) (by kernel_rfl) Tryz.call18 ?_
 exact aN Tryz.func32 (by kernel_rfl)
theorem whenF {b:Bool}:Fits Tryz.prog 41 [bl b,it 7] (it (if b then 7 else 0)):=by
 cases b <;> (refine gR Tryz.func41 (by kernel_rfl) fun w00=>?_;exact aN Tryz.func41 (by kernel_rfl))
theorem numberNone {s:ByteArray}:Fits Tryz.prog 14 [lt ⟨#[]⟩,it 7,it 7,tx s] (bl true):=by
 refine gR Tryz.func14 (by kernel_rfl) fun w00=>?_
 exact aN Tryz.func14 (by kernel_rfl)
end
section
variable {f:FuncId} {w00:World} {Out:Value→World→Prop} {c:Cfg Kn}
theorem ke3 (x y:Operand) (a b d a' b' d' : ByteArray) (r:Bool) (h:(a.toList==a'.toList&&b.toList==b'.toList&&d.toList==d'.toList)=r) (hg:Ok Tryz.prog f w00 Out (eK Tryz.prog 1000 (c.give (bl r))))
 (hc:(c.op.map fun o=>o.op,c.okT (bl r),c.ev x,c.ev y)=(some (.binOp .eql 39 x y 39),true,.fv (.ag [dI a,dI b,dI d]),.fv (.ag [dI a',dI b',dI d'])):=by kernel_rfl):Ok Tryz.prog f w00 Out c :=
 fD (.binOp .eql 39 x y 39) x y _ _ (bl r) hc (by simp [Op.operands]) (by simp [Op.operands]) (fun ρ o β w ho hx hy=>⟨_,agg_eq (by kernel_rfl) (h▸equalT a b d a' b' d' w) ho (s3_is hx) (s3_is hy),bG rfl⟩) hg
end
theorem jC {z:Int} (hz:Bz z):Fits Tryz.prog 34 [noT,it z,it z,noT] (bl true):=by
 rcases hz with rfl|rfl|rfl|rfl|rfl
 all_goals
  refine gR Tryz.func34 (by kernel_rfl) fun w00=>?_
  exact aN Tryz.func34 (by kernel_rfl)
theorem refLargeVecF {a b c:Rat} (h:dU a b c):Fits Tryz.prog 95 [vS a b c] (it 0):=by
 have h1:=refLargeF h.1
 have h2:=refLargeF h.2.1
 have h3:=refLargeF h.2.2
 have hr:Fits Tryz.prog 170 [.fv (.nsl 3 22 [dI (writeB a),dI (writeB b),dI (writeB c)])] (it 0):=by
  refine nJ Tryz.func170 (by kernel_rfl) fun w00=>?_
  refine aB 70 [tx (writeB a)] (h1) (by kernel_rfl) Tryz.call70 ?_
  refine aB 70 [tx (writeB b)] (h2) (by kernel_rfl) Tryz.call70 ?_
  refine aB 70 [tx (writeB c)] (h3) (by kernel_rfl) Tryz.call70 ?_
  exact aN Tryz.func170 (by kernel_rfl)
 refine gR Tryz.func95 (by kernel_rfl) fun w00=>?_
 refine aB 170 _ (hr) (by kernel_rfl) Tryz.call170 ?_
 exact aN Tryz.func95 (by kernel_rfl)
theorem cW {a b c:Rat} (h:dU a b c):Fits Tryz.prog 34 [vS a b c,it 0,it 0,vS a b c] (bl true):=by
 have hl:=refLargeVecF h
 refine gR Tryz.func34 (by kernel_rfl) fun w00=>?_
 refine aB 95 _ (hl) (by kernel_rfl) Tryz.call95 ?_
 refine ke3 (.tmp 26) (.tmp 27) (writeB a) (writeB b) (writeB c) (writeB a) (writeB b) (writeB c) true (by simp) ?_
 exact aN Tryz.func34 (by kernel_rfl)
section
variable {a b c x y u p q r:Rat} {s:ByteArray} {z:Int} {t:Bool}
theorem write_inj {p q:Rat} (hp:Wr p) (h:writeB p=writeB q) (hq:Wr q):p=q:=by
 have h1:=(iZ p).1
 have h2:=(iZ q).1
 have h3:=(iZ p).2
 have h4:=(iZ q).2
 rw [h] at h1 h3
 have hb:bA p=bA q:=h3.symm.trans h4
 obtain ⟨c1,c2,c3⟩:=body_cut p
 obtain ⟨d1,d2,d3⟩:=body_cut q
 rw [hb] at c1 c2 c3
 have hn:p.num.natAbs=q.num.natAbs:=decB_inj (c1.symm.trans d1)
 have hd:p.den=q.den:=by
  by_cases e:p.den=1
  ·by_cases e' : q.den=1
   ·rw [e,e']
   ·exact absurd e (c3.1 (d3.2 e'))
  ·have e':=d3.1 (c3.2 e)
   exact decB_inj ((c2 e).symm.trans (d2 e'))
 have hs:decide (p.num<0)=decide (q.num<0):=h1.symm.trans h2
 refine Rat.ext ?_ hd
 by_cases g:p.num<0
 ·have g' : q.num<0:=by rw [decide_eq_true g] at hs;exact of_decide_eq_true hs.symm
  omega
 ·have g' : ¬ q.num<0:=by rw [decide_eq_false g] at hs;exact of_decide_eq_false hs.symm
  omega
theorem text_eq {p q:Rat} (hp:Wr p) (hq:Wr q):((writeB p).toList==(writeB q).toList)=decide (p=q):=by
 rw [Bool.eq_iff_iff,decide_eq_true_iff,beq_iff_eq]
 constructor
 ·intro h
  rw [Go.ByteArray.toList_eq,Go.ByteArray.toList_eq] at h
  exact write_inj hp (ba_ext h) hq
 ·rintro rfl;rfl
theorem refAlongF (qa:Bq 40 a) (qb:Bq 40 b) (qc:Bq 40 c) (qx:Bq 40 x) (qy:Bq 40 y) (qu:Bq 40 u) (h0:dt a b c a b c≠0) (hp:dt a b c x y u/dt a b c a b c=p) (hr:(decide (p*a=x)&&decide (p*b=y)&&decide (p*c=u))=t) :
 Fits Tryz.prog 40 [vS a b c,vS x y u] (.tup [.sc (dI (writeB p)),.sc (.lit (.bool t))]):=by
 have q1:Bq 242 (dt a b c x y u):=Bq.dt qa qb qc qx qy qu (by omega)
 have q2:Bq 242 (dt a b c a b c):=Bq.dt qa qb qc qa qb qc (by omega)
 have qp:Bq 484 p:=by rw [← hp];exact q1.div q2
 have h1:=dotV qa qb qc qx qy qu (by omega)
 have h2:=jT (dotV qa qb qc qa qb qc (by omega))
 have h3:=cV (refDivF (q1.zs (by omega)) (q2.zs (by omega)) h0)
 rw [hp] at h3
 have m:∀ {q:Rat},Bq 40 q→Fits Tryz.prog 18 [tx (writeB p),tx (writeB q)] (tx (writeB (p*q))):=fun hq=>cV (dS (qp.zs (by omega)) (hq.zs (by omega)))
 have h4:=scaleR3 (m qa) (m qb) (m qc)
 have w:∀ {q r:Rat},Bq 40 q→Bq 40 r→((writeB (p*q)).toList==(writeB r).toList)=decide (p*q=r):=fun hq hr=>text_eq ((qp.mul hq).wr (by omega)) (hr.wr (by omega))
 have he:((writeB (p*a)).toList==(writeB x).toList&&(writeB (p*b)).toList==(writeB y).toList&&(writeB (p*c)).toList==(writeB u).toList)=t:=by rw [w qa qx,w qb qy,w qc qu,hr]
 refine gR Tryz.func40 (by kernel_rfl) fun w00=>?_
 refine aB 37 _ (h1) (by kernel_rfl) Tryz.call37 ?_
 refine aB 33 _ (h2) (by kernel_rfl) Tryz.call33 ?_
 refine aB 21 _ (h3) (by kernel_rfl) Tryz.call21 ?_
 refine aB 32 _ (h4) (by kernel_rfl) Tryz.call32 ?_
 refine ke3 (.tmp 16) (.tmp 17) _ _ _ _ _ _ t he ?_
 exact aN Tryz.func40 (by kernel_rfl)
end
section
variable {a b d x y u c:ByteArray} {z y1 y2 y3:Int}
theorem lo_n (h:Sl c):decide ((40:Int)<(c.size:Nat))=false:=by have h:c.size≤40:=h;rw [decide_eq_false_iff_not];omega
theorem fC (h:Sl3 a b d) (k:Sl3 x y u):Fits Tryz.prog 22 [it 40,.fv (.nsl 2 39 [dI a,dI b,dI d,dI x,dI y,dI u])] (bl true):=by
 have e:(lo 40 a || lo 40 b || lo 40 d || lo 40 x || lo 40 y || lo 40 u)=false:=by
  simp only [lo]
  rw [lo_n h.1,lo_n h.2.1,lo_n h.2.2,lo_n k.1,lo_n k.2.1,lo_n k.2.2]
  rfl
 exact shortF e
theorem vecs_long1 (h:(lo 40 a || lo 40 b || lo 40 d || lo 40 x || lo 40 y || lo 40 u)=true):FitsW Tryz.prog Gl 4 [t3 a b d,t3 x y u,tx c] (bl true):=by
 have hs:=shortF (T:=39) h
 refine bM Tryz.func4 (by kernel_rfl) fun w00 hG=>?_;have hI:=aP hG
 refine aE hI 5 [] (iP) (by kernel_rfl) Tryz.call5 ?_
 refine aB 22 _ (hs) (by kernel_rfl) Tryz.call22 ?_
 refine aE hI 5 [] (iP) (by kernel_rfl) Tryz.call5 ?_
 exact aN Tryz.func4 (by kernel_rfl)
theorem vecs_long2 (h:Sl3 a b d) (k:Sl3 x y u) (hc:decide ((40:Int)<(c.size:Nat))=true):FitsW Tryz.prog Gl 4 [t3 a b d,t3 x y u,tx c] (bl true):=by
 have hs:=fC h k
 refine bM Tryz.func4 (by kernel_rfl) fun w00 hG=>?_;have hI:=aP hG
 refine aE hI 5 [] (iP) (by kernel_rfl) Tryz.call5 ?_
 refine aB 22 _ (hs) (by kernel_rfl) Tryz.call22 ?_
 refine iE 38 22 Tryz.underlying22 c (by kernel_rfl) ?_
 refine kgt 39 c.size 40 true hc (by kernel_rfl) ?_
 refine aE hI 5 [] (iP) (by kernel_rfl) Tryz.call5 ?_
 exact aN Tryz.func4 (by kernel_rfl)
abbrev B14 (z:Int):Prop:=z=1∨z=4
theorem ev_b {z:Int} (h:Ev z) (h0:z≠0):B14 z:=by
 rcases h with h|h|h
 ·exact absurd h h0
 ·exact .inl h
 ·exact .inr h
theorem b_ne {z:Int} (h:B14 z):z≠0:=by rcases h with rfl|rfl <;> decide
theorem b_4 {z:Int} (h:B14 z):Bz z:=by
 rcases h with h|h
 ·exact .inl h
 ·exact .inr (.inr (.inl h))
set_option maxRecDepth 100000 in
theorem vecs_bad1 (h:Sl3 a b d) (k:Sl3 x y u) (hc' : Sl c) (hz:c3 a b d=z) (h0:B14 z):FitsW Tryz.prog Gl 4 [t3 a b d,t3 x y u,tx c] (bl true):=by
 have hc:=lo_n hc'
 have hs:=fC h k
 have n0:=b_ne h0
 have hf:f2 (c3 a b d) (c3 x y u)=z:=by rw [f2_l (by rw [hz];exact n0)];exact hz
 have kA:=bD h hz
 have kB:=bD k rfl
 have kF:=cB (cL a b d) (cL x y u) hf
 have cC:=dL h.rb hz
 have cAdd:=lI h.rb k.rb hf n0
 have cSub:=lJ h.rb k.rb hf n0
 have cDot:=apiDotErrF h.rb k.rb hf n0
 have cCro:=nU h.rb k.rb hf n0
 have cSqu:=apiSquareErrF h.rb hz n0
 have cAlo:=nV h.rb k.rb hf n0
 obtain ⟨o,ho⟩:∃ o,f2 (aZ c) (c3 a b d)=o:=⟨_,rfl⟩
 have hob:B14 o:=by
  refine ev_b (ho▸f2_ev (aV c) (cL a b d)) fun e=>?_
  rw [e] at ho
  exact n0 (hz▸(f2_zero ho).2)
 have cSca:=iC hc'.rb h.rb ho (b_ne hob)
 have kC:=dX (s:=c) (by have h:c.size≤40:=hc';omega) rfl
 have kG:=cB (aV c) (cL a b d) ho
 have pS:=jC (b_4 hob)
 have pB:=jC (b_4 h0)
 have nB:=mT (b_4 h0)
 rw [hz] at kF kG
 clear hf ho h k hc' hz n0
 generalize c3 x y u=zb at *
 generalize aZ c=zc at *
 rcases h0 with rfl|rfl
 all_goals
  rcases hob with rfl|rfl
  all_goals
   refine bM Tryz.func4 (by kernel_rfl) fun w00 hG=>?_;have hI:=aP hG
   refine aE hI 5 [] (iP) (by kernel_rfl) Tryz.call5 ?_
   refine aB 22 _ (hs) (by kernel_rfl) Tryz.call22 ?_
   refine iE 38 22 Tryz.underlying22 c (by kernel_rfl) ?_
   refine kgt 39 c.size 40 false hc (by kernel_rfl) ?_
   refine aB 23 _ (kA) (by kernel_rfl) Tryz.call23 ?_
   refine aB 23 _ (kB) (by kernel_rfl) Tryz.call23 ?_
   refine aB 12 _ (kF) (by kernel_rfl) Tryz.call12 ?_
   refine aE hI 24 _ (cC) (by kernel_rfl) Tryz.call24 ?_
   refine aE hI 25 _ (cAdd) (by kernel_rfl) Tryz.call25 ?_
   refine aE hI 26 _ (cSub) (by kernel_rfl) Tryz.call26 ?_
   refine aE hI 27 _ (cSca) (by kernel_rfl) Tryz.call27 ?_
   refine aE hI 28 _ (cDot) (by kernel_rfl) Tryz.call28 ?_
   refine aE hI 29 _ (cCro) (by kernel_rfl) Tryz.call29 ?_
   refine aE hI 30 _ (cSqu) (by kernel_rfl) Tryz.call30 ?_
   refine aE hI 31 _ (cAlo) (by kernel_rfl) Tryz.call31 ?_
   refine aB 13 _ (kC) (by kernel_rfl) Tryz.call13 ?_
   refine aB 12 _ (kG) (by kernel_rfl) Tryz.call12 ?_
   refine aB 34 _ (pS) (by kernel_rfl) Tryz.call34 ?_
   refine aB 14 _ (nB) (by kernel_rfl) Tryz.call14 ?_
   refine aB 34 _ (pB) (by kernel_rfl) Tryz.call34 ?_
   refine aB 34 _ (pB) (by kernel_rfl) Tryz.call34 ?_
   refine aB 14 _ (nB) (by kernel_rfl) Tryz.call14 ?_
   refine aB 34 _ (pB) (by kernel_rfl) Tryz.call34 ?_
   refine aB 14 _ (nB) (by kernel_rfl) Tryz.call14 ?_
   exact aN Tryz.func4 (by kernel_rfl)
end
section
variable {a b d:Rat} {x y u c:ByteArray} {z o:Int}
set_option maxRecDepth 100000 in
theorem vecs_bad2 (h:Sl3 (writeB a) (writeB b) (writeB d)) (k:Sl3 x y u) (hc' : Sl c) (qa:Bq 40 a) (qb:Bq 40 b) (qd:Bq 40 d) (hA:c3 (writeB a) (writeB b) (writeB d)=0) (hz:c3 x y u=z) (h0:B14 z) (ho:aZ c=o) (hob:B14 o) :
 FitsW Tryz.prog Gl 4 [vS a b d,t3 x y u,tx c] (bl true):=by
 have hc:=lo_n hc'
 have hs:=fC h k
 have n0:=b_ne h0
 have hf:f2 (c3 (writeB a) (writeB b) (writeB d)) (c3 x y u)=z:=by rw [f2_r hA];exact hz
 have hg:f2 (aZ c) (c3 (writeB a) (writeB b) (writeB d))=o:=by rw [f2_l (by rw [ho];exact b_ne hob)];exact ho
 have wa:dU a b d:=⟨qa.wr (by omega),qb.wr (by omega),qd.wr (by omega)⟩
 have q2:Bq 242 (dt a b d a b d):=Bq.dt qa qb qd qa qb qd (by omega)
 have w2:Wr (dt a b d a b d):=q2.wr (by omega)
 have kA:=bD h hA
 have kB:=bD k hz
 have kF:=cB (cL (writeB a) (writeB b) (writeB d)) (cL x y u) hf
 have cC:=dL h.rb hA
 have cAdd:=lI h.rb k.rb hf n0
 have cSub:=lJ h.rb k.rb hf n0
 have cDot:=apiDotErrF h.rb k.rb hf n0
 have cCro:=nU h.rb k.rb hf n0
 have cSqu:=fM wa w2
 have cAlo:=nV h.rb k.rb hf n0
 have cSca:=iC hc'.rb h.rb hg (b_ne hob)
 have kC:=dX (s:=c) (by have h:c.size≤40:=hc';omega) ho
 have kG:=cB (aV c) (cL (writeB a) (writeB b) (writeB d)) hg
 have rSq:=jT (dotV qa qb qd qa qb qd (by omega))
 have pS:=jC (b_4 hob)
 have nS:=dJ w2
 have pB:=jC (b_4 h0)
 have nB:=mT (b_4 h0)
 rw [hA,hz] at kF
 rw [hA,ho] at kG
 clear hf ho h k hc' hz n0 hA hg wa q2 w2 qa qb qd
 generalize writeB (dt a b d a b d)=sq at *
 rcases h0 with rfl|rfl
 all_goals
  rcases hob with rfl|rfl
  all_goals
   refine bM Tryz.func4 (by kernel_rfl) fun w00 hG=>?_;have hI:=aP hG
   refine aE hI 5 [] (iP) (by kernel_rfl) Tryz.call5 ?_
   refine aB 22 _ (hs) (by kernel_rfl) Tryz.call22 ?_
   refine iE 38 22 Tryz.underlying22 c (by kernel_rfl) ?_
   refine kgt 39 c.size 40 false hc (by kernel_rfl) ?_
   refine aB 23 _ (kA) (by kernel_rfl) Tryz.call23 ?_
   refine aB 23 _ (kB) (by kernel_rfl) Tryz.call23 ?_
   refine aB 12 _ (kF) (by kernel_rfl) Tryz.call12 ?_
   refine aE hI 24 _ (cC) (by kernel_rfl) Tryz.call24 ?_
   refine aE hI 25 _ (cAdd) (by kernel_rfl) Tryz.call25 ?_
   refine aE hI 26 _ (cSub) (by kernel_rfl) Tryz.call26 ?_
   refine aE hI 27 _ (cSca) (by kernel_rfl) Tryz.call27 ?_
   refine aE hI 28 _ (cDot) (by kernel_rfl) Tryz.call28 ?_
   refine aE hI 29 _ (cCro) (by kernel_rfl) Tryz.call29 ?_
   refine aE hI 30 _ (cSqu) (by kernel_rfl) Tryz.call30 ?_
   refine aE hI 31 _ (cAlo) (by kernel_rfl) Tryz.call31 ?_
   refine aB 13 _ (kC) (by kernel_rfl) Tryz.call13 ?_
   refine aB 12 _ (kG) (by kernel_rfl) Tryz.call12 ?_
   refine aB 33 _ (rSq) (by kernel_rfl) Tryz.call33 ?_
   refine aB 34 _ (pS) (by kernel_rfl) Tryz.call34 ?_
   refine aB 14 _ (nS) (by kernel_rfl) Tryz.call14 ?_
   refine aB 34 _ (pB) (by kernel_rfl) Tryz.call34 ?_
   refine aB 34 _ (pB) (by kernel_rfl) Tryz.call34 ?_
   refine aB 14 _ (nB) (by kernel_rfl) Tryz.call14 ?_
   refine aB 34 _ (pB) (by kernel_rfl) Tryz.call34 ?_
   refine aB 14 _ (nB) (by kernel_rfl) Tryz.call14 ?_
   exact aN Tryz.func4 (by kernel_rfl)
end
section
variable {a b d e:Rat} {x y u:ByteArray} {z:Int}
set_option maxRecDepth 100000 in
theorem vecs_bad3 (h:Sl3 (writeB a) (writeB b) (writeB d)) (k:Sl3 x y u) (hc' : Sl (writeB e)) (qa:Bq 40 a) (qb:Bq 40 b) (qd:Bq 40 d) (qe:Bq 40 e) (hA:c3 (writeB a) (writeB b) (writeB d)=0) (hz:c3 x y u=z) (h0:B14 z) (ho:aZ (writeB e)=0) :
 FitsW Tryz.prog Gl 4 [vS a b d,t3 x y u,tx (writeB e)] (bl true):=by
 have hc:=lo_n hc'
 have hs:=fC h k
 have n0:=b_ne h0
 have hf:f2 (c3 (writeB a) (writeB b) (writeB d)) (c3 x y u)=z:=by rw [f2_r hA];exact hz
 have hg:f2 (aZ (writeB e)) (c3 (writeB a) (writeB b) (writeB d))=0:=by rw [f2_r ho];exact hA
 have wa:dU a b d:=⟨qa.wr (by omega),qb.wr (by omega),qd.wr (by omega)⟩
 have q2:Bq 242 (dt a b d a b d):=Bq.dt qa qb qd qa qb qd (by omega)
 have w2:Wr (dt a b d a b d):=q2.wr (by omega)
 have w3:dU (e*a) (e*b) (e*d):=⟨(qe.mul qa).wr (by omega),(qe.mul qb).wr (by omega),(qe.mul qd).wr (by omega)⟩
 have kA:=bD h hA
 have kB:=bD k hz
 have kF:=cB (cL (writeB a) (writeB b) (writeB d)) (cL x y u) hf
 have cC:=dL h.rb hA
 have cAdd:=lI h.rb k.rb hf n0
 have cSub:=lJ h.rb k.rb hf n0
 have cDot:=apiDotErrF h.rb k.rb hf n0
 have cCro:=nU h.rb k.rb hf n0
 have cSqu:=fM wa w2
 have cAlo:=nV h.rb k.rb hf n0
 have cSca:=apiScaleF (qe.wr (by omega)) wa w3
 have kC:=dX (s:=writeB e) (by have h:(writeB e).size≤40:=hc';omega) ho
 have kG:=cB (aV (writeB e)) (cL (writeB a) (writeB b) (writeB d)) hg
 have rSq:=jT (dotV qa qb qd qa qb qd (by omega))
 have rSc:=scaleR3 (cV (dS (qe.zs (by omega)) (qa.zs (by omega)))) (cV (dS (qe.zs (by omega)) (qb.zs (by omega)))) (cV (dS (qe.zs (by omega)) (qd.zs (by omega))))
 have pS:=cW w3
 have nS:=dJ w2
 have pB:=jC (b_4 h0)
 have nB:=mT (b_4 h0)
 rw [hA,hz] at kF
 rw [hA,ho] at kG
 clear hf ho h k hc' hz n0 hA hg wa q2 w2 w3 qa qb qd qe
 generalize writeB (dt a b d a b d)=sq at *
 generalize writeB e=c at *
 rcases h0 with rfl|rfl
 all_goals
  refine bM Tryz.func4 (by kernel_rfl) fun w00 hG=>?_;have hI:=aP hG
  refine aE hI 5 [] (iP) (by kernel_rfl) Tryz.call5 ?_
  refine aB 22 _ (hs) (by kernel_rfl) Tryz.call22 ?_
  refine iE 38 22 Tryz.underlying22 c (by kernel_rfl) ?_
  refine kgt 39 c.size 40 false hc (by kernel_rfl) ?_
  refine aB 23 _ (kA) (by kernel_rfl) Tryz.call23 ?_
  refine aB 23 _ (kB) (by kernel_rfl) Tryz.call23 ?_
  refine aB 12 _ (kF) (by kernel_rfl) Tryz.call12 ?_
  refine aE hI 24 _ (cC) (by kernel_rfl) Tryz.call24 ?_
  refine aE hI 25 _ (cAdd) (by kernel_rfl) Tryz.call25 ?_
  refine aE hI 26 _ (cSub) (by kernel_rfl) Tryz.call26 ?_
  refine aE hI 27 _ (cSca) (by kernel_rfl) Tryz.call27 ?_
  refine aE hI 28 _ (cDot) (by kernel_rfl) Tryz.call28 ?_
  refine aE hI 29 _ (cCro) (by kernel_rfl) Tryz.call29 ?_
  refine aE hI 30 _ (cSqu) (by kernel_rfl) Tryz.call30 ?_
  refine aE hI 31 _ (cAlo) (by kernel_rfl) Tryz.call31 ?_
  refine aB 13 _ (kC) (by kernel_rfl) Tryz.call13 ?_
  refine aB 12 _ (kG) (by kernel_rfl) Tryz.call12 ?_
  refine aB 32 _ (rSc) (by kernel_rfl) Tryz.call32 ?_
  refine aB 33 _ (rSq) (by kernel_rfl) Tryz.call33 ?_
  refine aB 34 _ (pS) (by kernel_rfl) Tryz.call34 ?_
  refine aB 14 _ (nS) (by kernel_rfl) Tryz.call14 ?_
  refine aB 34 _ (pB) (by kernel_rfl) Tryz.call34 ?_
  refine aB 34 _ (pB) (by kernel_rfl) Tryz.call34 ?_
  refine aB 14 _ (nB) (by kernel_rfl) Tryz.call14 ?_
  refine aB 34 _ (pB) (by kernel_rfl) Tryz.call34 ?_
  refine aB 14 _ (nB) (by kernel_rfl) Tryz.call14 ?_
  exact aN Tryz.func4 (by kernel_rfl)
end
theorem wr_zero:Wr (0:Rat):=(bq_int (z:=0) (k:=1) (by omega) (by omega)).wr (by omega)
section
variable {a b d x y u e:Rat}
theorem lag0 (h:b*u-d*y=0) (h2:d*x-a*u=0) (h3:a*y-b*x=0) (h0:dt a b d a b d≠0):dt a b d x y u/dt a b d a b d*a=x∧dt a b d x y u/dt a b d a b d*b=y∧dt a b d x y u/dt a b d a b d*d=u:=by
 have e1:dt a b d x y u*a=dt a b d a b d*x:=by grind
 have e2:dt a b d x y u*b=dt a b d a b d*y:=by grind
 have e3:dt a b d x y u*d=dt a b d a b d*u:=by grind
 generalize dt a b d x y u=s at *
 generalize dt a b d a b d=r at *
 refine ⟨by grind,by grind,by grind⟩
theorem lag1 {p:Rat} (h1:p*a=x) (h2:p*b=y) (h3:p*d=u):b*u-d*y=0∧d*x-a*u=0∧a*y-b*x=0:=by
 subst h1 h2 h3
 refine ⟨by grind,by grind,by grind⟩
set_option maxRecDepth 100000 in
theorem vecs_e_zero {c:ByteArray} {o:Int} (h:Sl3 (writeB a) (writeB b) (writeB d)) (k:Sl3 (writeB x) (writeB y) (writeB u)) (hc' : Sl c) (qa:Bq 40 a) (qb:Bq 40 b) (qd:Bq 40 d) (qx:Bq 40 x) (qy:Bq 40 y) (qu:Bq 40 u) (ho:aZ c=o) (hob:B14 o) (hA:c3 (writeB a) (writeB b) (writeB d)=0) (hB:c3 (writeB x) (writeB y) (writeB u)=0) (hv:a=0∧b=0∧d=0) :
 FitsW Tryz.prog Gl 4 [vS a b d,vS x y u,tx c] (bl true):=by
 have hc:=lo_n hc'
 have hs:=fC h k
 have hf:f2 (c3 (writeB a) (writeB b) (writeB d)) (c3 (writeB x) (writeB y) (writeB u))=0:=by rw [f2_r hA];exact hB
 have hg:f2 (aZ c) (c3 (writeB a) (writeB b) (writeB d))=o:=by rw [f2_l (by rw [ho];exact b_ne hob)];exact ho
 have wa:dU a b d:=⟨qa.wr (by omega),qb.wr (by omega),qd.wr (by omega)⟩
 have wx:dU x y u:=⟨qx.wr (by omega),qy.wr (by omega),qu.wr (by omega)⟩
 have q2:Bq 242 (dt a b d a b d):=Bq.dt qa qb qd qa qb qd (by omega)
 have w2:Wr (dt a b d a b d):=q2.wr (by omega)
 have q4:Bq 242 (dt a b d x y u):=Bq.dt qa qb qd qx qy qu (by omega)
 have w4:Wr (dt a b d x y u):=q4.wr (by omega)
 have wA:dU (a+x) (b+y) (d+u):=⟨(qa.add qx).wr (by omega),(qb.add qy).wr (by omega),(qd.add qu).wr (by omega)⟩
 have wS:dU (a-x) (b-y) (d-u):=⟨(qa.sub qx).wr (by omega),(qb.sub qy).wr (by omega),(qd.sub qu).wr (by omega)⟩
 have wC:dU (b*u-d*y) (d*x-a*u) (a*y-b*x):=⟨((qb.mul qu).sub (qd.mul qy)).wr (by omega),((qd.mul qx).sub (qa.mul qu)).wr (by omega),((qa.mul qy).sub (qb.mul qx)).wr (by omega)⟩
 have kA:=bD h hA
 have kB:=bD k hB
 have kF:=cB (cL (writeB a) (writeB b) (writeB d)) (cL (writeB x) (writeB y) (writeB u)) hf
 have cC:=dL h.rb hA
 have cAdd:=iJ wa wx wA
 have cSub:=iK wa wx wS
 have cDot:=apiDotF wa wx w4
 have cCro:=jW wa wx wC
 have cSqu:=fM wa w2
 have rAdd:=addVecR (cV (dF (qa.zs (by omega)) (qx.zs (by omega)))) (cV (dF (qb.zs (by omega)) (qy.zs (by omega)))) (cV (dF (qd.zs (by omega)) (qu.zs (by omega))))
 have rSub:=subVecR (cV (nT (qa.zs (by omega)) (qx.zs (by omega)))) (cV (nT (qb.zs (by omega)) (qy.zs (by omega)))) (cV (nT (qd.zs (by omega)) (qu.zs (by omega))))
 have rDot:=dotV qa qb qd qx qy qu (by omega)
 have rCro:=crossV qa qb qd qx qy qu (by omega)
 have rSq:=jT (dotV qa qb qd qa qb qd (by omega))
 have pAdd:=cW wA
 have pSub:=cW wS
 have pCro:=cW wC
 have nDot:=dJ w4
 have nS:=dJ w2
 have cSca:=iC hc'.rb h.rb hg (b_ne hob)
 have kC:=dX (s:=c) (by have h:c.size≤40:=hc';omega) ho
 have kG:=cB (aV c) (cL (writeB a) (writeB b) (writeB d)) hg
 have pS:=jC (b_4 hob)
 rw [hA,hB] at kF
 rw [hA,ho] at kG
 have cAlo:=apiAlongZeroF wa wx (mS hv)
 have rO:Fits Tryz.prog 39 [vS a b d] (bl true):=jY (by
  have z:writeB (0:Rat)=⟨#[48]⟩:=w0
  rw [hv.1,hv.2.1,hv.2.2,z];simp)
 have nE:=mT (z:=6) (by decide)
 clear hf h k hc' hA hB hg wa wx q2 w2 q4 w4 wA wS wC qa qb qd qx qy qu hv ho
 rcases hob with rfl|rfl
 all_goals
  refine bM Tryz.func4 (by kernel_rfl) fun w00 hG=>?_;have hI:=aP hG
  refine aE hI 5 [] (iP) (by kernel_rfl) Tryz.call5 ?_
  refine aB 22 _ (hs) (by kernel_rfl) Tryz.call22 ?_
  refine iE 38 22 Tryz.underlying22 c (by kernel_rfl) ?_
  refine kgt 39 c.size 40 false hc (by kernel_rfl) ?_
  refine aB 23 _ (kA) (by kernel_rfl) Tryz.call23 ?_
  refine aB 23 _ (kB) (by kernel_rfl) Tryz.call23 ?_
  refine aB 12 _ (kF) (by kernel_rfl) Tryz.call12 ?_
  refine aE hI 24 _ (cC) (by kernel_rfl) Tryz.call24 ?_
  refine aE hI 25 _ (cAdd) (by kernel_rfl) Tryz.call25 ?_
  refine aE hI 26 _ (cSub) (by kernel_rfl) Tryz.call26 ?_
  refine aE hI 27 _ (cSca) (by kernel_rfl) Tryz.call27 ?_
  refine aE hI 28 _ (cDot) (by kernel_rfl) Tryz.call28 ?_
  refine aE hI 29 _ (cCro) (by kernel_rfl) Tryz.call29 ?_
  refine aE hI 30 _ (cSqu) (by kernel_rfl) Tryz.call30 ?_
  refine aE hI 31 _ (cAlo) (by kernel_rfl) Tryz.call31 ?_
  refine aB 13 _ (kC) (by kernel_rfl) Tryz.call13 ?_
  refine aB 12 _ (kG) (by kernel_rfl) Tryz.call12 ?_
  refine aB 33 _ (rSq) (by kernel_rfl) Tryz.call33 ?_
  refine aB 34 _ (pS) (by kernel_rfl) Tryz.call34 ?_
  refine aB 14 _ (nS) (by kernel_rfl) Tryz.call14 ?_
  refine aB 35 _ (rAdd) (by kernel_rfl) Tryz.call35 ?_
  refine aB 34 _ (pAdd) (by kernel_rfl) Tryz.call34 ?_
  refine aB 36 _ (rSub) (by kernel_rfl) Tryz.call36 ?_
  refine aB 34 _ (pSub) (by kernel_rfl) Tryz.call34 ?_
  refine aB 37 _ (rDot) (by kernel_rfl) Tryz.call37 ?_
  refine aB 14 _ (nDot) (by kernel_rfl) Tryz.call14 ?_
  refine aB 38 _ (rCro) (by kernel_rfl) Tryz.call38 ?_
  refine aB 34 _ (pCro) (by kernel_rfl) Tryz.call34 ?_
  refine aB 39 _ (rO) (by kernel_rfl) Tryz.call39 ?_
  refine aB 14 _ (nE) (by kernel_rfl) Tryz.call14 ?_
  exact aN Tryz.func4 (by kernel_rfl)
set_option maxRecDepth 100000 in
theorem vecs_e_yes {c:ByteArray} {o:Int} (h:Sl3 (writeB a) (writeB b) (writeB d)) (k:Sl3 (writeB x) (writeB y) (writeB u)) (hc' : Sl c) (qa:Bq 40 a) (qb:Bq 40 b) (qd:Bq 40 d) (qx:Bq 40 x) (qy:Bq 40 y) (qu:Bq 40 u) (ho:aZ c=o) (hob:B14 o) (hA:c3 (writeB a) (writeB b) (writeB d)=0) (hB:c3 (writeB x) (writeB y) (writeB u)=0) (hv:¬ (a=0∧b=0∧d=0)) (hx:b*u-d*y=0∧d*x-a*u=0∧a*y-b*x=0) :
 FitsW Tryz.prog Gl 4 [vS a b d,vS x y u,tx c] (bl true):=by
 have hc:=lo_n hc'
 have hs:=fC h k
 have hf:f2 (c3 (writeB a) (writeB b) (writeB d)) (c3 (writeB x) (writeB y) (writeB u))=0:=by rw [f2_r hA];exact hB
 have hg:f2 (aZ c) (c3 (writeB a) (writeB b) (writeB d))=o:=by rw [f2_l (by rw [ho];exact b_ne hob)];exact ho
 have wa:dU a b d:=⟨qa.wr (by omega),qb.wr (by omega),qd.wr (by omega)⟩
 have wx:dU x y u:=⟨qx.wr (by omega),qy.wr (by omega),qu.wr (by omega)⟩
 have q2:Bq 242 (dt a b d a b d):=Bq.dt qa qb qd qa qb qd (by omega)
 have w2:Wr (dt a b d a b d):=q2.wr (by omega)
 have q4:Bq 242 (dt a b d x y u):=Bq.dt qa qb qd qx qy qu (by omega)
 have w4:Wr (dt a b d x y u):=q4.wr (by omega)
 have wA:dU (a+x) (b+y) (d+u):=⟨(qa.add qx).wr (by omega),(qb.add qy).wr (by omega),(qd.add qu).wr (by omega)⟩
 have wS:dU (a-x) (b-y) (d-u):=⟨(qa.sub qx).wr (by omega),(qb.sub qy).wr (by omega),(qd.sub qu).wr (by omega)⟩
 have wC:dU (b*u-d*y) (d*x-a*u) (a*y-b*x):=⟨((qb.mul qu).sub (qd.mul qy)).wr (by omega),((qd.mul qx).sub (qa.mul qu)).wr (by omega),((qa.mul qy).sub (qb.mul qx)).wr (by omega)⟩
 have kA:=bD h hA
 have kB:=bD k hB
 have kF:=cB (cL (writeB a) (writeB b) (writeB d)) (cL (writeB x) (writeB y) (writeB u)) hf
 have cC:=dL h.rb hA
 have cAdd:=iJ wa wx wA
 have cSub:=iK wa wx wS
 have cDot:=apiDotF wa wx w4
 have cCro:=jW wa wx wC
 have cSqu:=fM wa w2
 have rAdd:=addVecR (cV (dF (qa.zs (by omega)) (qx.zs (by omega)))) (cV (dF (qb.zs (by omega)) (qy.zs (by omega)))) (cV (dF (qd.zs (by omega)) (qu.zs (by omega))))
 have rSub:=subVecR (cV (nT (qa.zs (by omega)) (qx.zs (by omega)))) (cV (nT (qb.zs (by omega)) (qy.zs (by omega)))) (cV (nT (qd.zs (by omega)) (qu.zs (by omega))))
 have rDot:=dotV qa qb qd qx qy qu (by omega)
 have rCro:=crossV qa qb qd qx qy qu (by omega)
 have rSq:=jT (dotV qa qb qd qa qb qd (by omega))
 have pAdd:=cW wA
 have pSub:=cW wS
 have pCro:=cW wC
 have nDot:=dJ w4
 have nS:=dJ w2
 have cSca:=iC hc'.rb h.rb hg (b_ne hob)
 have kC:=dX (s:=c) (by have h:c.size≤40:=hc';omega) ho
 have kG:=cB (aV c) (cL (writeB a) (writeB b) (writeB d)) hg
 have pS:=jC (b_4 hob)
 rw [hA,hB] at kF
 rw [hA,ho] at kG
 have wz:∀ {q:Rat},Bq 40 q→((writeB q).toList==(⟨#[48]⟩:ByteArray).toList)=decide (q=0):=fun {q} hq=>by
  have z:(⟨#[48]⟩:ByteArray)=writeB (0:Rat):=w0.symm
  rw [z]
  exact text_eq (hq.wr (by omega)) wr_zero
 have rO:Fits Tryz.prog 39 [vS a b d] (bl false):=jY (by rw [wz qa,wz qb,wz qd];exact gH hv)
 have s0:dt a b d a b d≠0:=fun e=>hv (sum_sq e)
 obtain ⟨p,hp⟩:∃ p,dt a b d x y u/dt a b d a b d=p:=⟨_,rfl⟩
 have qp:Bq 484 p:=by rw [← hp];exact q4.div q2
 have wp:Wr p:=qp.wr (by omega)
 have hl:=lag0 hx.1 hx.2.1 hx.2.2 s0
 rw [hp] at hl
 have hcm:dt x y u a b d=dt a b d x y u:=by grind
 have cAlo:=apiAlongF wa wx (gH hv) (mS hx) s0 (by rw [hcm,hp];exact wp)
 rw [hcm,hp] at cAlo
 have rAl:=refAlongF qa qb qd qx qy qu s0 hp (mS hl)
 have kW := @whenF false
 have nE:=dJ wp
 clear hf h k hc' hA hB hg wa wx q2 w2 q4 w4 wA wS wC qa qb qd qx qy qu hv ho hx qp wp wz s0 hp hl hcm
 rcases hob with rfl|rfl
 all_goals
  refine bM Tryz.func4 (by kernel_rfl) fun w00 hG=>?_;have hI:=aP hG
  refine aE hI 5 [] (iP) (by kernel_rfl) Tryz.call5 ?_
  refine aB 22 _ (hs) (by kernel_rfl) Tryz.call22 ?_
  refine iE 38 22 Tryz.underlying22 c (by kernel_rfl) ?_
  refine kgt 39 c.size 40 false hc (by kernel_rfl) ?_
  refine aB 23 _ (kA) (by kernel_rfl) Tryz.call23 ?_
  refine aB 23 _ (kB) (by kernel_rfl) Tryz.call23 ?_
  refine aB 12 _ (kF) (by kernel_rfl) Tryz.call12 ?_
  refine aE hI 24 _ (cC) (by kernel_rfl) Tryz.call24 ?_
  refine aE hI 25 _ (cAdd) (by kernel_rfl) Tryz.call25 ?_
  refine aE hI 26 _ (cSub) (by kernel_rfl) Tryz.call26 ?_
  refine aE hI 27 _ (cSca) (by kernel_rfl) Tryz.call27 ?_
  refine aE hI 28 _ (cDot) (by kernel_rfl) Tryz.call28 ?_
  refine aE hI 29 _ (cCro) (by kernel_rfl) Tryz.call29 ?_
  refine aE hI 30 _ (cSqu) (by kernel_rfl) Tryz.call30 ?_
  refine aE hI 31 _ (cAlo) (by kernel_rfl) Tryz.call31 ?_
  refine aB 13 _ (kC) (by kernel_rfl) Tryz.call13 ?_
  refine aB 12 _ (kG) (by kernel_rfl) Tryz.call12 ?_
  refine aB 33 _ (rSq) (by kernel_rfl) Tryz.call33 ?_
  refine aB 34 _ (pS) (by kernel_rfl) Tryz.call34 ?_
  refine aB 14 _ (nS) (by kernel_rfl) Tryz.call14 ?_
  refine aB 35 _ (rAdd) (by kernel_rfl) Tryz.call35 ?_
  refine aB 34 _ (pAdd) (by kernel_rfl) Tryz.call34 ?_
  refine aB 36 _ (rSub) (by kernel_rfl) Tryz.call36 ?_
  refine aB 34 _ (pSub) (by kernel_rfl) Tryz.call34 ?_
  refine aB 37 _ (rDot) (by kernel_rfl) Tryz.call37 ?_
  refine aB 14 _ (nDot) (by kernel_rfl) Tryz.call14 ?_
  refine aB 38 _ (rCro) (by kernel_rfl) Tryz.call38 ?_
  refine aB 34 _ (pCro) (by kernel_rfl) Tryz.call34 ?_
  refine aB 39 _ (rO) (by kernel_rfl) Tryz.call39 ?_
  refine aB 40 _ (rAl) (by kernel_rfl) Tryz.call40 ?_
  refine aB 41 _ (kW) (by kernel_rfl) Tryz.call41 ?_
  refine aB 14 _ (nE) (by kernel_rfl) Tryz.call14 ?_
  exact aN Tryz.func4 (by kernel_rfl)
set_option maxRecDepth 100000 in
theorem vecs_e_no {c:ByteArray} {o:Int} (h:Sl3 (writeB a) (writeB b) (writeB d)) (k:Sl3 (writeB x) (writeB y) (writeB u)) (hc' : Sl c) (qa:Bq 40 a) (qb:Bq 40 b) (qd:Bq 40 d) (qx:Bq 40 x) (qy:Bq 40 y) (qu:Bq 40 u) (ho:aZ c=o) (hob:B14 o) (hA:c3 (writeB a) (writeB b) (writeB d)=0) (hB:c3 (writeB x) (writeB y) (writeB u)=0) (hv:¬ (a=0∧b=0∧d=0)) (hx:¬ (b*u-d*y=0∧d*x-a*u=0∧a*y-b*x=0)) :
 FitsW Tryz.prog Gl 4 [vS a b d,vS x y u,tx c] (bl true):=by
 have hc:=lo_n hc'
 have hs:=fC h k
 have hf:f2 (c3 (writeB a) (writeB b) (writeB d)) (c3 (writeB x) (writeB y) (writeB u))=0:=by rw [f2_r hA];exact hB
 have hg:f2 (aZ c) (c3 (writeB a) (writeB b) (writeB d))=o:=by rw [f2_l (by rw [ho];exact b_ne hob)];exact ho
 have wa:dU a b d:=⟨qa.wr (by omega),qb.wr (by omega),qd.wr (by omega)⟩
 have wx:dU x y u:=⟨qx.wr (by omega),qy.wr (by omega),qu.wr (by omega)⟩
 have q2:Bq 242 (dt a b d a b d):=Bq.dt qa qb qd qa qb qd (by omega)
 have w2:Wr (dt a b d a b d):=q2.wr (by omega)
 have q4:Bq 242 (dt a b d x y u):=Bq.dt qa qb qd qx qy qu (by omega)
 have w4:Wr (dt a b d x y u):=q4.wr (by omega)
 have wA:dU (a+x) (b+y) (d+u):=⟨(qa.add qx).wr (by omega),(qb.add qy).wr (by omega),(qd.add qu).wr (by omega)⟩
 have wS:dU (a-x) (b-y) (d-u):=⟨(qa.sub qx).wr (by omega),(qb.sub qy).wr (by omega),(qd.sub qu).wr (by omega)⟩
 have wC:dU (b*u-d*y) (d*x-a*u) (a*y-b*x):=⟨((qb.mul qu).sub (qd.mul qy)).wr (by omega),((qd.mul qx).sub (qa.mul qu)).wr (by omega),((qa.mul qy).sub (qb.mul qx)).wr (by omega)⟩
 have kA:=bD h hA
 have kB:=bD k hB
 have kF:=cB (cL (writeB a) (writeB b) (writeB d)) (cL (writeB x) (writeB y) (writeB u)) hf
 have cC:=dL h.rb hA
 have cAdd:=iJ wa wx wA
 have cSub:=iK wa wx wS
 have cDot:=apiDotF wa wx w4
 have cCro:=jW wa wx wC
 have cSqu:=fM wa w2
 have rAdd:=addVecR (cV (dF (qa.zs (by omega)) (qx.zs (by omega)))) (cV (dF (qb.zs (by omega)) (qy.zs (by omega)))) (cV (dF (qd.zs (by omega)) (qu.zs (by omega))))
 have rSub:=subVecR (cV (nT (qa.zs (by omega)) (qx.zs (by omega)))) (cV (nT (qb.zs (by omega)) (qy.zs (by omega)))) (cV (nT (qd.zs (by omega)) (qu.zs (by omega))))
 have rDot:=dotV qa qb qd qx qy qu (by omega)
 have rCro:=crossV qa qb qd qx qy qu (by omega)
 have rSq:=jT (dotV qa qb qd qa qb qd (by omega))
 have pAdd:=cW wA
 have pSub:=cW wS
 have pCro:=cW wC
 have nDot:=dJ w4
 have nS:=dJ w2
 have cSca:=iC hc'.rb h.rb hg (b_ne hob)
 have kC:=dX (s:=c) (by have h:c.size≤40:=hc';omega) ho
 have kG:=cB (aV c) (cL (writeB a) (writeB b) (writeB d)) hg
 have pS:=jC (b_4 hob)
 rw [hA,hB] at kF
 rw [hA,ho] at kG
 have wz:∀ {q:Rat},Bq 40 q→((writeB q).toList==(⟨#[48]⟩:ByteArray).toList)=decide (q=0):=fun {q} hq=>by
  have z:(⟨#[48]⟩:ByteArray)=writeB (0:Rat):=w0.symm
  rw [z]
  exact text_eq (hq.wr (by omega)) wr_zero
 have rO:Fits Tryz.prog 39 [vS a b d] (bl false):=jY (by rw [wz qa,wz qb,wz qd];exact gH hv)
 have s0:dt a b d a b d≠0:=fun e=>hv (sum_sq e)
 obtain ⟨p,hp⟩:∃ p,dt a b d x y u/dt a b d a b d=p:=⟨_,rfl⟩
 have qp:Bq 484 p:=by rw [← hp];exact q4.div q2
 have wp:Wr p:=qp.wr (by omega)
 have cAlo:=apiAlongNoneF wa wx (gH hv) (gH hx)
 have rAl:=refAlongF qa qb qd qx qy qu s0 hp (gH fun hl=>hx (lag1 hl.1 hl.2.1 hl.2.2))
 have kW := @whenF true
 have nE := @numberNone (writeB p)
 clear hf h k hc' hA hB hg wa wx q2 w2 q4 w4 wA wS wC qa qb qd qx qy qu hv ho hx qp wp wz s0 hp
 rcases hob with rfl|rfl
 all_goals
  refine bM Tryz.func4 (by kernel_rfl) fun w00 hG=>?_;have hI:=aP hG
  refine aE hI 5 [] (iP) (by kernel_rfl) Tryz.call5 ?_
  refine aB 22 _ (hs) (by kernel_rfl) Tryz.call22 ?_
  refine iE 38 22 Tryz.underlying22 c (by kernel_rfl) ?_
  refine kgt 39 c.size 40 false hc (by kernel_rfl) ?_
  refine aB 23 _ (kA) (by kernel_rfl) Tryz.call23 ?_
  refine aB 23 _ (kB) (by kernel_rfl) Tryz.call23 ?_
  refine aB 12 _ (kF) (by kernel_rfl) Tryz.call12 ?_
  refine aE hI 24 _ (cC) (by kernel_rfl) Tryz.call24 ?_
  refine aE hI 25 _ (cAdd) (by kernel_rfl) Tryz.call25 ?_
  refine aE hI 26 _ (cSub) (by kernel_rfl) Tryz.call26 ?_
  refine aE hI 27 _ (cSca) (by kernel_rfl) Tryz.call27 ?_
  refine aE hI 28 _ (cDot) (by kernel_rfl) Tryz.call28 ?_
  refine aE hI 29 _ (cCro) (by kernel_rfl) Tryz.call29 ?_
  refine aE hI 30 _ (cSqu) (by kernel_rfl) Tryz.call30 ?_
  refine aE hI 31 _ (cAlo) (by kernel_rfl) Tryz.call31 ?_
  refine aB 13 _ (kC) (by kernel_rfl) Tryz.call13 ?_
  refine aB 12 _ (kG) (by kernel_rfl) Tryz.call12 ?_
  refine aB 33 _ (rSq) (by kernel_rfl) Tryz.call33 ?_
  refine aB 34 _ (pS) (by kernel_rfl) Tryz.call34 ?_
  refine aB 14 _ (nS) (by kernel_rfl) Tryz.call14 ?_
  refine aB 35 _ (rAdd) (by kernel_rfl) Tryz.call35 ?_
  refine aB 34 _ (pAdd) (by kernel_rfl) Tryz.call34 ?_
  refine aB 36 _ (rSub) (by kernel_rfl) Tryz.call36 ?_
  refine aB 34 _ (pSub) (by kernel_rfl) Tryz.call34 ?_
  refine aB 37 _ (rDot) (by kernel_rfl) Tryz.call37 ?_
  refine aB 14 _ (nDot) (by kernel_rfl) Tryz.call14 ?_
  refine aB 38 _ (rCro) (by kernel_rfl) Tryz.call38 ?_
  refine aB 34 _ (pCro) (by kernel_rfl) Tryz.call34 ?_
  refine aB 39 _ (rO) (by kernel_rfl) Tryz.call39 ?_
  refine aB 40 _ (rAl) (by kernel_rfl) Tryz.call40 ?_
  refine aB 41 _ (kW) (by kernel_rfl) Tryz.call41 ?_
  refine aB 14 _ (nE) (by kernel_rfl) Tryz.call14 ?_
  exact aN Tryz.func4 (by kernel_rfl)
set_option maxRecDepth 100000 in
theorem vecs_c_zero (h:Sl3 (writeB a) (writeB b) (writeB d)) (k:Sl3 (writeB x) (writeB y) (writeB u)) (hc' : Sl (writeB e)) (qa:Bq 40 a) (qb:Bq 40 b) (qd:Bq 40 d) (qx:Bq 40 x) (qy:Bq 40 y) (qu:Bq 40 u) (qe:Bq 40 e) (ho:aZ (writeB e)=0) (hA:c3 (writeB a) (writeB b) (writeB d)=0) (hB:c3 (writeB x) (writeB y) (writeB u)=0) (hv:a=0∧b=0∧d=0) :
 FitsW Tryz.prog Gl 4 [vS a b d,vS x y u,tx (writeB e)] (bl true):=by
 have hc:=lo_n hc'
 have hs:=fC h k
 have hf:f2 (c3 (writeB a) (writeB b) (writeB d)) (c3 (writeB x) (writeB y) (writeB u))=0:=by rw [f2_r hA];exact hB
 have hg:f2 (aZ (writeB e)) (c3 (writeB a) (writeB b) (writeB d))=0:=by rw [f2_r ho];exact hA
 have wa:dU a b d:=⟨qa.wr (by omega),qb.wr (by omega),qd.wr (by omega)⟩
 have wx:dU x y u:=⟨qx.wr (by omega),qy.wr (by omega),qu.wr (by omega)⟩
 have q2:Bq 242 (dt a b d a b d):=Bq.dt qa qb qd qa qb qd (by omega)
 have w2:Wr (dt a b d a b d):=q2.wr (by omega)
 have q4:Bq 242 (dt a b d x y u):=Bq.dt qa qb qd qx qy qu (by omega)
 have w4:Wr (dt a b d x y u):=q4.wr (by omega)
 have wA:dU (a+x) (b+y) (d+u):=⟨(qa.add qx).wr (by omega),(qb.add qy).wr (by omega),(qd.add qu).wr (by omega)⟩
 have wS:dU (a-x) (b-y) (d-u):=⟨(qa.sub qx).wr (by omega),(qb.sub qy).wr (by omega),(qd.sub qu).wr (by omega)⟩
 have wC:dU (b*u-d*y) (d*x-a*u) (a*y-b*x):=⟨((qb.mul qu).sub (qd.mul qy)).wr (by omega),((qd.mul qx).sub (qa.mul qu)).wr (by omega),((qa.mul qy).sub (qb.mul qx)).wr (by omega)⟩
 have kA:=bD h hA
 have kB:=bD k hB
 have kF:=cB (cL (writeB a) (writeB b) (writeB d)) (cL (writeB x) (writeB y) (writeB u)) hf
 have cC:=dL h.rb hA
 have cAdd:=iJ wa wx wA
 have cSub:=iK wa wx wS
 have cDot:=apiDotF wa wx w4
 have cCro:=jW wa wx wC
 have cSqu:=fM wa w2
 have rAdd:=addVecR (cV (dF (qa.zs (by omega)) (qx.zs (by omega)))) (cV (dF (qb.zs (by omega)) (qy.zs (by omega)))) (cV (dF (qd.zs (by omega)) (qu.zs (by omega))))
 have rSub:=subVecR (cV (nT (qa.zs (by omega)) (qx.zs (by omega)))) (cV (nT (qb.zs (by omega)) (qy.zs (by omega)))) (cV (nT (qd.zs (by omega)) (qu.zs (by omega))))
 have rDot:=dotV qa qb qd qx qy qu (by omega)
 have rCro:=crossV qa qb qd qx qy qu (by omega)
 have rSq:=jT (dotV qa qb qd qa qb qd (by omega))
 have pAdd:=cW wA
 have pSub:=cW wS
 have pCro:=cW wC
 have nDot:=dJ w4
 have nS:=dJ w2
 have w3:dU (e*a) (e*b) (e*d):=⟨(qe.mul qa).wr (by omega),(qe.mul qb).wr (by omega),(qe.mul qd).wr (by omega)⟩
 have cSca:=apiScaleF (qe.wr (by omega)) wa w3
 have kC:=dX (s:=writeB e) (by have h:(writeB e).size≤40:=hc';omega) ho
 have kG:=cB (aV (writeB e)) (cL (writeB a) (writeB b) (writeB d)) hg
 have rSc:=scaleR3 (cV (dS (qe.zs (by omega)) (qa.zs (by omega)))) (cV (dS (qe.zs (by omega)) (qb.zs (by omega)))) (cV (dS (qe.zs (by omega)) (qd.zs (by omega))))
 have pS:=cW w3
 rw [hA,hB] at kF
 rw [hA,ho] at kG
 have cAlo:=apiAlongZeroF wa wx (mS hv)
 have rO:Fits Tryz.prog 39 [vS a b d] (bl true):=jY (by
  have z:writeB (0:Rat)=⟨#[48]⟩:=w0
  rw [hv.1,hv.2.1,hv.2.2,z];simp)
 have nE:=mT (z:=6) (by decide)
 clear hf h k hc' hA hB hg wa wx q2 w2 q4 w4 wA wS wC qa qb qd qx qy qu hv w3 qe ho
 generalize writeB e=c at *
 all_goals
  refine bM Tryz.func4 (by kernel_rfl) fun w00 hG=>?_;have hI:=aP hG
  refine aE hI 5 [] (iP) (by kernel_rfl) Tryz.call5 ?_
  refine aB 22 _ (hs) (by kernel_rfl) Tryz.call22 ?_
  refine iE 38 22 Tryz.underlying22 c (by kernel_rfl) ?_
  refine kgt 39 c.size 40 false hc (by kernel_rfl) ?_
  refine aB 23 _ (kA) (by kernel_rfl) Tryz.call23 ?_
  refine aB 23 _ (kB) (by kernel_rfl) Tryz.call23 ?_
  refine aB 12 _ (kF) (by kernel_rfl) Tryz.call12 ?_
  refine aE hI 24 _ (cC) (by kernel_rfl) Tryz.call24 ?_
  refine aE hI 25 _ (cAdd) (by kernel_rfl) Tryz.call25 ?_
  refine aE hI 26 _ (cSub) (by kernel_rfl) Tryz.call26 ?_
  refine aE hI 27 _ (cSca) (by kernel_rfl) Tryz.call27 ?_
  refine aE hI 28 _ (cDot) (by kernel_rfl) Tryz.call28 ?_
  refine aE hI 29 _ (cCro) (by kernel_rfl) Tryz.call29 ?_
  refine aE hI 30 _ (cSqu) (by kernel_rfl) Tryz.call30 ?_
  refine aE hI 31 _ (cAlo) (by kernel_rfl) Tryz.call31 ?_
  refine aB 13 _ (kC) (by kernel_rfl) Tryz.call13 ?_
  refine aB 12 _ (kG) (by kernel_rfl) Tryz.call12 ?_
  refine aB 32 _ (rSc) (by kernel_rfl) Tryz.call32 ?_
  refine aB 33 _ (rSq) (by kernel_rfl) Tryz.call33 ?_
  refine aB 34 _ (pS) (by kernel_rfl) Tryz.call34 ?_
  refine aB 14 _ (nS) (by kernel_rfl) Tryz.call14 ?_
  refine aB 35 _ (rAdd) (by kernel_rfl) Tryz.call35 ?_
  refine aB 34 _ (pAdd) (by kernel_rfl) Tryz.call34 ?_
  refine aB 36 _ (rSub) (by kernel_rfl) Tryz.call36 ?_
  refine aB 34 _ (pSub) (by kernel_rfl) Tryz.call34 ?_
  refine aB 37 _ (rDot) (by kernel_rfl) Tryz.call37 ?_
  refine aB 14 _ (nDot) (by kernel_rfl) Tryz.call14 ?_
  refine aB 38 _ (rCro) (by kernel_rfl) Tryz.call38 ?_
  refine aB 34 _ (pCro) (by kernel_rfl) Tryz.call34 ?_
  refine aB 39 _ (rO) (by kernel_rfl) Tryz.call39 ?_
  refine aB 14 _ (nE) (by kernel_rfl) Tryz.call14 ?_
  exact aN Tryz.func4 (by kernel_rfl)
set_option maxRecDepth 100000 in
theorem vecs_c_yes (h:Sl3 (writeB a) (writeB b) (writeB d)) (k:Sl3 (writeB x) (writeB y) (writeB u)) (hc' : Sl (writeB e)) (qa:Bq 40 a) (qb:Bq 40 b) (qd:Bq 40 d) (qx:Bq 40 x) (qy:Bq 40 y) (qu:Bq 40 u) (qe:Bq 40 e) (ho:aZ (writeB e)=0) (hA:c3 (writeB a) (writeB b) (writeB d)=0) (hB:c3 (writeB x) (writeB y) (writeB u)=0) (hv:¬ (a=0∧b=0∧d=0)) (hx:b*u-d*y=0∧d*x-a*u=0∧a*y-b*x=0) :
 FitsW Tryz.prog Gl 4 [vS a b d,vS x y u,tx (writeB e)] (bl true):=by
 have hc:=lo_n hc'
 have hs:=fC h k
 have hf:f2 (c3 (writeB a) (writeB b) (writeB d)) (c3 (writeB x) (writeB y) (writeB u))=0:=by rw [f2_r hA];exact hB
 have hg:f2 (aZ (writeB e)) (c3 (writeB a) (writeB b) (writeB d))=0:=by rw [f2_r ho];exact hA
 have wa:dU a b d:=⟨qa.wr (by omega),qb.wr (by omega),qd.wr (by omega)⟩
 have wx:dU x y u:=⟨qx.wr (by omega),qy.wr (by omega),qu.wr (by omega)⟩
 have q2:Bq 242 (dt a b d a b d):=Bq.dt qa qb qd qa qb qd (by omega)
 have w2:Wr (dt a b d a b d):=q2.wr (by omega)
 have q4:Bq 242 (dt a b d x y u):=Bq.dt qa qb qd qx qy qu (by omega)
 have w4:Wr (dt a b d x y u):=q4.wr (by omega)
 have wA:dU (a+x) (b+y) (d+u):=⟨(qa.add qx).wr (by omega),(qb.add qy).wr (by omega),(qd.add qu).wr (by omega)⟩
 have wS:dU (a-x) (b-y) (d-u):=⟨(qa.sub qx).wr (by omega),(qb.sub qy).wr (by omega),(qd.sub qu).wr (by omega)⟩
 have wC:dU (b*u-d*y) (d*x-a*u) (a*y-b*x):=⟨((qb.mul qu).sub (qd.mul qy)).wr (by omega),((qd.mul qx).sub (qa.mul qu)).wr (by omega),((qa.mul qy).sub (qb.mul qx)).wr (by omega)⟩
 have kA:=bD h hA
 have kB:=bD k hB
 have kF:=cB (cL (writeB a) (writeB b) (writeB d)) (cL (writeB x) (writeB y) (writeB u)) hf
 have cC:=dL h.rb hA
 have cAdd:=iJ wa wx wA
 have cSub:=iK wa wx wS
 have cDot:=apiDotF wa wx w4
 have cCro:=jW wa wx wC
 have cSqu:=fM wa w2
 have rAdd:=addVecR (cV (dF (qa.zs (by omega)) (qx.zs (by omega)))) (cV (dF (qb.zs (by omega)) (qy.zs (by omega)))) (cV (dF (qd.zs (by omega)) (qu.zs (by omega))))
 have rSub:=subVecR (cV (nT (qa.zs (by omega)) (qx.zs (by omega)))) (cV (nT (qb.zs (by omega)) (qy.zs (by omega)))) (cV (nT (qd.zs (by omega)) (qu.zs (by omega))))
 have rDot:=dotV qa qb qd qx qy qu (by omega)
 have rCro:=crossV qa qb qd qx qy qu (by omega)
 have rSq:=jT (dotV qa qb qd qa qb qd (by omega))
 have pAdd:=cW wA
 have pSub:=cW wS
 have pCro:=cW wC
 have nDot:=dJ w4
 have nS:=dJ w2
 have w3:dU (e*a) (e*b) (e*d):=⟨(qe.mul qa).wr (by omega),(qe.mul qb).wr (by omega),(qe.mul qd).wr (by omega)⟩
 have cSca:=apiScaleF (qe.wr (by omega)) wa w3
 have kC:=dX (s:=writeB e) (by have h:(writeB e).size≤40:=hc';omega) ho
 have kG:=cB (aV (writeB e)) (cL (writeB a) (writeB b) (writeB d)) hg
 have rSc:=scaleR3 (cV (dS (qe.zs (by omega)) (qa.zs (by omega)))) (cV (dS (qe.zs (by omega)) (qb.zs (by omega)))) (cV (dS (qe.zs (by omega)) (qd.zs (by omega))))
 have pS:=cW w3
 rw [hA,hB] at kF
 rw [hA,ho] at kG
 have wz:∀ {q:Rat},Bq 40 q→((writeB q).toList==(⟨#[48]⟩:ByteArray).toList)=decide (q=0):=fun {q} hq=>by
  have z:(⟨#[48]⟩:ByteArray)=writeB (0:Rat):=w0.symm
  rw [z]
  exact text_eq (hq.wr (by omega)) wr_zero
 have rO:Fits Tryz.prog 39 [vS a b d] (bl false):=jY (by rw [wz qa,wz qb,wz qd];exact gH hv)
 have s0:dt a b d a b d≠0:=fun e=>hv (sum_sq e)
 obtain ⟨p,hp⟩:∃ p,dt a b d x y u/dt a b d a b d=p:=⟨_,rfl⟩
 have qp:Bq 484 p:=by rw [← hp];exact q4.div q2
 have wp:Wr p:=qp.wr (by omega)
 have hl:=lag0 hx.1 hx.2.1 hx.2.2 s0
 rw [hp] at hl
 have hcm:dt x y u a b d=dt a b d x y u:=by grind
 have cAlo:=apiAlongF wa wx (gH hv) (mS hx) s0 (by rw [hcm,hp];exact wp)
 rw [hcm,hp] at cAlo
 have rAl:=refAlongF qa qb qd qx qy qu s0 hp (mS hl)
 have kW := @whenF false
 have nE:=dJ wp
 clear hf h k hc' hA hB hg wa wx q2 w2 q4 w4 wA wS wC qa qb qd qx qy qu hv w3 qe ho hx qp wp wz s0 hp hl hcm
 generalize writeB e=c at *
 all_goals
  refine bM Tryz.func4 (by kernel_rfl) fun w00 hG=>?_;have hI:=aP hG
  refine aE hI 5 [] (iP) (by kernel_rfl) Tryz.call5 ?_
  refine aB 22 _ (hs) (by kernel_rfl) Tryz.call22 ?_
  refine iE 38 22 Tryz.underlying22 c (by kernel_rfl) ?_
  refine kgt 39 c.size 40 false hc (by kernel_rfl) ?_
  refine aB 23 _ (kA) (by kernel_rfl) Tryz.call23 ?_
  refine aB 23 _ (kB) (by kernel_rfl) Tryz.call23 ?_
  refine aB 12 _ (kF) (by kernel_rfl) Tryz.call12 ?_
  refine aE hI 24 _ (cC) (by kernel_rfl) Tryz.call24 ?_
  refine aE hI 25 _ (cAdd) (by kernel_rfl) Tryz.call25 ?_
  refine aE hI 26 _ (cSub) (by kernel_rfl) Tryz.call26 ?_
  refine aE hI 27 _ (cSca) (by kernel_rfl) Tryz.call27 ?_
  refine aE hI 28 _ (cDot) (by kernel_rfl) Tryz.call28 ?_
  refine aE hI 29 _ (cCro) (by kernel_rfl) Tryz.call29 ?_
  refine aE hI 30 _ (cSqu) (by kernel_rfl) Tryz.call30 ?_
  refine aE hI 31 _ (cAlo) (by kernel_rfl) Tryz.call31 ?_
  refine aB 13 _ (kC) (by kernel_rfl) Tryz.call13 ?_
  refine aB 12 _ (kG) (by kernel_rfl) Tryz.call12 ?_
  refine aB 32 _ (rSc) (by kernel_rfl) Tryz.call32 ?_
  refine aB 33 _ (rSq) (by kernel_rfl) Tryz.call33 ?_
  refine aB 34 _ (pS) (by kernel_rfl) Tryz.call34 ?_
  refine aB 14 _ (nS) (by kernel_rfl) Tryz.call14 ?_
  refine aB 35 _ (rAdd) (by kernel_rfl) Tryz.call35 ?_
  refine aB 34 _ (pAdd) (by kernel_rfl) Tryz.call34 ?_
  refine aB 36 _ (rSub) (by kernel_rfl) Tryz.call36 ?_
  refine aB 34 _ (pSub) (by kernel_rfl) Tryz.call34 ?_
  refine aB 37 _ (rDot) (by kernel_rfl) Tryz.call37 ?_
  refine aB 14 _ (nDot) (by kernel_rfl) Tryz.call14 ?_
  refine aB 38 _ (rCro) (by kernel_rfl) Tryz.call38 ?_
  refine aB 34 _ (pCro) (by kernel_rfl) Tryz.call34 ?_
  refine aB 39 _ (rO) (by kernel_rfl) Tryz.call39 ?_
  refine aB 40 _ (rAl) (by kernel_rfl) Tryz.call40 ?_
  refine aB 41 _ (kW) (by kernel_rfl) Tryz.call41 ?_
  refine aB 14 _ (nE) (by kernel_rfl) Tryz.call14 ?_
  exact aN Tryz.func4 (by kernel_rfl)
set_option maxRecDepth 100000 in
theorem vecs_c_no (h:Sl3 (writeB a) (writeB b) (writeB d)) (k:Sl3 (writeB x) (writeB y) (writeB u)) (hc' : Sl (writeB e)) (qa:Bq 40 a) (qb:Bq 40 b) (qd:Bq 40 d) (qx:Bq 40 x) (qy:Bq 40 y) (qu:Bq 40 u) (qe:Bq 40 e) (ho:aZ (writeB e)=0) (hA:c3 (writeB a) (writeB b) (writeB d)=0) (hB:c3 (writeB x) (writeB y) (writeB u)=0) (hv:¬ (a=0∧b=0∧d=0)) (hx:¬ (b*u-d*y=0∧d*x-a*u=0∧a*y-b*x=0)) :
 FitsW Tryz.prog Gl 4 [vS a b d,vS x y u,tx (writeB e)] (bl true):=by
 have hc:=lo_n hc'
 have hs:=fC h k
 have hf:f2 (c3 (writeB a) (writeB b) (writeB d)) (c3 (writeB x) (writeB y) (writeB u))=0:=by rw [f2_r hA];exact hB
 have hg:f2 (aZ (writeB e)) (c3 (writeB a) (writeB b) (writeB d))=0:=by rw [f2_r ho];exact hA
 have wa:dU a b d:=⟨qa.wr (by omega),qb.wr (by omega),qd.wr (by omega)⟩
 have wx:dU x y u:=⟨qx.wr (by omega),qy.wr (by omega),qu.wr (by omega)⟩
 have q2:Bq 242 (dt a b d a b d):=Bq.dt qa qb qd qa qb qd (by omega)
 have w2:Wr (dt a b d a b d):=q2.wr (by omega)
 have q4:Bq 242 (dt a b d x y u):=Bq.dt qa qb qd qx qy qu (by omega)
 have w4:Wr (dt a b d x y u):=q4.wr (by omega)
 have wA:dU (a+x) (b+y) (d+u):=⟨(qa.add qx).wr (by omega),(qb.add qy).wr (by omega),(qd.add qu).wr (by omega)⟩
 have wS:dU (a-x) (b-y) (d-u):=⟨(qa.sub qx).wr (by omega),(qb.sub qy).wr (by omega),(qd.sub qu).wr (by omega)⟩
 have wC:dU (b*u-d*y) (d*x-a*u) (a*y-b*x):=⟨((qb.mul qu).sub (qd.mul qy)).wr (by omega),((qd.mul qx).sub (qa.mul qu)).wr (by omega),((qa.mul qy).sub (qb.mul qx)).wr (by omega)⟩
 have kA:=bD h hA
 have kB:=bD k hB
 have kF:=cB (cL (writeB a) (writeB b) (writeB d)) (cL (writeB x) (writeB y) (writeB u)) hf
 have cC:=dL h.rb hA
 have cAdd:=iJ wa wx wA
 have cSub:=iK wa wx wS
 have cDot:=apiDotF wa wx w4
 have cCro:=jW wa wx wC
 have cSqu:=fM wa w2
 have rAdd:=addVecR (cV (dF (qa.zs (by omega)) (qx.zs (by omega)))) (cV (dF (qb.zs (by omega)) (qy.zs (by omega)))) (cV (dF (qd.zs (by omega)) (qu.zs (by omega))))
 have rSub:=subVecR (cV (nT (qa.zs (by omega)) (qx.zs (by omega)))) (cV (nT (qb.zs (by omega)) (qy.zs (by omega)))) (cV (nT (qd.zs (by omega)) (qu.zs (by omega))))
 have rDot:=dotV qa qb qd qx qy qu (by omega)
 have rCro:=crossV qa qb qd qx qy qu (by omega)
 have rSq:=jT (dotV qa qb qd qa qb qd (by omega))
 have pAdd:=cW wA
 have pSub:=cW wS
 have pCro:=cW wC
 have nDot:=dJ w4
 have nS:=dJ w2
 have w3:dU (e*a) (e*b) (e*d):=⟨(qe.mul qa).wr (by omega),(qe.mul qb).wr (by omega),(qe.mul qd).wr (by omega)⟩
 have cSca:=apiScaleF (qe.wr (by omega)) wa w3
 have kC:=dX (s:=writeB e) (by have h:(writeB e).size≤40:=hc';omega) ho
 have kG:=cB (aV (writeB e)) (cL (writeB a) (writeB b) (writeB d)) hg
 have rSc:=scaleR3 (cV (dS (qe.zs (by omega)) (qa.zs (by omega)))) (cV (dS (qe.zs (by omega)) (qb.zs (by omega)))) (cV (dS (qe.zs (by omega)) (qd.zs (by omega))))
 have pS:=cW w3
 rw [hA,hB] at kF
 rw [hA,ho] at kG
 have wz:∀ {q:Rat},Bq 40 q→((writeB q).toList==(⟨#[48]⟩:ByteArray).toList)=decide (q=0):=fun {q} hq=>by
  have z:(⟨#[48]⟩:ByteArray)=writeB (0:Rat):=w0.symm
  rw [z]
  exact text_eq (hq.wr (by omega)) wr_zero
 have rO:Fits Tryz.prog 39 [vS a b d] (bl false):=jY (by rw [wz qa,wz qb,wz qd];exact gH hv)
 have s0:dt a b d a b d≠0:=fun e=>hv (sum_sq e)
 obtain ⟨p,hp⟩:∃ p,dt a b d x y u/dt a b d a b d=p:=⟨_,rfl⟩
 have qp:Bq 484 p:=by rw [← hp];exact q4.div q2
 have wp:Wr p:=qp.wr (by omega)
 have cAlo:=apiAlongNoneF wa wx (gH hv) (gH hx)
 have rAl:=refAlongF qa qb qd qx qy qu s0 hp (gH fun hl=>hx (lag1 hl.1 hl.2.1 hl.2.2))
 have kW := @whenF true
 have nE := @numberNone (writeB p)
 clear hf h k hc' hA hB hg wa wx q2 w2 q4 w4 wA wS wC qa qb qd qx qy qu hv w3 qe ho hx qp wp wz s0 hp
 generalize writeB e=c at *
 all_goals
  refine bM Tryz.func4 (by kernel_rfl) fun w00 hG=>?_;have hI:=aP hG
  refine aE hI 5 [] (iP) (by kernel_rfl) Tryz.call5 ?_
  refine aB 22 _ (hs) (by kernel_rfl) Tryz.call22 ?_
  refine iE 38 22 Tryz.underlying22 c (by kernel_rfl) ?_
  refine kgt 39 c.size 40 false hc (by kernel_rfl) ?_
  refine aB 23 _ (kA) (by kernel_rfl) Tryz.call23 ?_
  refine aB 23 _ (kB) (by kernel_rfl) Tryz.call23 ?_
  refine aB 12 _ (kF) (by kernel_rfl) Tryz.call12 ?_
  refine aE hI 24 _ (cC) (by kernel_rfl) Tryz.call24 ?_
  refine aE hI 25 _ (cAdd) (by kernel_rfl) Tryz.call25 ?_
  refine aE hI 26 _ (cSub) (by kernel_rfl) Tryz.call26 ?_
  refine aE hI 27 _ (cSca) (by kernel_rfl) Tryz.call27 ?_
  refine aE hI 28 _ (cDot) (by kernel_rfl) Tryz.call28 ?_
  refine aE hI 29 _ (cCro) (by kernel_rfl) Tryz.call29 ?_
  refine aE hI 30 _ (cSqu) (by kernel_rfl) Tryz.call30 ?_
  refine aE hI 31 _ (cAlo) (by kernel_rfl) Tryz.call31 ?_
  refine aB 13 _ (kC) (by kernel_rfl) Tryz.call13 ?_
  refine aB 12 _ (kG) (by kernel_rfl) Tryz.call12 ?_
  refine aB 32 _ (rSc) (by kernel_rfl) Tryz.call32 ?_
  refine aB 33 _ (rSq) (by kernel_rfl) Tryz.call33 ?_
  refine aB 34 _ (pS) (by kernel_rfl) Tryz.call34 ?_
  refine aB 14 _ (nS) (by kernel_rfl) Tryz.call14 ?_
  refine aB 35 _ (rAdd) (by kernel_rfl) Tryz.call35 ?_
  refine aB 34 _ (pAdd) (by kernel_rfl) Tryz.call34 ?_
  refine aB 36 _ (rSub) (by kernel_rfl) Tryz.call36 ?_
  refine aB 34 _ (pSub) (by kernel_rfl) Tryz.call34 ?_
  refine aB 37 _ (rDot) (by kernel_rfl) Tryz.call37 ?_
  refine aB 14 _ (nDot) (by kernel_rfl) Tryz.call14 ?_
  refine aB 38 _ (rCro) (by kernel_rfl) Tryz.call38 ?_
  refine aB 34 _ (pCro) (by kernel_rfl) Tryz.call34 ?_
  refine aB 39 _ (rO) (by kernel_rfl) Tryz.call39 ?_
  refine aB 40 _ (rAl) (by kernel_rfl) Tryz.call40 ?_
  refine aB 41 _ (kW) (by kernel_rfl) Tryz.call41 ?_
  refine aB 14 _ (nE) (by kernel_rfl) Tryz.call14 ?_
  exact aN Tryz.func4 (by kernel_rfl)
end
theorem slwN {n:Nat} {s:ByteArray} (h:s.size≤n) (hn:1≤n) (hz:aZ s=0):∃ q,s=writeB q∧Bq n q:=by
 obtain ⟨q,rfl,_,_⟩:=check_zero hz
 rw [mQ] at h
 have ht:(decB q.num.natAbs).size≤(aR q.num).size:=by
  unfold aR
  split
  ·rw [ByteArray.size_append];omega
  ·exact Nat.le_refl _
 refine ⟨q,rfl,bq_of ⟨by omega,?_⟩⟩
 by_cases hd:q.den=1
 ·rw [hd,dec1];exact hn
 ·rw [if_neg hd] at h;omega
theorem slwN3 {n:Nat} {a b c:ByteArray} (h1:a.size≤n) (h2:b.size≤n) (h3:c.size≤n) (hn:1≤n) (hz:c3 a b c=0):∃ p q r,a=writeB p∧b=writeB q∧c=writeB r∧Bq n p∧Bq n q∧Bq n r:=by
 obtain ⟨k1,k23⟩:=f2_zero hz
 obtain ⟨k2,k3⟩:=f2_zero k23
 obtain ⟨p,e1,q1⟩:=slwN h1 hn k1
 obtain ⟨q,e2,q2⟩:=slwN h2 hn k2
 obtain ⟨r,e3,q3⟩:=slwN h3 hn k3
 exact ⟨p,q,r,e1,e2,e3,q1,q2,q3⟩
theorem slw {s:ByteArray} (h:Sl s) (hz:aZ s=0):∃ q,s=writeB q∧Bq 40 q:=slwN h (by omega) hz
theorem slw3 {a b c:ByteArray} (h:Sl3 a b c) (hz:c3 a b c=0):∃ p q r,a=writeB p∧b=writeB q∧c=writeB r∧Bq 40 p∧Bq 40 q∧Bq 40 r:=slwN3 h.1 h.2.1 h.2.2 (by omega) hz
theorem vectorsF (a b d x y u c:ByteArray):FitsW Tryz.prog Gl 4 [t3 a b d,t3 x y u,tx c] (bl true):=by
 cases hl:(lo 40 a || lo 40 b || lo 40 d || lo 40 x || lo 40 y || lo 40 u) with
 | true=>exact vecs_long1 hl
 | false =>
   simp only [Bool.or_eq_false_iff,lo,decide_eq_false_iff_not] at hl
   obtain ⟨⟨⟨⟨⟨l1,l2⟩,l3⟩,l4⟩,l5⟩,l6⟩:=hl
   have h:Sl3 a b d:=⟨by show a.size≤40;omega,by show b.size≤40;omega,by show d.size≤40;omega⟩
   have k:Sl3 x y u:=⟨by show x.size≤40;omega,by show y.size≤40;omega,by show u.size≤40;omega⟩
   cases hc:decide ((40:Int)<(c.size:Nat)) with
   | true=>exact vecs_long2 h k hc
   | false =>
     have hc' : Sl c:=by have:=of_decide_eq_false hc;show c.size≤40;omega
     by_cases hA:c3 a b d=0
     ·obtain ⟨p1,p2,p3,rfl,rfl,rfl,q1,q2,q3⟩:=slw3 h hA
      by_cases hB:c3 x y u=0
      ·obtain ⟨r1,r2,r3,rfl,rfl,rfl,s1,s2,s3⟩:=slw3 k hB
       by_cases hC:aZ c=0
       ·obtain ⟨e,rfl,qe⟩:=slw hc' hC
        by_cases hv:p1=0∧p2=0∧p3=0
        ·exact vecs_c_zero h k hc' q1 q2 q3 s1 s2 s3 qe hC hA hB hv
        ·by_cases hx:p2*r3-p3*r2=0∧p3*r1-p1*r3=0∧p1*r2-p2*r1=0
         ·exact vecs_c_yes h k hc' q1 q2 q3 s1 s2 s3 qe hC hA hB hv hx
         ·exact vecs_c_no h k hc' q1 q2 q3 s1 s2 s3 qe hC hA hB hv hx
       ·have hob:=ev_b (aV c) hC
        by_cases hv:p1=0∧p2=0∧p3=0
        ·exact vecs_e_zero h k hc' q1 q2 q3 s1 s2 s3 rfl hob hA hB hv
        ·by_cases hx:p2*r3-p3*r2=0∧p3*r1-p1*r3=0∧p1*r2-p2*r1=0
         ·exact vecs_e_yes h k hc' q1 q2 q3 s1 s2 s3 rfl hob hA hB hv hx
         ·exact vecs_e_no h k hc' q1 q2 q3 s1 s2 s3 rfl hob hA hB hv hx
      ·have hzb:=ev_b (cL _ _ _) hB
       by_cases hC:aZ c=0
       ·obtain ⟨e,rfl,qe⟩:=slw hc' hC
        exact vecs_bad3 h k hc' q1 q2 q3 qe hA rfl hzb hC
       ·exact vecs_bad2 h k hc' q1 q2 q3 hA rfl hzb rfl (ev_b (aV c) hC)
     ·exact vecs_bad1 h k hc' rfl (ev_b (cL _ _ _) hA)
end Go.Proofs.YtbhgaclbijocmaaGreatDoor.Ab
namespace Go.Proofs.YtbhgaclbijocmaaGreatDoor.Ab
open Go.ChangeShapes Go.WideShapes Go.ChangeAt Go.RowKit Go.Proofs.YtbhgaclbijocmaaGreatDoor
theorem gPow:Tryz.prog.globalNamed "internal/strconv.uint64pow10" = some 5:=by kernel_rfl
theorem gl_of {W:World} {r:List (String×DataW Unit)} (h:laidMet Tryz.prog (("internal/strconv.uint64pow10",Lib.tabData .u64 Lib.pow10Tab)::r) W) (hs:W.ShapedOpen Tryz.prog):Gl W :=
 ⟨Lib.tabIs_of_head (t:=304) (e:=177) (n:=20) gPow (by kernel_rfl) (by kernel_rfl) (by kernel_rfl) (by kernel_rfl) (by kernel_rfl) h,
  Go.Proofs.cell_of_shapedOpen_int (zero := #[.int .i64 0]) (t:=3) hs (of_decide_eq_true (by kernel_rfl)) (by kernel_rfl) rfl (by kernel_rfl) (by kernel_rfl) (by kernel_rfl)⟩
section
variable {H:Type} {enc:TypeId×Value→H} {P:Program} {w:World} {base b0:Nat} {spare:Nat→Bool} {held:Bool} {r:Reach}
theorem open_t3 {t e:TypeId} {v:Value} {d:DataW H} {ps:List MemPlace} (ht:P.underlying t=some (.array 3 e)) (he:P.underlying e=some .string) (hc:P.cellsOf e=1) (hC:P.cellsOf t=3)
 (hv:Value.okWide P w r b0 t v) (h:DataW.Trod enc P w base spare held t v d ps) :
 ∃ a b c:ByteArray,v = .agg #[.string a,.string b,.string c]∧d = .agg [.lit (.string a.data.toList),.lit (.string b.data.toList),.lit (.string c.data.toList)]∧ps = []∧a.size≤maxLen∧b.size≤maxLen∧c.size≤maxLen:=by
 have hv' : ∃ cs:Array Value,v = .agg cs∧cs.size=P.cellsOf t:=by
  simp only [Value.okWide,ht] at hv
  obtain ⟨cs,h1,h2,_⟩:=hv
  exact ⟨cs,h1,h2⟩
 obtain ⟨cs,rfl,hsz⟩:=hv'
 obtain ⟨c0,c1,c2,rfl⟩:∃ c0 c1 c2,cs = #[c0,c1,c2]:=by
  obtain ⟨l⟩:=cs
  match l,hsz.trans hC with
  | [c0,c1,c2],_=>exact ⟨c0,c1,c2,rfl⟩
 obtain ⟨fuel,hf⟩:=h
 obtain ⟨xs,m,_,hx,_,hl,hat⟩:=DataW.trod_array ht hf
 obtain ⟨y0,y1,y2,rfl⟩:∃ y0 y1 y2,xs = [y0,y1,y2]:=by
  match xs,hl with
  | [y0,y1,y2],_=>exact ⟨y0,y1,y2,rfl⟩
 have key:∀ {c:Value} {y:DataW H×List MemPlace},DataW.trod enc P w base spare held m e [c]=some y→∃ s:ByteArray,c = .string s∧y=(.lit (.string s.data.toList),[])∧s.size≤maxLen:=by
  intro c y hy
  cases m with
  | zero=>simp [DataW.trod] at hy
  | succ m =>
    unfold DataW.trod at hy
    rw [he] at hy
    cases c <;> simp at hy
    rename_i s
    exact ⟨s,rfl,hy.2.symm,hy.1⟩
 have h0:=hat 0 (by omega)
 have h1:=hat 1 (by omega)
 have h2:=hat 2 (by omega)
 simp only [hc,Value.cells] at h0 h1 h2
 obtain ⟨a,rfl,rfl,ha⟩:=key (c:=c0) (y:=y0) (by simpa using h0)
 obtain ⟨b,rfl,rfl,hb⟩:=key (c:=c1) (y:=y1) (by simpa using h1)
 obtain ⟨c,rfl,rfl,hc⟩:=key (c:=c2) (y:=y2) (by simpa using h2)
 simp only [Prod.mk.injEq] at hx
 exact ⟨a,b,c,rfl,by simpa using hx.1,by simpa using hx.2,ha,hb,hc⟩
theorem shut_t3 {t e:TypeId} {a b c:ByteArray} (ht:P.underlying t=some (.array 3 e)) (he:P.underlying e=some .string) (hc:P.cellsOf e=1) (hC:P.cellsOf t=3) (ha:a.size≤maxLen) (hb:b.size≤maxLen) (hc' : c.size≤maxLen) :
 DataW.Trod enc P w base spare held t (.agg #[.string a,.string b,.string c]) (.agg [.lit (.string a.data.toList),.lit (.string b.data.toList),.lit (.string c.data.toList)]) []:=by
 refine ⟨2,?_⟩
 have key:∀ s:ByteArray,s.size≤maxLen→DataW.trod enc P w base spare held 1 e [.string s]=some (.lit (.string s.data.toList),[]):=by
  intro s hs
  unfold DataW.trod
  rw [he]
  simp [hs]
 have k0:=key a ha
 have k1:=key b hb
 have k2:=key c hc'
 unfold DataW.trod
 simp only [ht,Value.cells]
 rw [if_pos (by simp [hC])]
 have e3:List.range 3 = [0,1,2]:=rfl
 rw [e3]
 simp [hc,k0,k1,k2]
end
theorem hold_t3 {β:List Nat} {a b c:ByteArray} {w:World}:(t3 a b c).holds β (.agg #[.string a,.string b,.string c]) w :=
 ⟨[.string a,.string b,.string c],rfl,[.string a],_,rfl,rfl,[.string b],_,rfl,rfl,[.string c],_,rfl,rfl,rfl⟩
end Go.Proofs.YtbhgaclbijocmaaGreatDoor.Ab
