/- Parts of the proof, joined. -/
import Derived.Test.YtgbcaflelmgbdaaGreatDoorJ18
import Derived.Test.YtgbcaflelmgbdaaGreatDoorJ16
import Derived.WalkKit
import Derived.ProofKit
import Derived.OpenShut
import Derived.Deep.DeepHandedRow
import Derived.Deep.DeepWitnessRowRef
import Derived.Lib.LaidTab
import Derived.Stop.LaidErr
import Derived.Shelf.Vars
import Derived.Lay
import Derived.Test.YtgbcaflelmgbdaaGreatDoorProg
import Derived.ChangeArms
set_option linter.unusedSimpArgs false
set_option linter.unusedVariables false
namespace Go.Proofs.YtgbcaflelmgbdaaGreatDoor.Ab
open Go.RowKit Go.Proofs.YtgbcaflelmgbdaaGreatDoor Pl
theorem den_mul (p q:Rat):(p*q).den≤p.den*q.den:=by
 rw [Rat.mul_def']
 exact (cH (p.num*q.num) (Nat.ne_of_gt (Nat.mul_pos p.den_pos q.den_pos))).2
theorem den_add (p q:Rat):(p+q).den≤p.den*q.den:=by
 rw [Rat.add_def']
 exact (cH (p.num*q.den+q.num*p.den) (Nat.ne_of_gt (Nat.mul_pos p.den_pos q.den_pos))).2
abbrev B4 (a b c:Rat):Prop:=Bq 4 a∧Bq 4 b∧Bq 4 c
theorem sq_den {a b c:Rat} (h:B4 a b c):(dt a b c a b c).den<10^24:=by
 have s:∀ {q:Rat},Bq 4 q→(q*q).den<10^8:=fun {q} h=>Nat.lt_of_le_of_lt (den_mul q q) (Nat.mul_lt_mul'' (a:=q.den) (b:=q.den) (c:=10^4) (d:=10^4) h.2 h.2)
 have h1:=s h.1
 have h2:=s h.2.1
 have h3:=s h.2.2
 unfold dt
 refine Nat.lt_of_le_of_lt (den_add _ _) ?_
 have h12:(a*a+b*b).den<10^16:=Nat.lt_of_le_of_lt (den_add _ _) (Nat.mul_lt_mul'' (c:=10^8) (d:=10^8) h1 h2)
 exact Nat.mul_lt_mul'' (c:=10^16) (d:=10^8) h12 h3
theorem bq_over {n:Int} {s:Rat} (hn:n.natAbs<10^3) (hs:Bq 26 s) (hd:s.den<10^24) (h0:s≠0):Bq 27 (n/s):=by
 obtain ⟨_,e1,e2⟩:=Parts.inv (Parts.self s) h0
 rw [Rat.div_def,Rat.mul_def']
 obtain ⟨h1,h2⟩:=cH ((n:Rat).num*s⁻¹.num) (Nat.ne_of_gt (Nat.mul_pos (n:Rat).den_pos s⁻¹.den_pos))
 have g1:((n:Rat).num*s⁻¹.num).natAbs=n.natAbs*s.den:=by rw [Int.natAbs_mul,← e1,Rat.num_intCast]
 have g2:(n:Rat).den*s⁻¹.den=s.num.natAbs:=by rw [← e2,Rat.den_intCast,Nat.one_mul]
 exact ⟨Nat.lt_of_le_of_lt (Nat.le_trans h1 (Nat.le_of_eq g1)) (Nat.mul_lt_mul'' (c:=10^3) (d:=10^24) hn hd),Nat.lt_of_le_of_lt (Nat.le_trans h2 (Nat.le_of_eq g2)) (Nat.lt_of_lt_of_le hs.1 (Nat.pow_le_pow_right (by omega) (by omega)))⟩
theorem ap_alg (q1 q2 q3 o1 o2 o3 v1 v2 v3 d:Rat):dt q1 q2 q3 (o1+v1) (o2+v2) (o3+v3)=(d+dt q1 q2 q3 o1 o2 o3)+(dt q1 q2 q3 v1 v2 v3-d):=by unfold dt;grind
theorem bp_alg (n1 n2 n3 o1 o2 o3 p1 p2 p3 d:Rat):dt n1 n2 n3 (p1-o1) (p2-o2) (p3-o3) = -(dt n1 n2 n3 o1 o2 o3-d)+(dt n1 n2 n3 p1 p2 p3-d):=by unfold dt;grind
theorem e4_alg (F u d:Rat):-(F*u-(d+u)*F)=F*d:=by grind
section
variable {o1 o2 o3 x1 x2 x3 y1 y2 y3 z1 z2 z3 p1 p2 p3 d:Rat} {n1 n2 n3:Int}
theorem Gd.fv (h:Gd x1 x2 x3 y1 y2 y3 z1 z2 z3) (ko:B4 o1 o2 o3) (kx:B4 x1 x2 x3) (ky:B4 y1 y2 y3) (kz:B4 z1 z2 z3):Fv o1 o2 o3 x1 x2 x3 y1 y2 y3 z1 z2 z3 :=
 have w:∀ {a b c:Rat},B4 a b c→mH a b c:=fun h=>⟨h.1.wr (by omega),h.2.1.wr (by omega),h.2.2.wr (by omega)⟩
 Fr.fv_of ⟨w ko,w kx,w ky,w kz⟩ h.ax
theorem side_scale {F a1 a2 a3 q1 q2 q3 e t D:Rat} {k1 k2 k3:Rat} (hF:0<F) (f1:F*q1=k1) (f2:F*q2=k2) (f3:F*q3=k3) (he:e=D*F) (ht:dt q1 q2 q3 a1 a2 a3=D+t):kW (dt k1 k2 k3 a1 a2 a3-e)=kW t:=by
 have:dt k1 k2 k3 a1 a2 a3-e=F*t:=by
  have h:dt k1 k2 k3 a1 a2 a3=F*dt q1 q2 q3 a1 a2 a3:=by rw [← f1,← f2,← f3];unfold dt;grind
  rw [h,ht,he]
  grind
 rw [this,sgnR_scale hF]
theorem dt_scale {F q1 q2 q3 k1 k2 k3 x1 x2 x3 n:Rat} (f1:F*q1=k1) (f2:F*q2=k2) (f3:F*q3=k3) (h:dt q1 q2 q3 x1 x2 x3=n):dt k1 k2 k3 x1 x2 x3=F*n:=by rw [← h,← f1,← f2,← f3];unfold dt;grind
theorem coordR (g:Gd x1 x2 x3 y1 y2 y3 z1 z2 z3) (ko:B4 o1 o2 o3) (kx:B4 x1 x2 x3) (ky:B4 y1 y2 y3) (kz:B4 z1 z2 z3) (kp:B4 p1 p2 p3) (h0:¬ (n1=0∧n2=0∧n3=0)) (i1:In 100 n1) (i2:In 100 n2) (i3:In 100 n3) (hg:Int.gcd (Int.gcd n1 n2:Int) n3=1) (kd:Bq 4 d)
 (hF:Fits Tryz.prog 5 [P12 (tx3 o1 o2 o3) (tx3 x1 x2 x3) (tx3 y1 y2 y3) (tx3 z1 z2 z3),it 4] (bl true)) (hP:Fits Tryz.prog 6 [V3 (tx3 p1 p2 p3),it 4] (bl true)) (hH:Fits Tryz.prog 7 [hL n1 n2 n3 (writeB d),it 100,it 4] (bl true)) :
 FitsW Tryz.prog Gl 3 [P12 (tx3 o1 o2 o3) (tx3 x1 x2 x3) (tx3 y1 y2 y3) (tx3 z1 z2 z3),V3 (tx3 p1 p2 p3),hL n1 n2 n3 (writeB d)] (bl true):=by
 have V:=g.fv ko kx ky kz
 have S:=g.sq
 have hv:Hv n1 n2 n3 d:=hv_of h0 (by unfold Bg;omega) (by unfold Bg;omega) (by unfold Bg;omega) hg (kd.wr (by omega))
 have w3:∀ {k:Nat} {a b c:Rat},Bq k a→Bq k b→Bq k c→k≤600→mH a b c:=fun h1 h2 h3 hk=>⟨h1.wr hk,h2.wr hk,h3.wr hk⟩
 have wp:mH p1 p2 p3:=w3 kp.1 kp.2.1 kp.2.2 (by omega)
 -- the point, the coordinates
 obtain ⟨a1,ea1⟩:∃ a,o1+ld p1 p2 p3 x1 y1 z1=a:=⟨_,rfl⟩
 obtain ⟨a2,ea2⟩:∃ a,o2+ld p1 p2 p3 x2 y2 z2=a:=⟨_,rfl⟩
 obtain ⟨a3,ea3⟩:∃ a,o3+ld p1 p2 p3 x3 y3 z3=a:=⟨_,rfl⟩
 have qa1:Bq 31 a1:=by rw [← ea1];exact ko.1.add (ld_bq kp.1 kp.2.1 kp.2.2 kx.1 ky.1 kz.1 (n:=26) (by omega))
 have qa2:Bq 31 a2:=by rw [← ea2];exact ko.2.1.add (ld_bq kp.1 kp.2.1 kp.2.2 kx.2.1 ky.2.1 kz.2.1 (n:=26) (by omega))
 have qa3:Bq 31 a3:=by rw [← ea3];exact ko.2.2.add (ld_bq kp.1 kp.2.1 kp.2.2 kx.2.2 ky.2.2 kz.2.2 (n:=26) (by omega))
 obtain ⟨b1,eb1⟩:∃ a,dt (p1-o1) (p2-o2) (p3-o3) x1 x2 x3/dt x1 x2 x3 x1 x2 x3=a:=⟨_,rfl⟩
 obtain ⟨b2,eb2⟩:∃ a,dt (p1-o1) (p2-o2) (p3-o3) y1 y2 y3/dt y1 y2 y3 y1 y2 y3=a:=⟨_,rfl⟩
 obtain ⟨b3,eb3⟩:∃ a,dt (p1-o1) (p2-o2) (p3-o3) z1 z2 z3/dt z1 z2 z3 z1 z2 z3=a:=⟨_,rfl⟩
 have c1:Bq 9 (p1-o1):=kp.1.sub ko.1
 have c2:Bq 9 (p2-o2):=kp.2.1.sub ko.2.1
 have c3:Bq 9 (p3-o3):=kp.2.2.sub ko.2.2
 have qs:∀ {a b c:Rat},B4 a b c→Bq 26 (dt a b c a b c):=fun h=>Bq.dt h.1 h.2.1 h.2.2 h.1 h.2.1 h.2.2 (by omega)
 have qb:∀ {a b c:Rat},B4 a b c→Bq 67 (dt (p1-o1) (p2-o2) (p3-o3) a b c/dt a b c a b c):=fun h=>(Bq.dt c1 c2 c3 h.1 h.2.1 h.2.2 (n:=41) (by omega)).div (qs h)
 have qb1:Bq 67 b1:=eb1▸qb kx
 have qb2:Bq 67 b2:=eb2▸qb ky
 have qb3:Bq 67 b3:=eb3▸qb kz
 have wa:=w3 qa1 qa2 qa3 (by omega)
 have wb:=w3 qb1 qb2 qb3 (by omega)
 have bk:=g.back (p1-o1) (p2-o2) (p3-o3)
 rw [eb1,eb2,eb3] at bk
 have fw:=g.fwd p1 p2 p3
 have sb:∀ {a b c:Rat},a+b=c→c-a=b:=fun h=>by grind
 have ad:∀ {a b c:Rat},b=c-a→a+b=c:=fun h=>by grind
 have cA:=lC V wp ea1 ea2 ea3 wa
 have cB:=apiLocalF V wp S eb1 eb2 eb3 wb
 have cC:=apiLocalF (m1:=p1) (m2:=p2) (m3:=p3) V wa S (by rw [sb ea1,sb ea2,sb ea3,fw.1,nZ S.x]) (by rw [sb ea1,sb ea2,sb ea3,fw.2.1,nZ S.y]) (by rw [sb ea1,sb ea2,sb ea3,fw.2.2,nZ S.z]) wp
 have cD:=lC (m1:=p1) (m2:=p2) (m3:=p3) V wb (ad bk.1) (ad bk.2.1) (ad bk.2.2) wp
 have t0:((0:Int):Rat)=0:=rfl
 have t1:((1:Int):Rat)=1:=rfl
 have l1:∀ x y z:Rat,ld ((1:Int):Rat) ((0:Int):Rat) ((0:Int):Rat) x y z=x:=fun x y z=>by rw [t0,t1];unfold ld;grind
 have l0:∀ x y z:Rat,ld ((0:Int):Rat) ((0:Int):Rat) ((0:Int):Rat) x y z=0:=fun x y z=>by rw [t0];unfold ld;grind
 have u1:Bq 1 ((1:Int):Rat):=bq_int (by decide) (by omega)
 have u0:Bq 1 ((0:Int):Rat):=bq_int (by decide) (by omega)
 have cX:=lC (m1:=o1+x1) (m2:=o2+x2) (m3:=o3+x3) V (w3 u1 u0 u0 (by omega)) (by rw [l1]) (by rw [l1]) (by rw [l1]) (w3 (ko.1.add kx.1) (ko.2.1.add kx.2.1) (ko.2.2.add kx.2.2) (by omega))
 have cO:=lC (m1:=o1) (m2:=o2) (m3:=o3) V (w3 u0 u0 u0 (by omega)) (by rw [l0,Rat.add_zero]) (by rw [l0,Rat.add_zero]) (by rw [l0,Rat.add_zero]) V.w.o
 have sm:∀ {a b:Rat},Bq 4 a→Bq 4 b→Fits Tryz.prog 37 [tx (writeB a),tx (writeB b)] (tx (writeB (a+b))):=fun h1 h2=>kn_S (refAddF (h1.zs (by omega)) (h2.zs (by omega)))
 have aX:=addVecR (sm ko.1 kx.1) (sm ko.2.1 kx.2.1) (sm ko.2.2 kx.2.2)
 -- the half-space in space
 have m3:∀ {n:Int},In 100 n→n.natAbs<10^3:=fun h=>by show _<1000;omega
 have r1:=bq_over (m3 i1) (qs kx) (sq_den kx) S.x
 have r2:=bq_over (m3 i2) (qs ky) (sq_den ky) S.y
 have r3:=bq_over (m3 i3) (qs kz) (sq_den kz) S.z
 have fq:=g.fwd (n1/dt x1 x2 x3 x1 x2 x3) (n2/dt y1 y2 y3 y1 y2 y3) (n3/dt z1 z2 z3 z1 z2 z3)
 rw [oA S.x,oA S.y,oA S.z] at fq
 have ql:∀ {x y z:Rat},Bq 4 x→Bq 4 y→Bq 4 z→Bq 95 (ld (n1/dt x1 x2 x3 x1 x2 x3) (n2/dt y1 y2 y3 y1 y2 y3) (n3/dt z1 z2 z3 z1 z2 z3) x y z):=fun h1 h2 h3=>ld_bq r1 r2 r3 h1 h2 h3 (by omega)
 have qq1:=ql kx.1 ky.1 kz.1
 have qq2:=ql kx.2.1 ky.2.1 kz.2.1
 have qq3:=ql kx.2.2 ky.2.2 kz.2.2
 obtain ⟨q1,eq1⟩:∃ q,ld (n1/dt x1 x2 x3 x1 x2 x3) (n2/dt y1 y2 y3 y1 y2 y3) (n3/dt z1 z2 z3 z1 z2 z3) x1 y1 z1=q:=⟨_,rfl⟩
 obtain ⟨q2,eq2⟩:∃ q,ld (n1/dt x1 x2 x3 x1 x2 x3) (n2/dt y1 y2 y3 y1 y2 y3) (n3/dt z1 z2 z3 z1 z2 z3) x2 y2 z2=q:=⟨_,rfl⟩
 obtain ⟨q3,eq3⟩:∃ q,ld (n1/dt x1 x2 x3 x1 x2 x3) (n2/dt y1 y2 y3 y1 y2 y3) (n3/dt z1 z2 z3 z1 z2 z3) x3 y3 z3=q:=⟨_,rfl⟩
 rw [eq1] at qq1
 rw [eq2] at qq2
 rw [eq3] at qq3
 rw [eq1,eq2,eq3] at fq
 have ni:∀ {n:Int},(n:Rat)=0→n=0:=fun h=>by exact_mod_cast h
 have z3' : ∀ {a b c:Rat},dt 0 0 0 a b c=0:=fun {a b c}=>by unfold dt;grind
 have q0:¬ (q1=0∧q2=0∧q3=0):=fun ⟨e1,e2,e3⟩=>by
  rw [e1,e2,e3,z3',z3',z3'] at fq
  exact h0 ⟨ni fq.1.symm,ni fq.2.1.symm,ni fq.2.2.symm⟩
 have qD:Bq 304 (d+dt q1 q2 q3 o1 o2 o3):=kd.add (Bq.dt qq1 qq2 qq3 ko.1 ko.2.1 ko.2.2 (n:=299) (by omega))
 have L:∀ {q:Rat} {k:Nat},Bq k q→k≤600→Lf 30 q:=fun h hk=>(h.wr hk).lf.mono (by decide)
 have PH:=hw_out qq1 qq2 qq3 qD (by omega) q0
 -- the half-space of coordinates
 have nb' : ∀ {n:Int},In 100 n→Bq 3 (n:Rat):=fun h=>bq_int (m3 h) (by omega)
 have mb:∀ {a b c:Rat},B4 a b c→Bq 23 (dt (n1:Rat) n2 n3 a b c):=fun h=>Bq.dt (nb' i1) (nb' i2) (nb' i3) h.1 h.2.1 h.2.2 (by omega)
 have m0:¬ (dt (n1:Rat) n2 n3 x1 x2 x3=0∧dt (n1:Rat) n2 n3 y1 y2 y3=0∧dt (n1:Rat) n2 n3 z1 z2 z3=0):=fun ⟨e1,e2,e3⟩=>by
  have b:=g.back n1 n2 n3
  have dz:∀ s:Rat,(0:Rat)/s=0:=fun s=>by rw [Rat.div_def,Rat.zero_mul]
  have lz:∀ x y z:Rat,ld 0 0 0 x y z=0:=fun x y z=>by unfold ld;grind
  rw [e1,e2,e3,dz,dz,dz,lz,lz,lz] at b
  exact h0 ⟨ni b.1.symm,ni b.2.1.symm,ni b.2.2.symm⟩
 have mD:Bq 28 (-(dt (n1:Rat) n2 n3 o1 o2 o3-d)):=((mb ko).sub kd).neg
 have LH:=hw_out (mb kx) (mb ky) (mb kz) mD (by omega) m0
 have aP:dt q1 q2 q3 a1 a2 a3=(d+dt q1 q2 q3 o1 o2 o3)+(dt (n1:Rat) n2 n3 p1 p2 p3-d):=by
  have h:=dt_ld (x1:=x1) (x2:=x2) (x3:=x3) (y1:=y1) (y2:=y2) (y3:=y3) (z1:=z1) (z2:=z2) (z3:=z3) q1 q2 q3 p1 p2 p3
  rw [fq.1,fq.2.1,fq.2.2] at h
  rw [← ea1,← ea2,← ea3,← h]
  exact ap_alg _ _ _ _ _ _ _ _ _ _
 have bP:dt (dt (n1:Rat) n2 n3 x1 x2 x3) (dt (n1:Rat) n2 n3 y1 y2 y3) (dt (n1:Rat) n2 n3 z1 z2 z3) b1 b2 b3 = -(dt (n1:Rat) n2 n3 o1 o2 o3-d)+(dt (n1:Rat) n2 n3 p1 p2 p3-d):=by
  have h:=dt_ld (x1:=x1) (x2:=x2) (x3:=x3) (y1:=y1) (y2:=y2) (y3:=y3) (z1:=z1) (z2:=z2) (z3:=z3) (n1:Rat) n2 n3 b1 b2 b3
  rw [bk.1,bk.2.1,bk.2.2] at h
  rw [← h]
  exact bp_alg _ _ _ _ _ _ _ _ _ _
 have LN:∀ {x:AV Kn},_:=fun {x:AV Kn}=>kE (k1:=0) (k2:=0) (k3:=0) (e:=0) (x:=x) V hv
 refine coord_walk (a:=tx3 a1 a2 a3) (b:=tx3 b1 b2 b3) (e:=tx3 (o1+x1) (o2+x2) (o3+x3)) hF hP hH cA cB (checkVec3 (chkB qa1 (by omega)) (chkB qa2 (by omega)) (chkB qa3 (by omega))) (checkVec3 (chkB qb1 (by omega)) (chkB qb2 (by omega)) (chkB qb3 (by omega))) cC cD cX cO aX ?_
 rcases PH with ⟨k1,k2,k3,f1,f2,f3,s1,s2,s3,kg,kF,kb,kw⟩|kw
 ·refine .inr ⟨k1,k2,k3,writeB _,placeHalf_W V hv S eq1 eq2 eq3 (L qq1 (by omega)) (L qq2 (by omega)) (L qq3 (by omega)) (.inl rfl) kw,?_⟩
  rcases LH with ⟨l1,l2,l3,g1,g2,g3,t1,t2,t3,lg,lF,lb,lw⟩|lw
  ·refine .inr ⟨l1,l2,l3,writeB _,kE V hv (.inl rfl) lw,kW (dt (n1:Rat) n2 n3 p1 p2 p3-d),?_⟩
   have kn:¬ (k1=0∧k2=0∧k3=0):=by rintro ⟨rfl,rfl,rfl⟩;exact absurd kg (by decide)
   have ln:¬ (l1=0∧l2=0∧l3=0):=by rintro ⟨rfl,rfl,rfl⟩;exact absurd lg (by decide)
   have kv:Hv k1 k2 k3 ((d+dt q1 q2 q3 o1 o2 o3)*aQ q1 q2 q3):=hv_of kn (by unfold Bg;omega) (by unfold Bg;omega) (by unfold Bg;omega) kg (kb.wr (by omega))
   have lv:Hv l1 l2 l3 (-(dt (n1:Rat) n2 n3 o1 o2 o3-d)*aQ (dt (n1:Rat) n2 n3 x1 x2 x3) (dt (n1:Rat) n2 n3 y1 y2 y3) (dt (n1:Rat) n2 n3 z1 z2 z3)):=hv_of ln (by unfold Bg;omega) (by unfold Bg;omega) (by unfold Bg;omega) lg (lb.wr (by omega))
   have hFp:=whole_pos q0
   have W1:=whole_scale hFp h0 hg
   have e1:=dt_scale f1 f2 f3 fq.1
   have e2:=dt_scale f1 f2 f3 fq.2.1
   have e3:=dt_scale f1 f2 f3 fq.2.2
   have e4:-(dt (k1:Rat) k2 k3 o1 o2 o3-(d+dt q1 q2 q3 o1 o2 o3)*aQ q1 q2 q3)=aQ q1 q2 q3*d:=by
    rw [dt_scale f1 f2 f3 rfl]
    exact e4_alg _ _ _
   refine ⟨check_half_ok kn s1 s2 s3 kg kb (by omega),check_half_ok ln t1 t2 t3 lg lb (by omega),apiSideF hv wp rfl,apiSideF kv wa (side_scale hFp f1 f2 f3 rfl aP),apiSideF lv wb (side_scale (whole_pos m0) g1 g2 g3 rfl bP),?_,sgn_cases _⟩
   refine kE V kv (.inl rfl) ?_
   rw [e1,e2,e3,e4]
   have hne:aQ q1 q2 q3≠0:=fun e=>absurd (e▸hFp) (by decide)
   have B9:∀ {z:Int},Sz z→Bq 9 (z:Rat):=fun hz=>bq_int (by show _<1000000000;omega) (by omega)
   have kx' : ∀ {a b c:Rat},B4 a b c→Lf 30 (dt (k1:Rat) k2 k3 a b c):=fun h=>L (Bq.dt (B9 s1) (B9 s2) (B9 s3) h.1 h.2.1 h.2.2 (n:=41) (by omega)) (by omega)
   have j1:=kx' kx
   have j2:=kx' ky
   have j3:=kx' kz
   rw [e1] at j1
   rw [e2] at j2
   rw [e3] at j3
   have zz:∀ {n:Int},aQ q1 q2 q3*n=0→n=0:=fun h=>ni ((Rat.mul_eq_zero.1 h).resolve_left hne)
   have one:∀ t:Rat,aQ (aQ q1 q2 q3*n1) (aQ q1 q2 q3*n2) (aQ q1 q2 q3*n3)*(aQ q1 q2 q3*t)=t:=fun t=>by rw [← Rat.mul_assoc,W1,Rat.one_mul]
   exact hWriteF ⟨j1,j2,j3,(L (kF.mul kd) (by omega)).mono (by decide),fun ⟨a,b,c⟩=>h0 ⟨zz a,zz b,zz c⟩,one _,one _,one _,by rw [Rat.mul_comm];exact one d,by omega,by omega,by omega,kd.wr (by omega)⟩
  ·exact .inl (LN (.inr rfl) lw)
 ·refine .inl ⟨placeHalf_W (k1:=0) (k2:=0) (k3:=0) (e:=0) V hv S eq1 eq2 eq3 (L qq1 (by omega)) (L qq2 (by omega)) (L qq3 (by omega)) (.inr rfl) kw,?_⟩
  rcases LH with ⟨l1,l2,l3,_,_,_,_,_,_,_,_,_,lw⟩|lw
  ·exact .inr ⟨l1,l2,l3,writeB _,kE V hv (.inl rfl) lw⟩
  ·exact .inl (LN (.inr rfl) lw)
end
theorem coordF (o x y z p:Tx) (h1 h2 h3:Int) (s:ByteArray) (hs:s.size≤9223372036854775807):FitsW Tryz.prog Gl 3 [P12 o x y z,V3 p,hL h1 h2 h3 s] (bl true):=by
 have hf:=fewHalf4_or (z1:=h1) (z2:=h2) (z3:=h3) hs
 have hv:=fewVec_or (a:=p 0) (b:=p 1) (c:=p 2) few4y few4n
 obtain ⟨t3,n3⟩:∃ t,Fits Tryz.prog 7 [hL h1 h2 h3 s,it 100,it 4] (bl t):=hf.elim (fun ⟨_,_,_,_,_,_,h⟩=>⟨_,h⟩) fun h=>⟨_,h⟩
 obtain ⟨t2,n2⟩:∃ t,Fits Tryz.prog 6 [V3 p,it 4] (bl t):=hv.elim (fun ⟨_,_,_,h⟩=>⟨_,h⟩) fun h=>⟨_,h⟩
 rcases fewFrame_or (a:=o) (b:=x) (c:=y) (d:=z) (k:=4) (by omega) few4y few4n with ⟨o1,o2,o3,x1,x2,x3,y1,y2,y3,z1,z2,z3,ea,eb,ec,ed,ka,kb,kc,kd,g,hF⟩|hF
 ·rcases hv with ⟨⟨p1,e1,f1⟩,⟨p2,e2,f2⟩,⟨p3,e3,f3⟩,hP⟩|hP
  ·rcases hf with ⟨h0,i1,i2,i3,hg,⟨d,rfl,fd⟩,hH⟩|hH
   ·unfold P12 at hF
    rw [ea.1,ea.2.1,ea.2.2,eb.1,eb.2.1,eb.2.2,ec.1,ec.2.1,ec.2.2,ed.1,ed.2.1,ed.2.2] at hF
    rw [e1,e2,e3] at hP
    unfold P12 V3
    rw [ea.1,ea.2.1,ea.2.2,eb.1,eb.2.1,eb.2.2,ec.1,ec.2.1,ec.2.2,ed.1,ed.2.1,ed.2.2,e1,e2,e3]
    exact coordR g ka kb kc kd ⟨bq_of f1,bq_of f2,bq_of f3⟩ h0 i1 i2 i3 hg (bq_of fd) hF hP hH
   ·exact coord_no hF hP hH rfl
  ·exact coord_no hF hP n3 rfl
 ·exact coord_no hF n2 n3 rfl
end Go.Proofs.YtgbcaflelmgbdaaGreatDoor.Ab
namespace Go.Proofs.YtgbcaflelmgbdaaGreatDoor.Ab
open Go.ChangeShapes Go.WideShapes Go.ChangeAt Go.RowKit Go.Proofs.YtgbcaflelmgbdaaGreatDoor
theorem gPow:Tryz.prog.globalNamed "internal/strconv.uint64pow10" = some 7:=by kernel_rfl
theorem gl_of {W:World} {r:List (String×DataW Unit)} (h:laidMet Tryz.prog (("internal/strconv.uint64pow10",Lib.tabData .u64 Lib.pow10Tab)::r) W) (hs:W.ShapedOpen Tryz.prog):Gl W :=
 ⟨Lib.tabIs_of_head (t:=292) (e:=160) (n:=20) gPow (by kernel_rfl) (by kernel_rfl) (by kernel_rfl) (by kernel_rfl) (by kernel_rfl) h,
  Go.Proofs.cell_of_shapedOpen_int (zero := #[.int .i64 0]) (t:=3) hs (of_decide_eq_true (by kernel_rfl)) (by kernel_rfl) rfl (by kernel_rfl) (by kernel_rfl) (by kernel_rfl)⟩
end Go.Proofs.YtgbcaflelmgbdaaGreatDoor.Ab
namespace Go.Proofs.YtgbcaflelmgbdaaGreatDoor.Ab
open Go.ChangeShapes Go.WideShapes Go.RowKit
def gV (P:Program):Nat→TypeId→Nat→Option Bool
 | 0,_,_=>none
 | d+1,T,i=>match P.underlying T with
   | some (.int .i64)=>if i=0 then some false else none
   | some .string=>if i=0 then some true else none
   | some (.array n e)=>if 0<P.cellsOf e∧i/P.cellsOf e<n then gV P d e (i%P.cellsOf e) else none
   | some (.struct fs)=>(fs.toList.find? fun f=>decide (f.offset≤i∧i<f.offset+P.cellsOf f.type)).bind fun f=>gV P d f.type (i-f.offset)
   | _=>none
def isKind:Bool→Value→Prop
 | true,c => ∃ s:ByteArray,c = .string s∧s.size≤maxLen
 | false,c => ∃ n:Int,c = .int .i64 n∧(Lit.int .i64 n).wf=true
section
variable {H:Type} {enc:TypeId×Value→H} {P:Program} {w:World} {base:Nat} {spare:Nat→Bool} {held:Bool}
theorem piece {cs:List Value} {o n r:Nat} {c:Value} (h:((cs.drop o).take n)[r]?=some c):cs[o+r]?=some c:=by
 rw [List.getElem?_take] at h
 split at h
 ·rw [List.getElem?_drop] at h;exact h
 ·cases h
theorem trod_kind:∀ (d:Nat) {T:TypeId} {fuel i:Nat} {cs:List Value} {x:DataW H×List MemPlace} {k:Bool},DataW.trod enc P w base spare held fuel T cs=some x→gV P d T i=some k→∃ c,cs[i]?=some c∧isKind k c:=by
 intro d
 induction d with
 | zero=>intro T fuel i cs x k _ hk;cases hk
 | succ d ih =>
   intro T fuel i cs x k h hk
   unfold gV at hk
   split at hk
   ·rename_i hu
    split at hk <;> cases hk
    rename_i h0
    subst h0
    cases fuel with
    | zero=>cases h
    | succ m =>
      unfold DataW.trod at h
      rw [hu] at h
      split at h <;> simp_all
      obtain ⟨⟨_,hw⟩,_⟩:=h
      cases ‹IntKind.i64=_›
      exact ⟨_,rfl,hw⟩
   ·rename_i hu
    split at hk <;> cases hk
    rename_i h0
    subst h0
    cases fuel with
    | zero=>cases h
    | succ m =>
      unfold DataW.trod at h
      rw [hu] at h
      split at h <;> simp_all
      exact ⟨_,rfl,h.1⟩
   ·rename_i n e hu
    split at hk
    ·rename_i hi
     obtain ⟨xs,m,_,_,_,hlen,hat⟩:=DataW.trod_array hu h
     have hq:=hat (i/P.cellsOf e) hi.2
     rw [List.getElem?_eq_getElem (by omega)] at hq
     obtain ⟨c,hc,hk'⟩:=ih hq hk
     refine ⟨c,?_,hk'⟩
     have:=piece hc
     rw [Nat.mul_comm,Nat.div_add_mod] at this
     exact this
    ·cases hk
   ·rename_i fs hu
    rw [Option.bind_eq_some_iff] at hk
    obtain ⟨f,hf,hk⟩:=hk
    have hp:=List.find?_some hf
    simp only [decide_eq_true_eq] at hp
    obtain ⟨j,hj,hje⟩:=List.getElem_of_mem (List.mem_of_find?_eq_some hf)
    obtain ⟨xs,n,_,_,_,hlen,hat⟩:=DataW.trod_struct hu h
    have hq:=hat j f (by rw [← hje];simp)
    rw [List.getElem?_eq_getElem (by simp at hj;omega)] at hq
    obtain ⟨c,hc,hk'⟩:=ih hq hk
    refine ⟨c,?_,hk'⟩
    have:=piece hc
    rw [show f.offset+(i-f.offset)=i by omega] at this
    exact this
   ·cases hk
def plainT (P:Program):Nat→TypeId→Bool
 | 0,_=>false
 | d+1,T=>match P.underlying T with
   | some (.int _)|some .string=>true
   | some (.array _ e)=>plainT P d e
   | some (.struct fs)=>fs.toList.all fun f=>plainT P d f.type
   | _=>false
theorem mapM_same {α β:Type} {f g:α→Option (β×List MemPlace)}:∀ {l:List α} {xs:List (β×List MemPlace)},l.mapM f=some xs→(∀ a∈l,∀ x,f a=some x→g a=some x∧x.2 = [])→l.mapM g=some xs∧xs.flatMap (·.2) = []
 | [],xs,h,_=>by simp at h;subst h;exact ⟨rfl,rfl⟩
 | a::l,xs,h,hs=>by
   rw [List.mapM_cons] at h
   simp only [bind,Option.bind_eq_some_iff,pure,Option.some.injEq] at h
   obtain ⟨y,hy,ys,hys,rfl⟩:=h
   obtain ⟨g1,g2⟩:=hs a (by simp) y hy
   obtain ⟨i1,i2⟩:=mapM_same hys fun b hb=>hs b (by simp [hb])
   exact ⟨by rw [List.mapM_cons,g1,i1];rfl,by simp [g2,i2]⟩
def SameRead (enc:TypeId×Value→H) (P:Program) (w:World) (base:Nat) (spare:Nat→Bool) (held:Bool) (w' : World) (base' : Nat) (spare' : Nat→Bool) (d:Nat):Prop :=
 ∀ (T:TypeId) (fuel:Nat) (cs:List Value) (x:DataW H×List MemPlace),plainT P d T=true→DataW.trod enc P w base spare held fuel T cs=some x→DataW.trod enc P w' base' spare' held fuel T cs=some x∧x.2 = []
theorem trod_plain {w' : World} {base' : Nat} {spare' : Nat→Bool}:∀ d:Nat,SameRead enc P w base spare held w' base' spare' d:=by
 intro d
 induction d with
 | zero=>intro T fuel cs x hp;cases hp
 | succ d ih =>
   intro T fuel cs x hp h
   cases fuel with
   | zero=>cases h
   | succ m =>
     unfold plainT at hp
     unfold DataW.trod at h ⊢
     split at hp
     ·rename_i hu
      rw [hu] at h ⊢
      split at h <;> simp_all <;> (obtain ⟨_,h⟩:=h;rw [← h])
     ·rename_i hu
      rw [hu] at h ⊢
      split at h <;> simp_all <;> (obtain ⟨_,h⟩:=h;rw [← h])
     ·rename_i hu
      rw [hu] at h ⊢
      split at h <;> simp_all
      obtain ⟨hl,xs,hxs,rfl⟩:=h
      obtain ⟨g1,g2⟩:=mapM_same hxs fun a _ x hx=>ih _ _ _ _ hp hx
      exact ⟨⟨xs,g1,rfl⟩,g2⟩
     ·rename_i hu
      rw [hu] at h ⊢
      split at h <;> simp_all
      obtain ⟨hl,xs,hxs,rfl⟩:=h
      obtain ⟨g1,g2⟩:=mapM_same hxs fun a ha x hx=>ih _ _ _ _ (by obtain ⟨j,hj,rfl⟩:=List.getElem_of_mem ha;simpa using hp j (by simpa using hj)) hx
      exact ⟨⟨xs,g1,rfl⟩,g2⟩
     ·cases hp
theorem Trod_plain {w' : World} {base' : Nat} {spare' : Nat→Bool} {T:TypeId} {v:Value} {D:DataW H} {p:List MemPlace} (hp:plainT P 10 T=true) (h:DataW.Trod enc P w base spare held T v D p):p = []∧DataW.Trod enc P w' base' spare' held T v D []:=by
 obtain ⟨fuel,hf⟩:=h
 obtain ⟨h1,h2⟩:=trod_plain (w':=w') (base':=base') (spare':=spare') 10 _ _ _ _ hp hf
 simp only at h2
 subst h2
 exact ⟨rfl,fuel,h1⟩
theorem agg_of {r:Reach} {b0 n:Nat} {T:TypeId} {v:Value} (hu:(match P.underlying T with|some (.struct _)|some (.array _ _)=>true|_=>false)=true) (hC:P.cellsOf T=n) (hv:Value.okWide P w r b0 T v):∃ cs:Array Value,v = .agg cs∧cs.size=n:=by
 split at hu
 ·rename_i hs
  simp only [Value.okWide,hs] at hv
  obtain ⟨cs,h1,h2,_⟩:=hv
  exact ⟨cs,h1,h2.trans hC⟩
 ·rename_i hs
  simp only [Value.okWide,hs] at hv
  obtain ⟨cs,h1,h2,_⟩:=hv
  exact ⟨cs,h1,h2.trans hC⟩
 ·cases hu
theorem kG {T:TypeId} {cs:Array Value} {D:DataW H} {p:List MemPlace} {k:Bool} (i:Nat) (h:DataW.Trod enc P w base spare held T (.agg cs) D p) (hk:gV P 10 T i=some k):∃ c,cs[i]?=some c∧isKind k c:=by
 obtain ⟨fuel,hf⟩:=h
 obtain ⟨c,h1,h2⟩:=trod_kind 10 hf hk
 exact ⟨c,by simpa [Value.cells] using h1,h2⟩
theorem open_vec {r:Reach} {b0:Nat} {T:TypeId} {v:Value} {D:DataW H} {p:List MemPlace} (hu:(match P.underlying T with|some (.struct _)|some (.array _ _)=>true|_=>false)=true) (hC:P.cellsOf T=3)
 (hk:(gV P 10 T 0,gV P 10 T 1,gV P 10 T 2)=(some true,some true,some true)) (hv:Value.okWide P w r b0 T v) (h:DataW.Trod enc P w base spare held T v D p):∃ a b c:ByteArray,v = .agg #[.string a,.string b,.string c]∧a.size≤maxLen∧b.size≤maxLen∧c.size≤maxLen:=by
 simp only [Prod.mk.injEq] at hk
 obtain ⟨cs,rfl,hs⟩:=agg_of hu hC hv
 obtain ⟨c0,c1,c2,rfl⟩:∃ c0 c1 c2,cs = #[c0,c1,c2]:=by
  obtain ⟨l⟩:=cs
  match l,hs with
  | [c0,c1,c2],_=>exact ⟨c0,c1,c2,rfl⟩
 obtain ⟨_,e0,a,rfl,ha⟩:=kG 0 h hk.1
 obtain ⟨_,e1,b,rfl,hb⟩:=kG 1 h hk.2.1
 obtain ⟨_,e2,c,rfl,hc⟩:=kG 2 h hk.2.2
 simp at e0 e1 e2
 subst e0 e1 e2
 exact ⟨a,b,c,rfl,ha,hb,hc⟩
theorem open_txts {r:Reach} {b0 n:Nat} {T:TypeId} {v:Value} {D:DataW H} {p:List MemPlace} (hu:(match P.underlying T with|some (.struct _)|some (.array _ _)=>true|_=>false)=true) (hC:P.cellsOf T=n)
 (hk:((List.range n).all fun i=>gV P 10 T i==some true)=true) (hv:Value.okWide P w r b0 T v) (h:DataW.Trod enc P w base spare held T v D p):∃ l:List ByteArray,l.length=n∧v = .agg (l.map Value.string).toArray:=by
 obtain ⟨cs,rfl,hs⟩:=agg_of hu hC hv
 refine ⟨cs.toList.map fun v=>match v with | .string s=>s|_=>default,by simp [hs],?_⟩
 congr 1
 apply Array.toList_inj.1
 rw [List.map_map]
 apply List.ext_getElem
 ·simp
 ·intro i h1 h2
  have hi:i<n:=by simpa [hs] using h1
  have hk':=List.all_eq_true.1 hk i (List.mem_range.2 hi)
  obtain ⟨c,e,s,rfl,_⟩:=kG i h (eq_of_beq hk')
  have e2:cs.toList[i] = .string s:=by
   have:=Array.getElem?_eq_some_iff.1 e
   simpa using this.2
  simp [e2]
theorem open_half {r:Reach} {b0:Nat} {T:TypeId} {v:Value} {D:DataW H} {p:List MemPlace} (hu:(match P.underlying T with|some (.struct _)|some (.array _ _)=>true|_=>false)=true) (hC:P.cellsOf T=4)
 (hk:(gV P 10 T 0,gV P 10 T 1,gV P 10 T 2,gV P 10 T 3)=(some false,some false,some false,some true)) (hv:Value.okWide P w r b0 T v) (h:DataW.Trod enc P w base spare held T v D p):∃ (a b c:Int) (s:ByteArray),v = .agg #[.int .i64 a,.int .i64 b,.int .i64 c,.string s]∧s.size≤maxLen:=by
 simp only [Prod.mk.injEq] at hk
 obtain ⟨cs,rfl,hs⟩:=agg_of hu hC hv
 obtain ⟨c0,c1,c2,c3,rfl⟩:∃ c0 c1 c2 c3,cs = #[c0,c1,c2,c3]:=by
  obtain ⟨l⟩:=cs
  match l,hs with
  | [c0,c1,c2,c3],_=>exact ⟨c0,c1,c2,c3,rfl⟩
 obtain ⟨_,e0,a,rfl,ha⟩:=kG 0 h hk.1
 obtain ⟨_,e1,b,rfl,hb⟩:=kG 1 h hk.2.1
 obtain ⟨_,e2,c,rfl,hc⟩:=kG 2 h hk.2.2.1
 obtain ⟨_,e3,d,rfl,hd⟩:=kG 3 h hk.2.2.2
 simp at e0 e1 e2 e3
 subst e0 e1 e2 e3
 exact ⟨a,b,c,d,rfl,hd⟩
end
end Go.Proofs.YtgbcaflelmgbdaaGreatDoor.Ab
