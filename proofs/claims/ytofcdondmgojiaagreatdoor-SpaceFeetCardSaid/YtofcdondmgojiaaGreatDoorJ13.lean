/- Parts of the proof, joined. -/
import Derived.Test.YtofcdondmgojiaaGreatDoorJ12
import Derived.Test.YtofcdondmgojiaaGreatDoorJ5
import Derived.Test.YtofcdondmgojiaaGreatDoorJ6
import Derived.Deep.LoopGhost
import Derived.Test.YtofcdondmgojiaaGreatDoorJ0
set_option linter.unusedSimpArgs false
set_option linter.unusedVariables false
namespace Go.Proofs.YtofcdondmgojiaaGreatDoor
open Go.RowKit Pl
def gD (N2 low f s:Nat):Nat:=min ((N2*B9+low)/(f*B9+s)) (B9-1)
theorem gd_iff {N2 low f s m rs:Nat} (hf:0<f) (h:m*f+rs=N2):m≤(N2*B9+low)/(f*B9+s)↔m*s≤rs*B9+low:=by
 have hp:0<f*B9:=Nat.mul_pos hf cN
 rw [Nat.le_div_iff_mul_le (by omega)]
 subst h
 have e1:m*(f*B9+s)=m*f*B9+m*s:=by rw [Nat.mul_add,Nat.mul_assoc]
 have e2:(m*f+rs)*B9=m*f*B9+rs*B9:=Nat.add_mul _ _ _
 rw [e1,e2]
 omega
theorem gd_start {N2 low f s:Nat} (hf:0<f) (hl:low<B9):gD N2 low f s≤N2/f:=Nat.le_trans (Nat.min_le_left _ _) (guess_ge rfl rfl hl hf)
theorem gd_exit {N2 low f s m rs:Nat} (hf:0<f) (h:m*f+rs=N2) (hm:m<B9) (hle:m*s≤rs*B9+low) (hg:gD N2 low f s≤m):gD N2 low f s=m:=by
 refine Nat.le_antisymm hg ?_
 have:=(gd_iff (s:=s) (low:=low) hf h).2 hle
 exact Nat.le_min.2 ⟨this,by omega⟩
theorem gd_cont1 {N2 low f s m:Nat} (hm:B9≤m+1):gD N2 low f s≤m:=Nat.le_trans (Nat.min_le_right _ _) (by omega)
theorem gd_cont2 {N2 low f s m rs:Nat} (hf:0<f) (h:(m+1)*f+rs=N2) (hle:¬ (m+1)*s≤rs*B9+low):gD N2 low f s≤m:=by
 have:=mt (gd_iff (s:=s) (low:=low) hf h).1 hle
 exact Nat.le_trans (Nat.min_le_left _ _) (by omega)
theorem gd_over {high mid low f s m rs:Nat} (hf:0<f) (h:m*f+rs=high*B9+mid) (hh:high≤f) (hmid:mid<B9) (hs:s<B9) (hr:B9≤rs) (hg:gD (high*B9+mid) low f s≤m):gD (high*B9+mid) low f s=m:=by
 have hm:m<B9:=by
  rcases Nat.lt_or_ge m B9 with e|e
  ·exact e
  ·exfalso
   have h1:B9*f≤m*f:=Nat.mul_le_mul_right _ e
   have h2:high*B9≤f*B9:=Nat.mul_le_mul_right _ hh
   rw [Nat.mul_comm] at h1
   omega
 refine gd_exit hf h hm ?_ hg
 have h1:m*s≤B9*B9:=Nat.mul_le_mul (Nat.le_of_lt hm) (Nat.le_of_lt hs)
 have h2:B9*B9≤rs*B9:=Nat.mul_le_mul_right _ hr
 omega
theorem gd_lt {N2 low f s:Nat}:gD N2 low f s<B9:=Nat.lt_of_le_of_lt (Nat.min_le_right _ _) (by have:=cN;omega)
theorem gd3 {N2 low f s:Nat} (hf:0<f):gD N2 low f s*(f*B9+s)≤N2*B9+low :=
 Nat.le_trans (Nat.mul_le_mul_right _ (Nat.min_le_left _ _)) (Nat.div_mul_le_self _ _)
theorem u3_alg' (A P V low mid h:Nat):A+P*low+P*V*mid+P*V*V*h=((h*V+mid)*V+low)*P+A:=by grind
theorem v2_alg' (A P V s f:Nat):A+P*s+P*V*f=(f*V+s)*P+A:=by grind
theorem gd_ok {us vs:List Nat} {m h mid low f s:Nat} (hu:us.length=m+3) (hv:vs.length=m+2) (du:Dig B9 us) (dv:Dig B9 vs)
 (g0:us[m+2]?=some h) (g1:us[m+1]?=some mid) (g2:us[m]?=some low) (g3:vs[m+1]?=some f) (g4:vs[m]?=some s) (hf:0<f) (hlt:val B9 us<val B9 vs*B9) :
 val B9 us/val B9 vs≤gD (h*B9+mid) low f s∧gD (h*B9+mid) low f s≤val B9 us/val B9 vs+1∧h≤f:=by
 obtain ⟨k0,e0⟩:=List.getElem?_eq_some_iff.1 g0
 obtain ⟨k1,e1⟩:=List.getElem?_eq_some_iff.1 g1
 obtain ⟨k2,e2⟩:=List.getElem?_eq_some_iff.1 g2
 obtain ⟨k3,e3⟩:=List.getElem?_eq_some_iff.1 g3
 obtain ⟨k4,e4⟩:=List.getElem?_eq_some_iff.1 g4
 have l4:=dv.at_ g4
 have hul:=bV (du.take m)
 have hvl:=bV (dv.take m)
 rw [List.length_take,Nat.min_eq_left (by omega)] at hul hvl
 have hU:val B9 us=val B9 (us.take m)+B9^m*low+B9^(m+1)*mid+B9^(m+2)*h:=by
  have:val B9 us=val B9 (us.take (m+2+1)):=by rw [List.take_of_length_le (by omega)]
  rw [this,aF _ _ _ k0,aF _ _ _ k1,aF _ _ _ k2,e0,e1,e2]
 have hV:val B9 vs=val B9 (vs.take m)+B9^m*s+B9^(m+1)*f:=by
  have:val B9 vs=val B9 (vs.take (m+1+1)):=by rw [List.take_of_length_le (by omega)]
  rw [this,aF _ _ _ k3,aF _ _ _ k4,e3,e4]
 have U3:val B9 us=((h*B9+mid)*B9+low)*B9^m+val B9 (us.take m):=by
  rw [hU,show B9^(m+2)=B9^m*B9*B9 from by rw [Nat.pow_succ,Nat.pow_succ],Nat.pow_succ]
  exact u3_alg' _ _ _ _ _ _
 have V2:val B9 vs=(f*B9+s)*B9^m+val B9 (vs.take m):=by
  rw [hV,Nat.pow_succ]
  exact v2_alg' _ _ _ _ _
 have hfB:B9≤f*B9+s:=by
  have:1*B9≤f*B9:=Nat.mul_le_mul_right _ hf
  omega
 have hVp:0<val B9 vs:=by
  have:0<B9^(m+1)*f:=Nat.mul_pos (Nat.pow_pos cN) hf
  omega
 have hq:val B9 us/val B9 vs<B9:=by rw [Nat.div_lt_iff_lt_mul hVp,Nat.mul_comm];exact hlt
 refine ⟨Nat.le_min.2 ⟨guess_ge (u2:=(h*B9+mid)*B9+low) (v1:=f*B9+s) U3 V2 hul (by have:=cN;omega),by omega⟩,guess_le U3 V2 hvl (gd3 hf) (Nat.le_of_lt gd_lt) hfB,?_⟩
 rcases Nat.lt_or_ge f h with e|e
 ·exfalso
  have h1:B9^(m+2)*(f+1)≤B9^(m+2)*h:=Nat.mul_le_mul_left _ e
  have h2:val B9 vs<B9^(m+1)*(f+1):=by
   have h3:B9^m*(s+1)≤B9^m*B9:=Nat.mul_le_mul_left _ l4
   rw [Nat.mul_add,Nat.mul_one,← Nat.pow_succ] at h3
   rw [Nat.mul_add,Nat.mul_one]
   have h4:m.succ=m+1:=rfl
   rw [h4] at h3
   omega
  have h5:val B9 vs*B9<B9^(m+1)*(f+1)*B9:=Nat.mul_lt_mul_of_pos_right h2 cN
  have h6:B9^(m+1)*(f+1)*B9=B9^(m+2)*(f+1):=by rw [Nat.pow_succ B9 (m+1),Nat.mul_right_comm]
  omega
 ·exact e
theorem guessFacts {m s rs low:Nat} (hm:m<1000000000) (hs:s<1000000000) (hr:rs<1000000000) (hl:low<1000000000):∃ P R S:Nat,(m:Int)*(s:Int)=(P:Int)∧(rs:Int)*1000000000=(R:Int)∧(R:Int)+(low:Int)=(S:Int) ∧
 wrap64 (P:Int)=P∧wrap64 (R:Int)=R∧wrap64 (S:Int)=S∧P=m*s∧S=rs*1000000000+low:=by
 have h1:m*s≤999999999*999999999:=Nat.mul_le_mul (by omega) (by omega)
 have h2:(m:Int)*(s:Int)=((m*s:Nat):Int):=by simp
 generalize m*s=P at *
 exact ⟨P,rs*1000000000,rs*1000000000+low,h2,by omega,by omega,fC (by omega),fC (by omega),fC (by omega),rfl,rfl⟩
theorem guessTop {h mid f:Nat} (hh:h<1000000000) (hmid:mid<1000000000) (hf0:0<f) (hf:f<1000000000) (hle:h≤f):∃ u N q r:Nat,(h:Int)*1000000000=(u:Int)∧(u:Int)+(mid:Int)=(N:Int)∧wrap64 (u:Int)=u∧wrap64 (N:Int)=N ∧
 (N:Int).tdiv f=(q:Int)∧(N:Int)/f=(q:Int)∧(N:Int).tmod f=(r:Int)∧(N:Int)%f=(r:Int)∧wrap64 (q:Int)=q∧N=h*1000000000+mid∧q*f+r=N∧r<f∧q=N/f∧q≤2000000000:=by
 have hq:(h*1000000000+mid)/f≤2000000000:=by
  refine Nat.le_of_lt ((Nat.div_lt_iff_lt_mul hf0).2 ?_)
  omega
 refine ⟨h*1000000000,h*1000000000+mid,(h*1000000000+mid)/f,(h*1000000000+mid)%f,by omega,by omega,fC (by omega),fC (by omega),?_,?_,?_,?_,fC (by omega),rfl,?_,Nat.mod_lt _ hf0,rfl,hq⟩
 ·rw [Int.tdiv_eq_ediv_of_nonneg (by omega)];simp
 ·simp
 ·rw [Int.tmod_eq_emod_of_nonneg (by omega)];simp
 ·simp
 ·rw [Nat.mul_comm];exact Nat.div_add_mod _ _
theorem put_dig9 {ys zs:List Nat} {o:Nat} (hy:Dig B9 ys) (hz:Dig B9 zs):Dig B9 (put ys o zs):=(hy.take _).app (hz.app (hy.drop _))
def LongJ (V U0 n' L:Nat) (us qs:List Nat) (k:Nat):Prop :=
 Dig B9 us∧us.length=L+n'∧Dig B9 qs∧qs.length=L∧val B9 (us.drop k)<V∧val B9 (qs.drop k)*V*B9^k+val B9 us=U0
theorem LongJ.window {V U0 n' L m:Nat} {us qs:List Nat} (h:LongJ V U0 n' L us qs (m+1)) (hm:m<L) (hV:V≤B9^n') :
 val B9 ((us.drop m).take (n'+1))=val B9 (us.drop m)∧val B9 (us.drop (m+(n'+1)))=0∧val B9 (us.drop m)<V*B9:=by
 obtain ⟨h1,h2,h3,h4,h5,h6⟩:=h
 have e1:=val_drop B9 us m (by omega)
 have l1:=h1.get m (by omega)
 have hlt:val B9 (us.drop m)<V*B9:=by
  have:B9*(val B9 (us.drop (m+1))+1)≤B9*V:=Nat.mul_le_mul_left _ h5
  rw [Nat.mul_add,Nat.mul_one] at this
  rw [Nat.mul_comm V]
  omega
 have e2:=eG B9 (us.drop m) (n'+1) (by simp;omega)
 rw [List.drop_drop] at e2
 have hz:val B9 (us.drop (m+(n'+1)))=0:=by
  rcases Nat.eq_zero_or_pos (val B9 (us.drop (m+(n'+1)))) with e|e
  ·exact e
  ·exfalso
   have a1:B9^(n'+1)*1≤B9^(n'+1)*val B9 (us.drop (m+(n'+1))):=Nat.mul_le_mul_left _ e
   have a2:V*B9≤B9^n'*B9:=Nat.mul_le_mul_right _ hV
   rw [← Nat.pow_succ] at a2
   have:n'.succ=n'+1:=rfl
   rw [this] at a2
   omega
 rw [hz] at e2
 exact ⟨by omega,hz,hlt⟩
theorem LongJ.step {V U0 n' L m:Nat} {us qs zs:List Nat} (h:LongJ V U0 n' L us qs (m+1)) (hm:m<L) (hV:V≤B9^n') (hV0:0<V)
 (hz:zs.length=n'+1) (hzd:Dig B9 zs) (hzv:val B9 zs=val B9 ((us.drop m).take (n'+1))%V) :
 LongJ V U0 n' L (put us m zs) (qs.set m (val B9 ((us.drop m).take (n'+1))/V)) m:=by
 obtain ⟨w1,w2,w3⟩:=h.window hm hV
 obtain ⟨h1,h2,h3,h4,h5,h6⟩:=h
 rw [w1] at hzv ⊢
 have hq:val B9 (us.drop m)/V<B9:=by rw [Nat.div_lt_iff_lt_mul hV0,Nat.mul_comm];exact w3
 have hlen:m+zs.length≤us.length:=by omega
 have e1:val B9 ((put us m zs).drop m)=val B9 (us.drop m)%V:=by
  rw [put_drop hlen,gB,hz,w2,hzv,Nat.mul_zero,Nat.add_zero]
 have e2:val B9 (put us m zs)=val B9 (us.take m)+B9^m*(val B9 (us.drop m)%V):=by
  rw [eG B9 (put us m zs) m (by rw [dC hlen];omega),put_take0 hlen,e1]
 have e3:=eG B9 us m (by omega)
 have e4:(qs.set m (val B9 (us.drop m)/V)).drop m=val B9 (us.drop m)/V::qs.drop (m+1):=by
  rw [List.drop_eq_getElem_cons (by simp;omega),List.getElem_set_self,List.drop_set_of_lt (by omega)]
 have hdm:=Nat.div_add_mod (val B9 (us.drop m)) V
 refine ⟨put_dig9 h1 hzd,by rw [dC hlen,h2],h3.set hq,by simp [h4],by rw [e1];exact Nat.mod_lt _ hV0,?_⟩
 rw [e4,e2,← h6,e3,Nat.pow_succ]
 exact long_alg _ _ _ _ _ _ _ _ hdm
theorem LongJ.finish {V n' L d f N:Nat} {us qs:List Nat} (h:LongJ V (N*f) n' L us qs 0) (hV:V=d*f) (hd:0<d) (hf:0<f) :
 val B9 qs=N/d∧val B9 us=N%d*f∧val B9 us<V:=by
 obtain ⟨_,_,_,_,h5,h6⟩:=h
 have hV0:0<V:=by rw [hV];exact Nat.mul_pos hd hf
 simp only [List.drop_zero,Nat.pow_zero,Nat.mul_one] at h5 h6
 have e1:N*f/V=val B9 qs:=by rw [← h6,Nat.add_comm,Nat.add_mul_div_right _ _ hV0,Nat.div_eq_of_lt h5];omega
 have e2:N*f%V=val B9 us:=by rw [← h6,Nat.add_comm,Nat.add_mul_mod_self_right,Nat.mod_eq_of_lt h5]
 refine ⟨?_,?_,h5⟩
 ·rw [← e1,hV,Nat.mul_div_mul_right _ _ hf]
 ·rw [← e2,hV,Nat.mul_mod_mul_right]
theorem LongJ.start {V U0 n n' : Nat} {us:List Nat} {N d f:Nat} (hu:Dig B9 us) (hul:us.length=n+1) (hU:val B9 us=U0) (hU0:U0=N*f) (hN:N<B9^n) (hV:V=d*f) (hf:0<f) (hd:B9^(n'-1)≤d) (hn:n'≤n) (hn0:0<n') :
 LongJ V U0 n' (n-n'+1) us (List.replicate (n-n'+1) 0) (n-n'+1):=by
 refine ⟨hu,by omega,Dig.replicate cN _,by simp,?_,?_⟩
 ·have e:=eG B9 us (n-n'+1) (by omega)
  have a1:N*f<B9^n*f:=Nat.mul_lt_mul_of_pos_right hN hf
  have a2:B9^n=B9^(n-n'+1)*B9^(n'-1):=by rw [← Nat.pow_add];congr 1;omega
  have a3:B9^(n-n'+1)*val B9 (us.drop (n-n'+1))<B9^(n-n'+1)*(B9^(n'-1)*f):=by
   rw [← Nat.mul_assoc,← a2];omega
  have a4:=Nat.lt_of_mul_lt_mul_left a3
  have a5:B9^(n'-1)*f≤d*f:=Nat.mul_le_mul_right _ hd
  rw [hV];omega
 ·rw [List.drop_of_length_le (by simp)]
  simp [val,hU]
theorem scaled_len {ys vs:List Nat} {y f:Nat} (hy:Dig B9 ys) (hl:0<ys.length) (htop:ys[ys.length-1]?=some y) (hv:Dig B9 vs) (hn:Norm vs) (ny:Norm ys) (e:val B9 vs=val B9 ys*f) (hf0:0<f) (hf:f*(y+1)≤B9):vs.length=ys.length:=by
 obtain ⟨m,hm⟩:∃ m,ys.length=m+1:=⟨ys.length-1,by omega⟩
 rw [hm,show m+1-1=m from by omega] at htop
 obtain ⟨k,ey⟩:=List.getElem?_eq_some_iff.1 htop
 have hval:val B9 ys=val B9 (ys.take m)+B9^m*y:=by
  have:val B9 ys=val B9 (ys.take (m+1)):=by rw [List.take_of_length_le (by omega)]
  rw [this,aF _ _ _ k,ey]
 have hlow:=bV (hy.take m)
 rw [List.length_take,Nat.min_eq_left (by omega)] at hlow
 have h1:val B9 ys+1≤B9^m*(y+1):=by rw [hval,Nat.mul_add,Nat.mul_one];omega
 have h2:val B9 vs<B9^(m+1):=by
  have h3:(val B9 ys+1)*f≤B9^m*(y+1)*f:=Nat.mul_le_mul_right _ h1
  have h4:B9^m*(y+1)*f≤B9^m*B9:=by rw [Nat.mul_assoc,Nat.mul_comm (y+1)];exact Nat.mul_le_mul_left _ hf
  rw [Nat.add_mul,Nat.one_mul,← e] at h3
  rw [Nat.pow_succ]
  omega
 have h5:=aV eB hn h2
 have hne:ys≠[]:=by rintro rfl;simp at hl
 have h6:=ny.ge (B:=B9) hne
 rw [hm,Nat.add_sub_cancel] at h6
 have h7:val B9 ys*1≤val B9 ys*f:=Nat.mul_le_mul_left _ hf0
 have h8:=bV hv
 rcases Nat.lt_or_ge vs.length (m+1) with h|h
 ·exfalso
  have:B9^vs.length≤B9^m:=Nat.pow_le_pow_right cN (by omega)
  omega
 ·omega
def TakeK (ys vs zs:List Nat) (o t k bo:Nat):Prop:=zs.length=k∧Dig B9 zs∧bo≤B9∧val B9 zs+t*val B9 (vs.take k)=val B9 ((ys.drop o).take k)+B9^k*bo
theorem TakeK.step {ys vs zs:List Nat} {o t k bo x v p e r:Nat} (h:TakeK ys vs zs o t k bo) (hx:ys[o+k]?=some x) (hv:vs[k]?=some v) (hp:p=t*v+bo) (hr:r<B9) (he:p/B9+e≤B9) (hx2:r+p%B9=x+B9*e) :
 TakeK ys vs (zs ++ [r]) o t (k+1) (p/B9+e):=by
 obtain ⟨h1,h2,h3,h4⟩:=h
 have hxd:(ys.drop o)[k]?=some x:=by rw [List.getElem?_drop];exact hx
 obtain ⟨k1,ex⟩:=List.getElem?_eq_some_iff.1 hxd
 obtain ⟨k2,ev⟩:=List.getElem?_eq_some_iff.1 hv
 refine ⟨by simp [h1],h2.app (Dig.cons hr (Dig.nil _)),he,?_⟩
 rw [cR,aF _ _ _ k1,aF _ _ _ k2,ex,ev,h1,Nat.pow_succ]
 have hdm:=Nat.div_add_mod p B9
 generalize p/B9=q at *
 generalize p%B9=s at *
 clear h2 h3 hr he ex ev k1 k2 hxd hx hv
 generalize B9^k=P at *
 generalize B9=V at *
 subst hp
 grind
def BackK (ys vs zs:List Nat) (o k cy:Nat):Prop:=zs.length=k∧Dig B9 zs∧cy≤1∧val B9 zs+B9^k*cy=val B9 ((ys.drop o).take k)+val B9 (vs.take k)
theorem BackK.step {ys vs zs:List Nat} {o k cy x v s:Nat} (h:BackK ys vs zs o k cy) (hx:ys[o+k]?=some x) (hv:vs[k]?=some v) (hs:s=x+v+cy) (bx:x<B9) (bv:v<B9):BackK ys vs (zs ++ [s%B9]) o (k+1) (s/B9):=by
 obtain ⟨h1,h2,h3,h4⟩:=h
 have hxd:(ys.drop o)[k]?=some x:=by rw [List.getElem?_drop];exact hx
 obtain ⟨k1,ex⟩:=List.getElem?_eq_some_iff.1 hxd
 obtain ⟨k2,ev⟩:=List.getElem?_eq_some_iff.1 hv
 have hq:s/B9≤1:=by subst hs;rw [cV] at *;clear h4 hx hv hxd;omega
 refine ⟨by simp [h1],h2.app (Dig.cons (Nat.mod_lt _ cN) (Dig.nil _)),hq,?_⟩
 rw [cR,aF _ _ _ k1,aF _ _ _ k2,ex,ev,h1,Nat.pow_succ]
 have hdm:=Nat.div_add_mod s B9
 generalize s/B9=q at *
 generalize s%B9=r at *
 clear h2 h3 ex ev k1 k2 hxd hx hv bx bv hq
 generalize B9^k=P at *
 generalize B9=V at *
 subst hs
 grind
def Ow (w:World) (g c:Nat) (zs:List Int):Prop := ∃ cur:Array Value,w.heap[g]?=some (.cells cur 3 (0,0))∧cur.size=c∧zs.length≤c∧cur.toList.take zs.length=zs.map (Value.int .i64)
section
variable {w w' : World} {g c:Nat} {zs:List Int}
theorem Ow.lt (h:Ow w g c zs):g<w.heap.size:=by obtain ⟨cur,h1,_⟩:=h;exact (Array.getElem?_eq_some_iff.1 h1).1
theorem Ow.cell (h:Ow w g c zs) {i:Nat} {z:Int} (hz:zs[i]?=some z):w.cell? ⟨g,i,none⟩=some (.int .i64 z):=by
 obtain ⟨cur,h1,h2,h3,h4⟩:=h
 rw [cell_of_blk h1,← Array.getElem?_toList]
 have hi:=(List.getElem?_eq_some_iff.1 hz).1
 have:(cur.toList.take zs.length)[i]?=some (.int .i64 z):=by rw [h4,List.getElem?_map,hz];rfl
 rw [List.getElem?_take,if_pos hi] at this
 exact this
theorem Ow.frozen (h:Ow w g c zs) (i:Nat):w.frozen? ⟨g,i,none⟩=false:=by
 obtain ⟨cur,h1,_⟩:=h
 simp [World.frozen?,h1]
theorem Ow.set_ (h:Ow w g c zs) (i:Nat) (z:Int):Ow (w.setCell ⟨g,i,none⟩ (.int .i64 z)) g c (zs.set i z):=by
 obtain ⟨cur,h1,h2,h3,h4⟩:=h
 refine ⟨cur.setIfInBounds i (.int .i64 z),?_,by simp [h2],by simpa using h3,?_⟩
 ·simp only [World.setCell,Array.getElem?_modify,h1];simp
 ·rw [List.length_set,Array.toList_setIfInBounds,List.take_set,h4,List.map_set]
theorem Ow.far (h:Ow w g c zs) {p:Addr} (hp:g≠p.block) (u:Value):Ow (w.setCell p u) g c zs:=by
 obtain ⟨cur,h1,h2⟩:=h
 exact ⟨cur,(Below.heap_setCell w p u g hp).trans h1,h2⟩
theorem Ow.below {B:Nat} (h:Ow w g c zs) (hb:Below B w w') (hg:g<B):Ow w' g c zs:=by
 obtain ⟨cur,h1,h2⟩:=h
 exact ⟨cur,(hb.block g hg).trans h1,h2⟩
theorem Ow.grown {row:Option Nat} (h:Ow w g c zs) (hg:w.grownBy w' row) (hr:some g≠row):Ow w' g c zs:=by
 obtain ⟨cur,h1,h2⟩:=h
 exact ⟨cur,(hg.block g (Array.getElem?_eq_some_iff.1 h1).1 hr).trans h1,h2⟩
end
abbrev ints (xs:List Nat):List Int:=xs.map (fun (x:Nat)=>(x:Int))
theorem Ow.rd {w:World} {g c:Nat} {xs:List Nat} (h:Ow w g c (ints xs)) (hc:c≤maxLen):Ri w (some ⟨g,0,none⟩) xs.length c xs:=by
 have hl:=h.lt
 refine ⟨rfl,?_,hc,fun _=>⟨_,rfl,hl,fun j x hx=>?_⟩⟩
 ·obtain ⟨cur,_,_,h3,_⟩:=h;simpa using h3
 ·have:(⟨g,0,none⟩:Addr).add j=⟨g,j,none⟩:=by unfold Addr.add;split <;> simp_all
  rw [this]
  exact h.cell (by rw [List.getElem?_map,hx];rfl)
theorem ow_of_row {w:World} {base n:Nat} {v:Value} {xs:List Nat} (h:w.ownsRow base 3 1 v n (xs.map eH)) (hn:0<n):∃ g c,v = .slice (some ⟨g,0,none⟩) n c∧base≤g∧c≤maxLen∧Ow w g c (ints xs)∧xs.length=n:=by
 obtain ⟨h1,h2⟩:=h
 have hl:xs.length=n:=by simpa using h1
 rcases h2 with ⟨rfl,rfl⟩|⟨g,cap,cur,rfl,e2,e3,e4,e5,e6,e7⟩
 ·omega
 ·refine ⟨g,cap,rfl,e2,e5,⟨cur,e3,by simpa using e6,by simp;omega,?_⟩,hl⟩
  have:(ints xs).length=n*1:=by simp [hl]
  rw [this,e7]
  simp [eH]
theorem ints_get {xs:List Nat} {i x:Nat} (h:xs[i]?=some x):(ints xs)[i]?=some (x:Int):=by rw [List.getElem?_map,h];rfl
theorem ints_set (xs:List Nat) (i x:Nat):(ints xs).set i (x:Int)=ints (xs.set i x):=by simp [List.map_set]
theorem row_nil {w:World} {base g:Nat} (h:w.heap[g]?=some (.cells #[] 3 (0,0))) (hb:base≤g):w.ownsRow base 3 1 (.slice (some ⟨g,0,none⟩) 0 0) 0 ([]:List Value) :=
 ⟨rfl,.inr ⟨g,0,#[],rfl,hb,h,Nat.le_refl _,Nat.zero_le _,rfl,rfl⟩⟩
theorem wpList_src {ops:Array Oper} {rest:List Oper} {o:Oper} {a:Act} {Q:Exit→Act→World→Prop} (hgd:o.guard=none) (s x:Operand)
 (ho:o.op = .call { callee := .builtin .append,args := #[s,x],argTypes := #[86,86] }) {base m c:Nat} {v:Value} {A:Option Addr} {xs:List Nat} {w:World} (hs:a.eval s=v) (hown:w.ownsRow base 3 1 v 0 ([]:List Value))
 (hx:a.eval x = .slice A m c) (hr:Ri w A m c xs) (h0:0<m) (hm:m≤2199023255999) (hbase:base≤w.heap.size)
 (h:∀ v' w',w'.ownsRow base 3 1 v' m (xs.map eH)→w.grownBy w' v.ownBlock→wpList Tryz.prog ops Q rest (a.put o.dst v') w') :
 wpList Tryz.prog ops Q (o::rest) a w:=by
 obtain ⟨i0,hi,hz0,hz1,hz2⟩:=info_parts info_int3
 obtain ⟨ad,rfl,_,hc⟩:=hr.2.2.2 h0
 refine wpList_append_own _ hgd s x 86 ho base 3 i0 (.int .i64 0) 1 8 Tryz.underlying86 hi hz0 hz1 hz2 rfl (by decide) v 0 [] hs hown ad m c (xs.map eH) hx (by simp [hr.len]) ?_ ?_ ?_ ?_ hbase ?_
 ·intro j u hj
  rw [List.getElem?_map,Option.map_eq_some_iff] at hj
  obtain ⟨x,hx,rfl⟩:=hj
  exact hc j x hx
 ·intro u hu
  rw [List.mem_map] at hu
  obtain ⟨x,_,rfl⟩:=hu
  rfl
 ·show 0+m≤9223372036854775807;omega
 ·omega
 ·intro v' w' h1 h2 _
  rw [Nat.zero_add,List.nil_append] at h1
  exact h v' w' h1 h2
def GInv (f N G m1 rs:Nat):Prop:=m1*f+rs=N∧G≤m1∧m1≤2000000000∧rs<1000000000
def gMu (v:Value):Nat:=(intOf v).toNat
set_option maxHeartbeats 2000000 in
set_option maxRecDepth 100000 in
theorem rguess_any (A:Option Addr) (n c:Nat) (xs:List Nat) (A' : Option Addr) (m n' c' : Nat) (ys:List Nat) (j:Nat) (w:World) (h:Ri w A n c xs) (hm2:n'=m+2) (h' : Ri w A' n' c' ys) (hd:Dig B9 xs) (hd' : Dig B9 ys)
 (hn:n≤2199023255999) (hj:j+(m+2)<n) (hi mid low f s:Nat) (g0:xs[j+(m+2)]?=some hi) (g1:xs[j+(m+1)]?=some mid) (g2:xs[j+m]?=some low) (g3:ys[m+1]?=some f) (g4:ys[m]?=some s) (hf0:0<f) (hle:hi≤f) :
 Calls Tryz.prog 212 #[.slice A n c,.slice A' n' c',.int .i64 (j:Int)] w (Gives w (.int .i64 ((gD (hi*B9+mid) low f s:Nat):Int))):=by
 have hnc:n≤c:=h.cap
 have hcm:c≤9223372036854775807:=h.2.2.1
 have hnc' : n'≤c':=h'.cap
 have hcm' : c'≤9223372036854775807:=h'.2.2.1
 have b0:=hd.at_ g0
 have b1:=hd.at_ g1
 have b2:=hd.at_ g2
 have b3:=hd'.at_ g3
 have b4:=hd'.at_ g4
 rw [cV] at b0 b1 b2 b3 b4
 obtain ⟨ad,q0,rfl,hblk,e0,c0⟩:=h.at_ hj
 rw [g0] at e0;injection e0 with e0;subst e0
 obtain ⟨ad1,q1,hA1,_,e1,c1⟩:=h.at_ (k:=j+(m+1)) (by omega)
 rw [g1] at e1;injection e1 with e1;subst e1
 injection hA1 with hA1;subst hA1
 obtain ⟨ad1,q1,hA1,_,e1,c2⟩:=h.at_ (k:=j+m) (by omega)
 rw [g2] at e1;injection e1 with e1;subst e1
 injection hA1 with hA1;subst hA1
 obtain ⟨ad',q1,rfl,hblk',e1,c3⟩:=h'.at_ (k:=m+1) (by omega)
 rw [g3] at e1;injection e1 with e1;subst e1
 obtain ⟨ad1,q1,hA1,_,e1,c4⟩:=h'.at_ (k:=m) (by omega)
 rw [g4] at e1;injection e1 with e1;subst e1
 injection hA1 with hA1;subst hA1
 obtain ⟨a0,ha0⟩:∃ a,a=j+(m+2):=⟨_,rfl⟩
 obtain ⟨a1,ha1⟩:∃ a,a=j+(m+1):=⟨_,rfl⟩
 obtain ⟨a2,ha2⟩:∃ a,a=j+m:=⟨_,rfl⟩
 obtain ⟨p1,hp1⟩:∃ a,a=m+1:=⟨_,rfl⟩
 rw [← ha0] at c0
 rw [← ha1] at c1
 rw [← ha2] at c2
 rw [← hp1] at c3
 rw [← ha0] at hj
 have x0:(j:Int)+(n' : Int)=(a0:Int):=by omega
 have x1:(a0:Int)-1=(a1:Int):=by omega
 have x2:(a0:Int)-2=(a2:Int):=by omega
 have x3:(n' : Int)-1=(p1:Int):=by omega
 have x4:(n' : Int)-2=(m:Int):=by omega
 have y0:(a0:Int)≤2199023255999:=by omega
 have y1:(a1:Int)≤2199023255999:=by omega
 have y2:(a2:Int)≤2199023255999:=by omega
 have y3:(p1:Int)≤2199023255999:=by omega
 have y4:(m:Int)≤2199023255999:=by omega
 have i0:(a0:Int)<n:=by omega
 have i1:(a1:Int)<n:=by omega
 have i2:(a2:Int)<n:=by omega
 have i3:(p1:Int)<n':=by omega
 have i4:(m:Int)<n':=by omega
 have n0:(0:Int)≤a0:=Int.natCast_nonneg _
 have n1:(0:Int)≤a1:=Int.natCast_nonneg _
 have n2:(0:Int)≤a2:=Int.natCast_nonneg _
 have n3:(0:Int)≤p1:=Int.natCast_nonneg _
 have n4:(0:Int)≤m:=Int.natCast_nonneg _
 clear ha0 ha1 ha2 hp1 hm2 hj hn
 obtain ⟨u,N,q,r,e1,e2,e3,e4,t1,t2,t3,t4,t5,hN,hdm,hrf,hq,hq2⟩:=guessTop b0 b1 hf0 b3 hle
 have E:=Lib.hid (And.intro e3 (And.intro e4 (And.intro t1 (And.intro t2 (And.intro t3 (And.intro t4 t5))))))
 clear e3 e4 t1 t2 t3 t4 t5
 have e3:(u:Int)≤1000000000000000000:=by omega
 have e4:(N:Int)≤1000000001000000000:=by omega
 have hst:gD (hi*B9+mid) low f s≤q:=by rw [hq,hN,← cV];exact gd_start hf0 b2
 have hNB:N=hi*B9+mid:=hN
 have hz0:((f:Int)==0)=false:=by simp;omega
 have hz1:¬ (f:Int)=0:=by omega
 have hz2:¬ (f:Int) = -1:=by omega
 have hz3:((f:Int) == -1)=false:=by simp
 obtain ⟨G,hG⟩:∃ G,G=gD (hi*B9+mid) low f s:=⟨_,rfl⟩
 rw [← hG] at hst ⊢
 have HS:=Lib.hid (And.intro hst (And.intro hNB (And.intro hdm (And.intro hrf (And.intro hq2 (And.intro b0 (And.intro b1 (And.intro b2 (And.intro b3 (And.intro b4 (And.intro hf0 (And.intro hle hG))))))))))))
 clear hst hNB hdm hrf hq2 b0 b1 b2 b3 b4 hf0 hle hG hN hq h h' hd hd' g0 g1 g2 g3 g4
 have CW:=Lib.hid (And.intro c0 (And.intro c1 (And.intro c2 (And.intro c3 (And.intro c4 (And.intro hblk hblk'))))))
 have hbs:(s:Int)≤999999999:=by have:=HS.out.2.2.2.2.2.2.2.2.2.1;omega
 have hbl:(low:Int)≤999999999:=by have:=HS.out.2.2.2.2.2.2.2.1;omega
 have hbf:(f:Int)≤999999999:=by have:=HS.out.2.2.2.2.2.2.2.2.1;omega
 go_enter Tryz.func212,Tryz.ntmps212
 go_wp2
 go_quiet (fail)
 have HC:=Lib.hid (show (w.drewN nq).cell? (ad'.add p1)=some (.int .i64 (f:Int))∧Below w.heap.size w (w.drewN nq) from ⟨c3,cA (Below.refl _ _) _⟩)
 clear c0 c1 c2 c3 c4 hblk hblk'
 generalize w.drewN nq=w2 at *
 obtain ⟨c3,hb2⟩:=HC.out
 go_wp2
 go_quiet (fail)
 have hb3:=cA hb2 nq
 clear c3 hb2 HC
 generalize w2.drewN nq=w3 at *
 go_wp2
 go_loopw [9,10] (fun tv rv wr => ∃ m1 rs:Nat,tv = .int .i64 (m1:Int)∧rv = .int .i64 (rs:Int)∧GInv f N G m1 rs∧Below w.heap.size w wr) (fun tv _ _=>gMu tv)
 case atStart =>
  obtain ⟨_,_,t1,t2,t3,t4,t5⟩:=E.out
  refine ⟨q,r,?_,?_,⟨HS.out.2.2.1,HS.out.1,HS.out.2.2.2.2.1,by have:=HS.out.2.2.2.1;have:=HS.out.2.2.2.2.2.2.2.2.1;omega⟩,hb3⟩
  ·first|rfl|rw [t1,t5]|rw [t2,t5]|(simp only [t1,t2,t5];done)
  ·first|rfl|rw [t3]|rw [t4]|(simp only [t3,t4];done)
 case round =>
  obtain ⟨m1,rs,rfl,rfl,hinv,hb⟩:=hrel
  have c2:=(hb.cell (p:=ad.add a2) (by rw [bN];exact CW.out.2.2.2.2.2.1)).trans CW.out.2.2.1
  have c3:=(hb.cell (p:=ad'.add p1) (by rw [bN];exact CW.out.2.2.2.2.2.2)).trans CW.out.2.2.2.1
  have c4:=(hb.cell (p:=ad'.add m) (by rw [bN];exact CW.out.2.2.2.2.2.2)).trans CW.out.2.2.2.2.1
  clear hb3 e1 e2 e3 e4
  by_cases hm:1000000000≤m1
  ·have k1:(1000000000:Int)≤m1:=by omega
   have hI:=hinv
   obtain ⟨j0,_,j3,j4⟩:=hinv
   have d1:(1:Int)≤m1:=by omega
   have d3:(m1:Int)≤2000000000:=by omega
   have d4:(rs:Int)≤999999999:=by omega
   have hG0:G≤m1-1:=by rw [HS.out.2.2.2.2.2.2.2.2.2.2.2.2];exact gd_cont1 (by rw [cV];omega)
   have hj:(m1-1)*f+(rs+f)=N:=by
    obtain ⟨m0,rfl⟩:∃ m0,m1=m0+1:=⟨m1-1,by omega⟩
    rw [Nat.add_mul,Nat.one_mul] at j0
    rw [Nat.add_sub_cancel];omega
   by_cases hr:1000000000≤rs+f
   ·have k3:(1000000000:Int)≤(rs:Int)+f:=by omega
    have hfin:G=m1-1:=by
     rw [HS.out.2.2.2.2.2.2.2.2.2.2.2.2]
     refine gd_over HS.out.2.2.2.2.2.2.2.2.2.2.1 (by rw [← HS.out.2.1];exact hj) HS.out.2.2.2.2.2.2.2.2.2.2.2.1 (by rw [cV];exact HS.out.2.2.2.2.2.2.1) (by rw [cV];exact HS.out.2.2.2.2.2.2.2.2.2.1) (by rw [cV];exact hr) (by rw [← HS.out.2.2.2.2.2.2.2.2.2.2.2.2];exact hG0)
    have HF:=Lib.hid hfin
    clear hfin hr hj hG0 j0 j3 j4 hI
    go_wp2
    go_quiet (fail)
    have c3' : (wr.drewN nq).cell? (ad'.add p1)=some (.int .i64 (f:Int)):=c3
    have hb4:=cA hb nq
    clear c2 c3 c4 hb
    generalize wr.drewN nq=w4 at *
    go_wp2
    go_ret
    exact ⟨bY (by rw [HF.out];omega),hb4⟩
   ·have k3:decide ((1000000000:Int)≤(rs:Int)+f)=false:=by rw [decide_eq_false_iff_not];omega
    have HF:=Lib.hid (show GInv f N G (m1-1) (rs+f) from ⟨hj,hG0,by omega,by omega⟩)
    clear hr hj hG0 j0 j3 j4 hI
    go_wp2
    go_quiet (fail)
    have c3' : (wr.drewN nq).cell? (ad'.add p1)=some (.int .i64 (f:Int)):=c3
    have hb4:=cA hb nq
    clear c2 c3 c4 hb
    generalize wr.drewN nq=w4 at *
    go_wp2
    go_roundw
    case rel=>exact ⟨m1-1,rs+f,by go_num,by go_num,HF.out,hb4⟩
    case measure=>show (intOf _).toNat<(intOf _).toNat;simp only [intOf];omega
  ·have k1:(m1:Int)<1000000000:=by omega
   obtain ⟨P,R,S,e1,e2,e3,f1,f2,f3,hP,hS⟩:=guessFacts (m:=m1) (s:=s) (rs:=rs) (low:=low) (by omega) (by omega) (by have:=hinv.2.2.2;omega) (by omega)
   have bP:(P:Int)≤1000000000000000000:=by
    have h1:m1*s≤999999999*999999999:=Nat.mul_le_mul (by omega) (by omega)
    clear f1 f2 f3
    omega
   have bR:(rs:Int)≤999999999:=by have:=hinv.2.2.2;clear f1 f2 f3;omega
   have hSI:(S:Int)=(rs:Int)*1000000000+low:=by clear f1 f2 f3;omega
   clear e2 e3 f2 f3
   by_cases hle:P≤S
   ·have hfin:G=m1:=by
     rw [HS.out.2.2.2.2.2.2.2.2.2.2.2.2]
     refine gd_exit HS.out.2.2.2.2.2.2.2.2.2.2.1 (by rw [← HS.out.2.1];exact hinv.1) (by rw [cV];clear f1;omega) (by rw [cV,← hP,← hS];exact hle) (by rw [← HS.out.2.2.2.2.2.2.2.2.2.2.2.2];exact hinv.2.1)
    have k2:(P:Int)≤(rs:Int)*1000000000+low:=by clear f1;omega
    have HF:=Lib.hid hfin
    have k4:decide ((1000000000:Int)≤m1)=false:=by rw [decide_eq_false_iff_not];clear f1;omega
    clear hfin hP hS hle hinv hSI f1 k1
    have bP2:(m1:Int)*(s:Int)≤1000000000000000000:=by rw [e1];exact bP
    have bP0:0≤(m1:Int)*(s:Int):=by rw [e1];exact Int.natCast_nonneg _
    have k6:decide ((rs:Int)*1000000000+low<(m1:Int)*(s:Int))=false:=by rw [decide_eq_false_iff_not,e1];exact Int.not_lt.2 k2
    clear e1 k2 bP
    go_wp2
    go_quiet (fail)
    clear x0 x1 x2 x3 x4 y0 y1 y2 y3 y4 i0 i1 i2 i3 i4 n0 n1 n2 n3 n4 hbl hbf hbs bR bP2 bP0 k4
    go_wp2
    go_ret
    exact ⟨bY (by rw [HF.out]),cA hb _⟩
   ·have k2:(rs:Int)*1000000000+low<P:=by clear f1;omega
    have hm1:m1≠0:=fun e=>by rw [e,Nat.zero_mul] at hP;clear f1;omega
    have HG0:G≤m1-1:=by
     rw [HS.out.2.2.2.2.2.2.2.2.2.2.2.2]
     obtain ⟨m0,rfl⟩:∃ m0,m1=m0+1:=⟨m1-1,by clear f1;omega⟩
     exact gd_cont2 HS.out.2.2.2.2.2.2.2.2.2.2.1 (by rw [← HS.out.2.1];exact hinv.1) (by rw [cV,← hS,Nat.add_sub_cancel,← hP];exact hle)
    have k4:decide ((1000000000:Int)≤m1)=false:=by rw [decide_eq_false_iff_not];clear f1;omega
    clear hP hS hle hSI f1 k1
    have bP2:(m1:Int)*(s:Int)≤1000000000000000000:=by rw [e1];exact bP
    have bP0:0≤(m1:Int)*(s:Int):=by rw [e1];exact Int.natCast_nonneg _
    have k6:(rs:Int)*1000000000+low<(m1:Int)*(s:Int):=by rw [e1];exact k2
    clear e1 k2 bP
    have hI:=hinv
    obtain ⟨j0,_,j3,j4⟩:=hinv
    have d1:(1:Int)≤m1:=by omega
    have d3:(m1:Int)≤2000000000:=by omega
    have d4:(rs:Int)≤999999999:=by omega
    have hG0:G≤m1-1:=HG0
    have hj:(m1-1)*f+(rs+f)=N:=by
     obtain ⟨m0,rfl⟩:∃ m0,m1=m0+1:=⟨m1-1,by omega⟩
     rw [Nat.add_mul,Nat.one_mul] at j0
     rw [Nat.add_sub_cancel];omega
    by_cases hr:1000000000≤rs+f
    ·have k3:(1000000000:Int)≤(rs:Int)+f:=by omega
     have hfin:G=m1-1:=by
      rw [HS.out.2.2.2.2.2.2.2.2.2.2.2.2]
      refine gd_over HS.out.2.2.2.2.2.2.2.2.2.2.1 (by rw [← HS.out.2.1];exact hj) HS.out.2.2.2.2.2.2.2.2.2.2.2.1 (by rw [cV];exact HS.out.2.2.2.2.2.2.1) (by rw [cV];exact HS.out.2.2.2.2.2.2.2.2.2.1) (by rw [cV];exact hr) (by rw [← HS.out.2.2.2.2.2.2.2.2.2.2.2.2];exact hG0)
     have HF:=Lib.hid hfin
     clear hfin hr hj hG0 j0 j3 j4 hI HG0 hm1
     go_wp2
     go_quiet (fail)
     have c3' : (wr.drewN nq).cell? (ad'.add p1)=some (.int .i64 (f:Int)):=c3
     have hb4:=cA hb nq
     clear c2 c3 c4 hb
     generalize wr.drewN nq=w4 at *
     go_wp2
     go_ret
     exact ⟨bY (by rw [HF.out];omega),hb4⟩
    ·have k3:decide ((1000000000:Int)≤(rs:Int)+f)=false:=by rw [decide_eq_false_iff_not];omega
     have HF:=Lib.hid (show GInv f N G (m1-1) (rs+f) from ⟨hj,hG0,by omega,by omega⟩)
     clear hr hj hG0 j0 j3 j4 hI HG0 hm1
     go_wp2
     go_quiet (fail)
     have c3' : (wr.drewN nq).cell? (ad'.add p1)=some (.int .i64 (f:Int)):=c3
     have hb4:=cA hb nq
     clear c2 c3 c4 hb
     generalize wr.drewN nq=w4 at *
     go_wp2
     go_roundw
     case rel=>exact ⟨m1-1,rs+f,by go_num,by go_num,HF.out,hb4⟩
     case measure=>show (intOf _).toNat<(intOf _).toNat;simp only [intOf];omega
def MulO (xs ys zs:List Nat) (i:Nat):Prop :=
 Dig B9 zs∧zs.length=xs.length+ys.length∧val B9 (zs.take (i+ys.length))=val B9 (xs.take i)*val B9 ys∧∀ j,i+ys.length≤j→j<zs.length→zs[j]?=some 0
def MulK (xs ys zs ws:List Nat) (i k cy x:Nat):Prop :=
 Dig B9 ws∧ws.length=xs.length+ys.length∧cy<B9∧val B9 (ws.take (i+ys.length))+B9^(i+k)*cy=val B9 (zs.take (i+ys.length))+B9^i*(x*val B9 (ys.take k))∧∀ j,i+ys.length≤j→j<ws.length→ws[j]?=some 0
theorem MulO.start (xs ys:List Nat):MulO xs ys (List.replicate (xs.length+ys.length) 0) 0:=by
 refine ⟨Dig.replicate cN _,by simp,?_,fun j _ h=>?_⟩
 ·rw [List.take_replicate,val_zeros];simp [val]
 ·simp at h;simp [List.getElem?_replicate,h]
theorem MulK.start {xs ys zs:List Nat} {i:Nat} (h:MulO xs ys zs i) (x:Nat):MulK xs ys zs zs i 0 0 x:=⟨h.1,h.2.1,cN,by simp [val],h.2.2.2⟩
theorem mulk_alg {V P v w o r s q cy y x m:Nat} (h:v+P*o=w+P*r) (e:w+P*cy=m) (hs:s=o+x*y+cy) (hdm:V*q+r=s):v+P*V*q=m+P*(x*y):=by subst hs;grind
theorem MulK.step {xs ys zs ws:List Nat} {i k cy x y o s:Nat} (h:MulK xs ys zs ws i k cy x) (hy:ys[k]?=some y) (ho:ws[i+k]?=some o) (hi:i<xs.length) (hs:s=o+x*y+cy) (hq:s/B9<B9) :
 MulK xs ys zs (ws.set (i+k) (s%B9)) i (k+1) (s/B9) x:=by
 obtain ⟨h1,h2,h3,h4,h5⟩:=h
 obtain ⟨hk,ey⟩:=List.getElem?_eq_some_iff.1 hy
 obtain ⟨hp,eo⟩:=List.getElem?_eq_some_iff.1 ho
 refine ⟨h1.set (Nat.mod_lt _ cN),by rw [List.length_set,h2],hq,?_,fun j hj hl=>?_⟩
 ·have e:=val_set B9 (ws.take (i+ys.length)) (i+k) (s%B9) (by rw [List.length_take];omega)
  rw [List.getElem_take,eo] at e
  rw [List.take_set,aF _ _ _ hk,ey]
  have hdm:=Nat.div_add_mod s B9
  rw [Nat.mul_add x,Nat.mul_add (B9^i),show x*(B9^k*y)=B9^k*(x*y) by rw [Nat.mul_left_comm],← Nat.mul_assoc (B9^i) (B9^k),← Nat.pow_add,← Nat.add_assoc (val B9 _)]
  rw [show i+(k+1)=i+k+1 from rfl,Nat.pow_succ]
  have e2:val B9 ((ws.take (i+ys.length)).set (i+k) (s%B9))+B9^(i+k)*o=val B9 (ws.take (i+ys.length))+B9^(i+k)*(s%B9):=e
  generalize B9^(i+k)=P at *
  generalize s/B9=q at *
  generalize s%B9=r at *
  exact mulk_alg e2 h4 hs hdm
 ·rw [List.getElem?_set_ne (by omega)]
  exact h5 j hj (by simpa using hl)
theorem mulo_alg {a v x y P Q c:Nat} (h4:v+Q*c=a*y+P*(x*y)):v+Q*c=(a+P*x)*y:=by grind
theorem MulK.finish {xs ys zs ws:List Nat} {i cy x:Nat} (h:MulK xs ys zs ws i ys.length cy x) (hz:MulO xs ys zs i) (hx:xs[i]?=some x):MulO xs ys (ws.set (i+ys.length) cy) (i+1):=by
 obtain ⟨h1,h2,h3,h4,h5⟩:=h
 obtain ⟨hi,ex⟩:=List.getElem?_eq_some_iff.1 hx
 refine ⟨h1.set h3,by rw [List.length_set,h2],?_,fun j hj hl=>?_⟩
 ·rw [show i+1+ys.length=i+ys.length+1 by omega,aF _ _ _ (by rw [List.length_set];omega),List.take_set_of_le (Nat.le_refl _),List.getElem_set_self,aF _ _ _ hi,ex]
  rw [List.take_of_length_le (Nat.le_refl _),hz.2.2.1] at h4
  exact mulo_alg h4
 ·rw [List.getElem?_set_ne (by omega)]
  exact h5 j (by omega) (by simpa using hl)
theorem MulO.finish {xs ys zs:List Nat} (h:MulO xs ys zs xs.length):val B9 zs=val B9 xs*val B9 ys:=by
 obtain ⟨_,h2,h3,_⟩:=h
 rwa [List.take_of_length_le (by omega),List.take_of_length_le (Nat.le_refl _)] at h3
set_option maxHeartbeats 2000000 in
set_option maxRecDepth 100000 in
theorem mulDigits_any (A:Option Addr) (n c:Nat) (xs:List Nat) (A' : Option Addr) (n' c' : Nat) (ys:List Nat) (w:World) (h:Ri w A n c xs) (h' : Ri w A' n' c' ys)
 (hd:Dig B9 xs) (hd' : Dig B9 ys) (hn:n≤2199023255552) (hn' : n'≤2199023255552) :
 Calls Tryz.prog 171 #[.slice A n c,.slice A' n' c'] w (GivesDi w (val B9 xs*val B9 ys)):=by
 have HX:=Lib.hid (And.intro h hd)
 have HY:=Lib.hid (And.intro h' hd')
 have hnc:n≤c:=h.cap
 have hcm:c≤9223372036854775807:=h.2.2.1
 have hnc' : n'≤c':=h'.cap
 have hcm' : c'≤9223372036854775807:=h'.2.2.1
 obtain ⟨i0,hi,hz0,hz1,hz2⟩:=info_parts info_int3
 have HI:=Lib.hid (And.intro hi (And.intro hz0 (And.intro hz1 hz2)))
 clear h h' hd hd' hi hz0 hz1 hz2
 go_enter Tryz.func171,Tryz.ntmps171
 go_wp2_with (at_make;refine wpList_make_full _ rfl _ _ 86 rfl w.heap.size 3 i0 (.int .i64 0) 1 Tryz.underlying86 HI.out.1 HI.out.2.1 HI.out.2.2.1 _ _ _ _ (n+n') rfl rfl ?b0 ?b1 ?b2 ?b3 (Nat.le_refl _) ?_)
 case b0=>omega
 case b1=>omega
 case b2=>rw [HI.out.2.2.2];omega
 case b3=>show n+n'≤9223372036854775807;omega
 intro w1 hown hg1
 have hb1:Below w.heap.size w w1:=(Below.refl _ _).grown hg1 (Nat.le_refl _) (fun k h=>by cases h)
 have hblk:=bi_of_made hown
 have e0:MulO xs ys (List.replicate (n+n') 0) 0:=by
  have:=MulO.start xs ys
  rwa [HX.out.1.len,HY.out.1.len] at this
 have HB:=Lib.hid hblk
 have H0:=Lib.hid e0
 clear hown hg1 hblk e0
 obtain ⟨g,hg⟩:∃ g,g=w.heap.size:=⟨_,rfl⟩
 rw [← hg] at HB ⊢
 have HG:=Lib.hid hg
 clear hg
 go_wp2
 go_loopw [6] (fun iv wr => ∃ (i:Nat) (zs:List Nat),i≤n∧iv = .int .i64 (i:Int)∧MulO xs ys zs i∧Bi wr g 3 zs∧Below w.heap.size w wr) (fun iv _=>n-(intOf iv).toNat)
 case atStart=>exact ⟨0,_,Nat.zero_le _,rfl,H0.out,HB.out,hb1⟩
 case round =>
  clear HB H0 hb1
  obtain ⟨i,zs,hk,rfl,hinv,hblk,hb⟩:=hrel
  by_cases hlt:i<n
  ·have a1:(i:Int)<n:=by omega
   obtain ⟨ad,x,hA,_,hx,_⟩:=(HX.out.1.below hb).at_ (k:=i) hlt
   have bx:x<1000000000:=HX.out.2.at_ hx
   have HO:=Lib.hid (And.intro hinv (And.intro hx (And.intro hlt bx)))
   have HB:=Lib.hid (And.intro hblk hb)
   clear hinv hx hblk hb bx hlt
   go_wp2
   go_loopw [7,8] (fun cv kv wr => ∃ (k cy:Nat) (ws:List Nat),k≤n'∧kv = .int .i64 (k:Int)∧cv = .int .i64 (cy:Int)∧MulK xs ys zs ws i k cy x∧Bi wr g 3 ws∧Below w.heap.size w wr) (fun _ kv _=>n'-(intOf kv).toNat)
   case atStart=>exact ⟨0,0,zs,Nat.zero_le _,rfl,rfl,MulK.start HO.out.1 x,HB.out.1,HB.out.2⟩
   case round =>
    clear HB
    obtain ⟨k,cy,ws,hk',rfl,rfl,hinv,hblk,hb⟩:=hrel
    have hwn:ws.length=n+n':=by rw [hinv.2.1,HX.out.1.len,HY.out.1.len]
    by_cases hkl:k<n'
    ·have a2:(k:Int)<n':=by omega
     have a3:i+k<n+n':=by omega
     obtain ⟨ad2,x2,hA2,_,hx2,hcx⟩:=(HX.out.1.below hb).at_ (k:=i) HO.out.2.2.1
     rw [HO.out.2.1] at hx2
     injection hx2 with hx2
     subst hx2
     subst hA2
     obtain ⟨ad',y,rfl,_,hy,hcy⟩:=(HY.out.1.below hb).at_ (k:=k) hkl
     obtain ⟨o,ho⟩:∃ o,ws[i+k]?=some o:=⟨_,List.getElem?_eq_getElem (by omega)⟩
     have hco:=hblk.cell ho
     have hfo:=hblk.frozen (i+k)
     obtain ⟨u,p,s,r,q,e1,e2,e3,e4,e5,e6,t1,t2,t3,t4,t5,hs,hr,hq,hqb,_⟩:=mulFacts (hinv.1.at_ ho) (Nat.le_of_lt HO.out.2.2.2) (HY.out.2.at_ hy) hinv.2.2.1
     have hst:=hinv.step hy ho (by rw [HX.out.1.len];exact HO.out.2.2.1) hs (by rw [cV,← hq];exact hqb HO.out.2.2.2)
     rw [cV,← hr,← hq] at hst
     have HS:=Lib.hid (And.intro hst (And.intro hblk (And.intro hb hkl)))
     have HT:=Lib.hid (And.intro t1 (And.intro t2 (And.intro t3 (And.intro t4 t5))))
     clear t1 t2 t3 t4 t5
     clear hst hb hblk hinv hs hr hq hqb hy ho hkl hwn hA
     go_wp2
     go_quiet (fail)
     have HS2:=Lib.hid (And.intro (HS.out.2.1.drewN nq) (cA HS.out.2.2.1 nq))
     have hcz:(wr.drewN nq).cell? ⟨g,i+k,none⟩=some (.int .i64 (o:Int)):=hco
     have hfz:(wr.drewN nq).frozen? ⟨g,i+k,none⟩=false:=hfo
     clear hco hfo hcx hcy
     generalize wr.drewN nq=w2 at *
     simp only [e6]
     clear e1 e2 e3 e4 e5 e6
     go_wp2
     go_roundw
     case rel =>
      obtain ⟨_,t2,_,t4,t5⟩:=HT.out
      exact ⟨k+1,q,ws.set (i+k) r,HS.out.2.2.2,rfl,by rw [t4,t5],HS.out.1,by rw [t2];exact HS2.out.1.set_ _ _,HS2.out.2.setCell (by rw [HG.out];exact Nat.le_refl _) _⟩
     case measure =>
      have:=HS.out.2.2.2
      clear HT HS HS2 HO hcz hfz
      simp [intOf];omega
    ·obtain rfl:k=n':=by omega
     have a3:i+k<n+k:=by have:=HO.out.2.2.1;omega
     have ho:ws[i+k]?=some 0:=by
      have:=hinv.2.2.2.2 (i+k) (by rw [HY.out.1.len];exact Nat.le_refl _) (by omega)
      exact this
     have hco:=hblk.cell ho
     have hfo:=hblk.frozen (i+k)
     have hst:=hinv
     rw [← HY.out.1.len] at hst
     have hst:=hst.finish HO.out.1 HO.out.2.1
     rw [HY.out.1.len] at hst
     have hcb:cy<1000000000:=hinv.2.2.1
     have t5:wrap64 (cy:Int)=cy:=fC (by omega)
     have HS:=Lib.hid (And.intro hst (And.intro hblk hb))
     clear hst hblk hb hinv ho hwn hkl hcb hA
     simp only [Int.natCast_zero] at hco
     go_wp2
     go_roundw
     case rel=>exact ⟨i+1,ws.set (i+k) cy,HO.out.2.2.1,by first|rfl|go_num|simp,HS.out.1,HS.out.2.1.set_ _ _,HS.out.2.2.setCell (by rw [HG.out];exact Nat.le_refl _) _⟩
     case measure =>
      have:=HO.out.2.2.1
      clear HS HO hco hfo
      simp [intOf];omega
  ·obtain rfl:i=n:=by omega
   have hzn:zs.length=i+n':=by rw [hinv.2.1,HX.out.1.len,HY.out.1.len]
   have hrd:=hblk.rd (by rw [hzn];show i+n'≤9223372036854775807;omega)
   rw [hzn] at hrd
   have hfin:=hinv
   rw [← HX.out.1.len] at hfin
   have HF:=Lib.hid (And.intro hinv.1 (And.intro hfin.finish (And.intro hrd hb)))
   clear hinv hblk hzn hrd hfin hlt hb
   go_wp2_with (go_at_call 211;refine (trim_any _ _ _ zs _ HF.out.2.2.1 HF.out.1).mono ?_;rintro e w' ⟨⟨v,rfl,hv⟩,rfl⟩)
   go_ret
   exact ⟨v,rfl,by rw [← HF.out.2.1];exact hv,HF.out.2.2.2⟩
theorem Below.step_trans' {w0 w w' : World} (h:Below w0.heap.size w0 w) (h' : Below w.heap.size w w'):Below w0.heap.size w0 w':=h.trans (h'.mono h.size)
theorem fac_facts {y:Nat} (hy:y<1000000000) (hy0:0<y):∃ f:Nat,(1000000000:Int)/((y:Int)+1)=(f:Int)∧(f:Int)≤999999999∧0<f∧f<1000000000∧f*(y+1)≤B9:=by
 refine ⟨1000000000/(y+1),?_,?_,?_,?_,?_⟩
 ·simp
 ·have:1000000000/(y+1)<1000000000:=(Nat.div_lt_iff_lt_mul (by omega)).2 (by omega)
  omega
 ·exact Nat.div_pos (by omega) (by omega)
 ·exact (Nat.div_lt_iff_lt_mul (by omega)).2 (by omega)
 ·exact Nat.div_mul_le_self _ _
theorem takeFacts {x v t bo:Nat} (bx:x<1000000000) (bv:v<1000000000) (bt:t<1000000000) (bb:bo≤1000000000):∃ P p r e:Nat,(t:Int)*(v:Int)=(P:Int)∧0≤(t:Int)*(v:Int)∧(t:Int)*(v:Int)≤1000000000000000000 ∧
 (p:Int)=(t:Int)*(v:Int)+bo∧p=t*v+bo∧r<B9∧p/B9+e≤B9∧r+p%B9=x+B9*e ∧
 ((((t:Int)*(v:Int)+bo)%1000000000≤x∧(x:Int)-((t:Int)*(v:Int)+bo)%1000000000=(r:Int)∧e=0)∨((x:Int)<((t:Int)*(v:Int)+bo)%1000000000∧(x:Int)-((t:Int)*(v:Int)+bo)%1000000000+1000000000=(r:Int)∧e=1)):=by
 have h1:t*v≤999999999*999999999:=Nat.mul_le_mul (by omega) (by omega)
 have h2:(t:Int)*(v:Int)=((t*v:Nat):Int):=by simp
 rw [h2,cV]
 generalize t*v=P at *
 by_cases hc:(P+bo)%1000000000≤x
 ·exact ⟨P,P+bo,x-(P+bo)%1000000000,0,by omega,by omega,by omega,by omega,rfl,by omega,by omega,by omega,.inl ⟨by omega,by omega,rfl⟩⟩
 ·exact ⟨P,P+bo,x+1000000000-(P+bo)%1000000000,1,by omega,by omega,by omega,by omega,rfl,by omega,by omega,by omega,.inr ⟨by omega,by omega,rfl⟩⟩
theorem ints_set0 (xs:List Nat) (i:Nat):(ints xs).set i 0=ints (xs.set i 0):=by simp [List.map_set]
theorem back_ok {u v ul T h t x bor cy wv:Nat} (hu:u=ul+T*h) (hx:x+t*v=ul+T*bor) (k1:t=u/v+1) (k2:u%v+T=x+v) (hb:wv+T*cy=x+v) (hw:wv<T) (hvT:v≤T) (hv:0<v) (hcy:cy≤1):wv=u%v∧cy=1∧bor=h+1:=by
 have hdm:=Nat.div_add_mod u v
 have hm:=Nat.mod_lt u hv
 generalize u/v=q at *
 generalize u%v=r at *
 have hc:cy=1:=by
  rcases Nat.eq_zero_or_pos cy with e|e
  ·subst e;omega
  ·omega
 subst hc
 refine ⟨by omega,rfl,?_⟩
 subst k1
 have e1:(q+1)*v=v*q+v:=by grind
 have e2:T*bor=T*(h+1):=by rw [Nat.mul_add,Nat.mul_one];omega
 exact Nat.eq_of_mul_eq_mul_left (by omega) e2
theorem put_put9 {ys zs ws:List Nat} {o:Nat} (h:o+ws.length≤ys.length) (hl:zs.length≤ws.length):put (put ys o zs) o ws=put ys o ws:=by
 have e1:(put ys o zs).take o=ys.take o:=put_take0 (by omega)
 have e2:(put ys o zs).drop o=zs++ys.drop (o+zs.length):=put_drop (by omega)
 have e3:(put ys o zs).drop (o+ws.length)=ys.drop (o+ws.length):=by
  rw [← List.drop_drop,e2,List.drop_append,List.drop_of_length_le (by omega),List.nil_append,List.drop_drop]
  congr 1
  omega
 show (put ys o zs).take o++(ws++(put ys o zs).drop (o+ws.length))=_
 rw [e1,e3]
 rfl
set_option maxHeartbeats 4000000 in
set_option maxRecDepth 1000000 in
theorem divLong_any (A:Option Addr) (n c:Nat) (xs:List Nat) (A' : Option Addr) (n' c' : Nat) (ys:List Nat) (w:World) (h:Ri w A n c xs) (h' : Ri w A' n' c' ys)
 (hd:Dig B9 xs) (hd' : Dig B9 ys) (hx:Norm xs) (hy:Norm ys) (hn:n≤1099511627776) (hn2:2≤n') (hge:val B9 ys≤val B9 xs) :
 Calls Tryz.prog 162 #[.slice A n c,.slice A' n' c'] w (GivesDi2 w (val B9 xs/val B9 ys) (val B9 xs%val B9 ys)):=by
 have hnc:n≤c:=h.cap
 have hcm:c≤9223372036854775807:=h.2.2.1
 have hnc' : n'≤c':=h'.cap
 have hcm' : c'≤9223372036854775807:=h'.2.2.1
 have hle:n'≤n:=by
  rcases Nat.lt_or_ge n n' with e|e
  ·have:=dI eB hd hy (by rw [h.len,h'.len];exact e)
   omega
  ·exact e
 obtain ⟨ad',y,hA',hblk',hyt,hcy⟩:=h'.at_ (k:=n'-1) (by omega)
 subst hA'
 have hyl:y<1000000000:=hd'.at_ hyt
 have hy0:0<y:=by
  have hne:ys≠[]:=by rintro rfl;simp at hyt
  have:=hy hne
  rw [List.getLast_eq_getElem] at this
  obtain ⟨k,ey⟩:=List.getElem?_eq_some_iff.1 hyt
  have hl:=h'.len
  simp only [hl,ey] at this
  omega
 obtain ⟨f,hf,hfb,hf0,hf1,hfy⟩:=fac_facts hyl hy0
 have hyb:(y:Int)≤999999999:=by omega
 have hc1:¬ bZ (val B9 xs) (val B9 ys)<0:=by unfold bZ;rw [if_neg (by omega)];split <;> omega
 obtain ⟨z,hz⟩:∃ z:Int,bZ (val B9 xs) (val B9 ys)=z:=⟨_,rfl⟩
 have cc:=Lib.hid (fF A n c xs (some ad') n' c' ys w h h' hd hd' hx hy)
 rw [hz] at cc hc1
 have hz0:decide (z<0)=false:=decide_eq_false hc1
 have hz1:((n' : Int)==1)=false:=by simp;omega
 have HX:=Lib.hid (And.intro h (And.intro hd (And.intro hx (And.intro hn (And.intro hn2 (And.intro hge hle))))))
 have HY:=Lib.hid (And.intro h' (And.intro hd' (And.intro hy (And.intro hyt (And.intro hf0 (And.intro hf1 hfy))))))
 have i1:(2:Int)≤n':=by omega
 have i2:(n:Int)≤1099511627776:=by omega
 have i3:(n' : Int)≤n:=by omega
 clear h h' hd hd' hx hy hn hn2 hge hle hyt hf0 hf1 hfy hyl hy0 hc1 hz
 go_enter Tryz.func162,Tryz.ntmps162
 go_wp2_with fail
 refine cc.out.mono ?_
 rintro e w0 ⟨rfl,hb0⟩
 have hcy0:=(hb0.cell (p:=ad'.add (n'-1)) (by rw [bN];exact hblk')).trans hcy
 clear hcy
 go_wp2_with fail
 have hbF:Bi (w0.alloc (.cells #[.int .i64 (f:Int)] 3)) w0.heap.size 3 [f]:=heap_alloc_new w0 _
 have hbA:Below w.heap.size w (w0.alloc (.cells #[.int .i64 (f:Int)] 3)):=hb0.alloc hb0.size _
 have hgw:w.heap.size≤w0.heap.size:=hb0.size
 generalize (w0.alloc (.cells #[.int .i64 (f:Int)] 3))=wA at *
 generalize w0.heap.size=g0 at *
 have hdF:Dig B9 [f]:=Dig.cons (by rw [cV];exact HY.out.2.2.2.2.2.1) (Dig.nil _)
 have HF:=Lib.hid (And.intro hbF (And.intro hbA (And.intro hgw hdF)))
 clear hbF hbA hgw hdF hb0 hcy0 hz0 hz1
 refine (mulDigits_any (some ad') n' c' ys (some ⟨g0,0,none⟩) 1 1 [f] wA (HY.out.1.below HF.out.2.1) (HF.out.1.rd (by show 1≤9223372036854775807;omega)) HY.out.2.1 HF.out.2.2.2 (by omega) (by omega)).mono ?_
 rintro e w1 ⟨v,rfl,⟨Av,nv,cv,vs,rfl,hrv,hdv,hnv,hvv⟩,hb1⟩
 have hvv:val B9 vs=val B9 ys*f:=by rw [hvv];simp [val]
 obtain rfl:nv=n':=by
  have:=scaled_len HY.out.2.1 (by rw [HY.out.1.len];omega) (by rw [HY.out.1.len];exact HY.out.2.2.2.1) hdv hnv HY.out.2.2.1 hvv HY.out.2.2.2.2.1 HY.out.2.2.2.2.2.2
  rw [hrv.len,HY.out.1.len] at this
  exact this
 have hbF1:Bi w1 g0 3 [f]:=HF.out.1.below hb1 HF.out.1.lt
 have hbA1:Below w.heap.size w w1:=Below.step_trans' HF.out.2.1 hb1
 have hg01:g0<w1.heap.size:=hbF1.lt
 have hcv:cv≤9223372036854775807:=hrv.2.2.1
 have hncv:nv≤cv:=hrv.cap
 have HV:=Lib.hid (And.intro hrv (And.intro hdv (And.intro hnv (And.intro hvv (And.intro hbF1 (And.intro hbA1 hg01))))))
 clear hrv hdv hnv hvv hbF1 hbA1 hg01 hb1 hf hfb hyb cc
 go_wp2_with fail
 obtain ⟨B1,hB1⟩:∃ b,b=w1.heap.size:=⟨_,rfl⟩
 have hnil:(w1.alloc (.cells #[] 3)).heap[w1.heap.size]?=some (.cells #[] 3 (0,0)):=heap_alloc_new w1 _
 have hbN:Below w1.heap.size w1 (w1.alloc (.cells #[] 3)):=(Below.refl _ _).alloc (Nat.le_refl _) _
 generalize (w1.alloc (.cells #[] 3))=wN at *
 rw [← hB1] at hnil hbN ⊢
 have HN:=Lib.hid (And.intro hnil (And.intro hbN hB1))
 clear hnil hbN hB1
 refine (mulDigits_any A n c xs (some ⟨g0,0,none⟩) 1 1 [f] wN ((HX.out.1.below HV.out.2.2.2.2.2.1).below (by rw [← HN.out.2.2];exact HN.out.2.1)) ((HV.out.2.2.2.2.1.below HN.out.2.1 (by rw [HN.out.2.2];exact HV.out.2.2.2.2.2.2)).rd (by show 1≤9223372036854775807;omega)) HX.out.2.1 HF.out.2.2.2 (by omega) (by omega)).mono ?_
 rintro e w2 ⟨v2,rfl,⟨A2,m2,c2,us0,rfl,hr2,hd2,hn2,hv2⟩,hb2⟩
 have hv2:val B9 us0=val B9 xs*f:=by rw [hv2];simp [val]
 have hpos:0<val B9 xs:=by
  have h1:=HY.out.2.2.1.pos cN (l:=ys) (by rintro rfl;have:=HY.out.1.len;simp at this;omega)
  have h2:=HX.out.2.2.2.2.2.1
  omega
 have hm2:m2≤n+1:=by
  rw [← hr2.len]
  refine aV eB hn2 ?_
  rw [hv2,Nat.pow_succ]
  have h1:=bV HX.out.2.1
  rw [HX.out.1.len] at h1
  exact Nat.mul_lt_mul'' h1 (by rw [cV];exact HY.out.2.2.2.2.2.1)
 have hm0:0<m2:=by
  rcases Nat.eq_zero_or_pos m2 with e|e
  ·exfalso
   subst e
   have:us0 = []:=List.eq_nil_of_length_eq_zero hr2.len
   subst this
   have h1:0<val B9 xs*f:=Nat.mul_pos hpos HY.out.2.2.2.2.1
   rw [← hv2] at h1
   simp [val] at h1
  ·exact e
 have hNlt:B1<wN.heap.size:=(Array.getElem?_eq_some_iff.1 HN.out.1).1
 have hown:w2.ownsRow B1 3 1 (.slice (some ⟨B1,0,none⟩) 0 0) 0 ([]:List Value):=row_nil ((hb2.block B1 hNlt).trans HN.out.1) (Nat.le_refl _)
 have hb12:Below B1 w1 w2:=HN.out.2.1.trans (hb2.mono (Nat.le_of_lt hNlt))
 have hs2:B1≤w2.heap.size:=Nat.le_trans (Nat.le_of_lt hNlt) hb2.size
 have HU:=Lib.hid (And.intro hr2 (And.intro hd2 (And.intro hv2 (And.intro hpos (And.intro hm2 (And.intro hm0 (And.intro hown (And.intro hb12 hs2))))))))
 clear hr2 hd2 hn2 hv2 hpos hm2 hm0 hown hb12 hs2 hb2 hNlt
 go_wp2_with (at_builtin;refine wpList_src rfl _ _ rfl rfl HU.out.2.2.2.2.2.2.1 rfl HU.out.1 HU.out.2.2.2.2.2.1 (by have:=HU.out.2.2.2.2.1;omega) HU.out.2.2.2.2.2.2.2.2 ?_)
 intro v3 w3 hr3 hg3
 have hb3:Below B1 w1 w3:=HU.out.2.2.2.2.2.2.2.1.grown hg3 HU.out.2.2.2.2.2.2.2.2 (fun b hb=>by simp [Value.ownBlock] at hb;omega)
 have HR:=Lib.hid (And.intro hr3 hb3)
 clear hr3 hb3 hg3
 go_wp2
 go_loopw [11] (fun uv wr => ∃ (m:Nat) (zs:List Nat),wr.ownsRow B1 3 1 uv m (zs.map eH)∧0<m∧m≤n+1∧Dig B9 zs∧val B9 zs=val B9 xs*f∧Below B1 w1 wr) (fun uv _=>n+1-lenOf uv)
 case atStart=>exact ⟨m2,us0,HR.out.1,HU.out.2.2.2.2.2.1,HU.out.2.2.2.2.1,HU.out.2.1,HU.out.2.2.1,HR.out.2⟩
 case round =>
  clear HR
  obtain ⟨m,zs,hrow,hm0,hmn,hdz,hvz,hb⟩:=hrel
  have hrow':=hrow
  obtain ⟨gu,cu,rfl,hgu,hcu,how,hzl⟩:=ow_of_row hrow hm0
  by_cases hlt:m<n+1
  ·have k1:(m:Int)<(n:Int)+1:=by omega
   have HM:=Lib.hid (And.intro hrow' (And.intro hdz (And.intro hvz (And.intro hb (And.intro hzl hlt)))))
   have hs:B1≤wr.heap.size:=Nat.le_trans hgu (Nat.le_of_lt how.lt)
   clear hrow hrow' hdz hvz hb hlt how hgu hzl
   go_wp2_with (at_builtin;refine gG (r:=0) (B:=B1) rfl _ _ rfl rfl HM.out.1 rfl (by omega) HM.out.2.2.2.1 (Nat.le_refl _) hs ?_)
   intro v4 w4 hr4 hb4 _
   have hr4' : w4.ownsRow B1 3 1 v4 (m+1) ((zs ++ [0]).map eH):=by rw [List.map_append];exact hr4
   obtain ⟨g4,c4,rfl,_,_,_,_⟩:=ow_of_row hr4' (Nat.succ_pos _)
   have HQ:=Lib.hid (And.intro hr4' hb4)
   clear hr4'
   clear hr4 hb4
   go_wp2
   go_roundw
   case rel =>
    refine ⟨m+1,zs ++ [0],HQ.out.1,by omega,by have:=HM.out.2.2.2.2.2;omega,HM.out.2.1.app (Dig.cons cN (Dig.nil _)),?_,HQ.out.2⟩
    rw [cR,Nat.mul_zero,Nat.add_zero];exact HM.out.2.2.1
   case measure =>
    have:=HM.out.2.2.2.2.2
    clear HQ HM
    simp [lenOf];omega
  ·obtain rfl:m=n+1:=by omega
   have hst:LongJ (val B9 vs) (val B9 xs*f) nv (n-nv+1) zs (List.replicate (n-nv+1) 0) (n-nv+1) :=
    LongJ.start hdz hzl hvz rfl (by have:=bV HX.out.2.1;rwa [HX.out.1.len] at this) HV.out.2.2.2.1 HY.out.2.2.2.2.1
     (by have:=HY.out.2.2.1.ge (B:=B9) (l:=ys) (by rintro rfl;have:=HY.out.1.len;simp at this;omega);rwa [HY.out.1.len] at this) HX.out.2.2.2.2.2.2 (by omega)
   have k1:¬ ((n+1:Nat):Int)<(n:Int)+1:=by omega
   have HM:=Lib.hid (And.intro hst (And.intro how (And.intro hb (And.intro hgu hcu))))
   clear hst how hb hgu hrow hrow' hdz hvz hzl hlt hmn hm0
   obtain ⟨i0,hi,hz0,hz1,hz2⟩:=info_parts info_int3
   have HI:=Lib.hid (And.intro hi (And.intro hz0 (And.intro hz1 hz2)))
   clear hi hz0 hz1 hz2
   go_wp2_with (at_make;refine wpList_make_full _ rfl _ _ 86 rfl wr.heap.size 3 i0 (.int .i64 0) 1 Tryz.underlying86 HI.out.1 HI.out.2.1 HI.out.2.2.1 _ _ _ _ (n-nv+1) rfl rfl ?b0 ?b1 ?b2 ?b3 (Nat.le_refl _) ?_)
   case b0=>omega
   case b1=>omega
   case b2=>rw [HI.out.2.2.2];omega
   case b3=>show n-nv+1≤9223372036854775807;omega
   intro w5 hown5 hg5
   have hblk:=bi_of_made hown5
   have hb5:Below B1 w1 w5:=HM.out.2.2.1.grown hg5 (Nat.le_trans HM.out.2.2.2.1 (Nat.le_of_lt HM.out.2.1.lt)) (fun b hb=>by cases hb)
   have how5:Ow w5 gu cu (ints zs):=HM.out.2.1.grown hg5 (by simp)
   have hguq:gu<wr.heap.size:=HM.out.2.1.lt
   obtain ⟨gq,hgq⟩:∃ g,g=wr.heap.size:=⟨_,rfl⟩
   rw [← hgq] at hblk hguq ⊢
   obtain ⟨L,hL⟩:∃ L,L=n-nv+1:=⟨_,rfl⟩
   have hLi:(L:Int)=(n:Int)-nv+1:=by omega
   have hLn:L+nv=n+1:=by omega
   have hgu1:=HM.out.2.2.2.1
   have hcu:=HM.out.2.2.2.2
   rw [← hL] at hblk ⊢
   have hst:=HM.out.1
   rw [← hL] at hst
   have HS:=Lib.hid (And.intro hst (And.intro hblk (And.intro how5 (And.intro hb5 (And.intro hguq (And.intro hgu1 (And.intro hLn hcu)))))))
   clear hst hblk how5 hb5 hguq hgu1 hgq hown5 hg5 hL HM k1 hLn
   clear HU
   go_wp2
   go_loopw [13] (fun jv wr => ∃ (k:Nat) (us qs:List Nat),k≤L∧jv = .int .i64 ((k:Int)-1)∧LongJ (val B9 vs) (val B9 xs*f) nv L us qs k∧Bi wr gq 3 qs∧Ow wr gu cu (ints us)∧Below B1 w1 wr) (fun jv _=>(intOf jv+1).toNat)
   case atStart=>exact ⟨L,zs,_,Nat.le_refl _,by go_num,HS.out.1,HS.out.2.1,HS.out.2.2.1,HS.out.2.2.2.1⟩
   case round =>
    obtain ⟨k,us,qs,hk,rfl,hinv,hbq,hou,hbw⟩:=hrel
    rcases Nat.eq_zero_or_pos k with rfl|hk0
    ·obtain ⟨f1,f2,f3⟩:=hinv.finish HV.out.2.2.2.1 (HY.out.2.2.1.pos cN (l:=ys) (by rintro rfl;have:=HY.out.1.len;simp at this;omega)) HY.out.2.2.2.2.1
     have hul:us.length=n+1:=by rw [hinv.2.1];exact HS.out.2.2.2.2.2.2.1
     have hql:qs.length=L:=hinv.2.2.2.1
     have hru:Ri wr (some ⟨gu,0,none⟩) (n+1) cu us:=by have:=hou.rd HS.out.2.2.2.2.2.2.2;rwa [hul] at this
     have hrq:Ri wr (some ⟨gq,0,none⟩) L L qs:=by have:=hbq.rd (by rw [hql];show L≤9223372036854775807;omega);rwa [hql] at this
     have hcap:n+1≤cu:=hru.cap
     have hcap2:nv≤cu:=by omega
     have hVle:val B9 vs≤B9^nv:=by have:=bV HV.out.2.1;rw [HV.out.1.len] at this;exact Nat.le_of_lt this
     have htk:val B9 (us.take nv)=val B9 us:=by
      have e:=eG B9 us nv (by omega)
      rcases Nat.eq_zero_or_pos (val B9 (us.drop nv)) with e2|e2
      ·rw [e2] at e;omega
      ·exfalso
       have:B9^nv*1≤B9^nv*val B9 (us.drop nv):=Nat.mul_le_mul_left _ e2
       omega
     have hbF:Bi wr g0 3 [f]:=HV.out.2.2.2.2.1.below (by rw [← HN.out.2.2];exact hbw) HV.out.2.2.2.2.2.2
     have hcf:wr.cell? ⟨g0,0,none⟩=some (.int .i64 (f:Int)):=hbF.cell rfl
     have hbw0:Below w.heap.size w wr:=Below.step_trans' HV.out.2.2.2.2.2.1 (by rw [← HN.out.2.2];exact hbw)
     have HZ:=Lib.hid (And.intro f1 (And.intro f2 (And.intro hinv.1 (And.intro hinv.2.2.1 (And.intro (hru.take (k:=nv) (by omega)) (And.intro hrq (And.intro htk (And.intro hbF hbw0))))))))
     have HZ2:=Lib.hid (show val B9 us<B9^(n+1) by have:=bV hinv.1;rwa [hul] at this)
     clear f1 f2 f3 hinv hul hql hru hrq hVle htk hbF hbw0 hbq hou hbw hk
     simp only [show (((0:Nat):Int)-1) = -1 from rfl]
     have ct:=Lib.hid (fun W (hB:Below wr.heap.size wr W)=>trim_any (some ⟨gu,0,none⟩) nv cu (us.take nv) W (HZ.out.2.2.2.2.1.below hB) (HZ.out.2.2.1.take nv))
     have cd:=Lib.hid (fun W A3 k3 c3 ys3 (hr:Ri W A3 k3 c3 ys3) (hd:Dig B9 ys3) (hk:k3≤2199023255552)=>divDigit_any A3 k3 c3 ys3 f W hr hd hk HY.out.2.2.2.2.1 HY.out.2.2.2.2.2.1)
     go_wp2
     go_region_with (first|(go_at_call 211;refine (ct.out _ (by repeat (first|exact Below.refl _ _|refine Below.drew ?_))).mono ?_;rintro e w9 ⟨⟨v9,rfl,A3,k3,c3,ys3,rfl,hr3,hd3,hn3,hv3⟩,rfl⟩;have H3:=Lib.hid (And.intro hr3 (And.intro hd3 (And.intro hn3 hv3)));clear hr3 hd3 hn3 hv3)|(go_at_call 210;refine (cd.out _ _ _ _ _ H3.out.1 H3.out.2.1 (by have h1:=aV eB H3.out.2.2.1 (L:=n+1) (by rw [H3.out.2.2.2,HZ.out.2.2.2.2.2.2.1];exact HZ2.out);rw [H3.out.1.len] at h1;omega)).mono ?_;rintro e w10 ⟨v10,rfl,hv10,hb10⟩;have H10:=Lib.hid (And.intro hv10 hb10);clear hv10 hb10))
     all_goals
      have hbd:Below wr.heap.size wr w10:=Below.step_trans' (w:=wr.drew) (Below.drew (Below.refl _ _)) H10.out.2
      have hvm:val B9 ys3/f=val B9 xs%val B9 ys:=by
       rw [H3.out.2.2.2,HZ.out.2.2.2.2.2.2.1,HZ.out.2.1]
       exact Nat.mul_div_cancel _ HY.out.2.2.2.2.1
      have hq10:Ri w10 (some ⟨gq,0,none⟩) L L qs:=HZ.out.2.2.2.2.2.1.below hbd
      have HL:=Lib.hid (And.intro hbd (And.intro hvm hq10))
      clear hbd hvm hq10
      go_wp2_with (go_at_call 211;refine (trim_any _ _ _ qs _ HL.out.2.2 HZ.out.2.2.2.1).mono ?_;rintro e w11 ⟨⟨v11,rfl,hv11⟩,rfl⟩)
      go_ret2
      exact ⟨v11,v10,rfl,by rw [← HZ.out.1];exact hv11,by rw [← HL.out.2.1];exact H10.out.1,Below.step_trans' HZ.out.2.2.2.2.2.2.2.2 HL.out.1⟩
    ·obtain ⟨j,rfl⟩:∃ m,k=m+1:=⟨k-1,by omega⟩
     have hul:us.length=n+1:=by rw [hinv.2.1];exact HS.out.2.2.2.2.2.2.1
     have hVle:val B9 vs≤B9^nv:=by have:=bV HV.out.2.1;rw [HV.out.1.len] at this;exact Nat.le_of_lt this
     have hwin:=hinv.window (by omega) hVle
     have hrv:Ri wr Av nv cv vs:=HV.out.1.below (by rw [← HN.out.2.2];exact hbw)
     have hru:Ri wr (some ⟨gu,0,none⟩) (n+1) cu us:=by have:=hou.rd HS.out.2.2.2.2.2.2.2;rwa [hul] at this
     have hjn:j+nv<n+1:=by have:=HS.out.2.2.2.2.2.2.1;omega
     obtain ⟨p2,hp2⟩:∃ p,nv=p+2:=⟨nv-2,by omega⟩
     obtain ⟨d0,hd0⟩:∃ y,us[j+(p2+2)]?=some y:=⟨_,List.getElem?_eq_getElem (by omega)⟩
     obtain ⟨d1,hd1⟩:∃ y,us[j+(p2+1)]?=some y:=⟨_,List.getElem?_eq_getElem (by omega)⟩
     obtain ⟨d2,hd2⟩:∃ y,us[j+p2]?=some y:=⟨_,List.getElem?_eq_getElem (by omega)⟩
     obtain ⟨fv,hfv⟩:∃ y,vs[p2+1]?=some y:=⟨_,List.getElem?_eq_getElem (by rw [hrv.len];omega)⟩
     obtain ⟨sv,hsv⟩:∃ y,vs[p2]?=some y:=⟨_,List.getElem?_eq_getElem (by rw [hrv.len];omega)⟩
     have hfv0:0<fv:=by
      have hne:vs≠[]:=by rintro rfl;simp at hfv
      have h1:=HV.out.2.2.1 hne
      rw [List.getLast_eq_getElem] at h1
      obtain ⟨k,ey⟩:=List.getElem?_eq_some_iff.1 hfv
      have hl:=hrv.len
      simp only [hl,hp2,show p2+2-1=p2+1 by omega,ey] at h1
      omega
     have hwl:((us.drop j).take (nv+1)).length=p2+3:=by simp;omega
     have hgd:=gd_ok (us:=(us.drop j).take (nv+1)) (vs:=vs) (m:=p2) hwl (by rw [hrv.len];exact hp2) ((hinv.1.drop _).take _) HV.out.2.1 (by rw [gE (by omega)];exact hd0) (by rw [gE (by omega)];exact hd1) (by rw [gE (by omega)];exact hd2) hfv hsv hfv0 (by rw [hwin.1];exact hwin.2.2)
     obtain ⟨t,ht⟩:∃ t,t=gD (d0*B9+d1) d2 fv sv:=⟨_,rfl⟩
     have htb:t<1000000000:=by rw [ht,← cV];exact gd_lt
     have cg:=Lib.hid (rguess_any (some ⟨gu,0,none⟩) (n+1) cu us Av p2 nv cv vs j wr hru hp2 hrv hinv.1 HV.out.2.1 (by omega) (by omega) d0 d1 d2 fv sv hd0 hd1 hd2 hfv hsv hfv0 hgd.2.2)
     rw [← ht] at cg hgd
     have hd0' : us[j+nv]?=some d0:=by rw [hp2];exact hd0
     have HE:=Lib.hid (And.intro hinv (And.intro hbq (And.intro hou (And.intro hbw (And.intro hul (And.intro hVle (And.intro hwin (And.intro hrv (And.intro hgd (And.intro htb (And.intro hd0' hjn)))))))))))
     have j1:(j:Int)+nv≤n:=by omega
     have j2:(t:Int)≤999999999:=by omega
     have hidx:((j:Int)+1-1)=j:=by omega
     clear hinv hbq hou hbw hul hVle hwin hrv hru hjn hp2 hd0 hd1 hd2 hfv hsv hfv0 hwl hgd ht htb hd0' hk hk0
     simp only [Int.natCast_add,Int.natCast_one,hidx]
     clear hidx
     go_wp2_with fail
     refine cg.out.mono ?_
     rintro e w6 ⟨rfl,hb6⟩
     have HB6:=Lib.hid hb6
     clear hb6 cg
     go_wp2
     go_loopw [15,16] (fun bv iv wr => ∃ (i bo:Nat) (zs:List Nat),i≤nv∧iv = .int .i64 (i:Int)∧bv = .int .i64 (bo:Int)∧TakeK us vs zs j t i bo∧Ow wr gu cu (ints (put us j zs))∧w6.grownBy wr (some gu)) (fun _ iv _=>nv-(intOf iv).toNat)
     case atStart=>exact ⟨0,0,[],Nat.zero_le _,rfl,rfl,⟨rfl,Dig.nil _,Nat.zero_le _,by simp [val]⟩,by rw [put_nil];exact HE.out.2.2.1.below HB6.out HE.out.2.2.1.lt,only_refl _ _⟩
     case round =>
      obtain ⟨i,bo,zs,hi,rfl,rfl,htk,how,hg⟩:=hrel
      have hgu1:=HS.out.2.2.2.2.2.1
      have hb6:Below B1 w1 w6:=HE.out.2.2.2.1.trans (HB6.out.mono (Nat.le_trans hgu1 (Nat.le_of_lt HE.out.2.2.1.lt)))
      have hs6:B1≤w6.heap.size:=Nat.le_trans hgu1 (Nat.le_trans (Nat.le_of_lt HE.out.2.2.1.lt) HB6.out.size)
      have hbk:Below B1 w1 wr:=hb6.grown hg hs6 (fun b hb=>by injection hb with hb;omega)
      have hul:=HE.out.2.2.2.2.1
      have hjn:=HE.out.2.2.2.2.2.2.2.2.2.2.2
      by_cases hlt:i<nv
      ·obtain ⟨adv,v,rfl,_,hv,hcv'⟩:=(HV.out.1.below (by rw [← HN.out.2.2];exact hbk)).at_ (k:=i) hlt
       obtain ⟨x,hx⟩:∃ x,us[j+i]?=some x:=⟨_,List.getElem?_eq_getElem (by omega)⟩
       have hcx:=how.cell (i:=i+j) (ints_get (by rw [Nat.add_comm i j,put_get (by rw [htk.1];exact Nat.le_refl _) (by omega)];exact hx))
       have hfx:=how.frozen (i+j)
       have bx:x<1000000000:=HE.out.1.1.at_ hx
       have bv:v<1000000000:=HV.out.2.1.at_ hv
       have bt:t<1000000000:=HE.out.2.2.2.2.2.2.2.2.2.1
       have bb:bo≤1000000000:=htk.2.2.1
       obtain ⟨P,p,r,e,eP,bP0,bP2,hpI,hp,hr,he,hre,hcase⟩:=takeFacts bx bv bt bb
       have hst:=htk.step hx hv hp hr he hre
       have b1:(x:Int)≤999999999:=by omega
       have b2:(bo:Int)≤1000000000:=by omega
       have a1:(i:Int)<nv:=by omega
       have a2:(i:Int)+j<(n:Int)+1:=by omega
       have HT:=Lib.hid (And.intro hst (And.intro how (And.intro hg (And.intro hlt (And.intro hpI (And.intro hcase (And.intro htk.1 hul)))))))
       clear hst how hg hlt htk hx hv hp hr he hre bx bv bt bb hb6 hs6 hbk hul hjn hgu1 hi eP hpI
       rcases hcase with ⟨q1,q2,rfl⟩|⟨q1,q2,rfl⟩
       ·have c1:decide ((x:Int)-((t:Int)*(v:Int)+bo)%1000000000<0)=false:=by rw [decide_eq_false_iff_not];omega
        clear q1
        go_wp2
        go_roundw
        case rel =>
         obtain ⟨hst,how,hg,hlt,hpI,_,hzl,hul⟩:=HT.out
         refine ⟨i+1,p/B9+0,zs ++ [r],hlt,by go_num,?_,hst,?_,dB hg (eV _ _ _ _)⟩
         ·rw [Nat.add_zero];refine congrArg _ ?_;rw [cV];omega
         ·rw [Nat.add_comm i j,← put_set hzl (by omega),← ints_set]
          exact how.set_ _ _
        case measure =>
         have:=HT.out.2.2.2.1
         clear HT q2 c1
         simp [intOf];omega
       ·have c1:(x:Int)-((t:Int)*(v:Int)+bo)%1000000000<0:=by omega
        clear q1
        go_wp2
        go_roundw
        case rel =>
         obtain ⟨hst,how,hg,hlt,hpI,_,hzl,hul⟩:=HT.out
         refine ⟨i+1,p/B9+1,zs ++ [r],hlt,by go_num,?_,hst,?_,dB hg (eV _ _ _ _)⟩
         ·refine congrArg _ ?_;rw [cV];omega
         ·rw [Nat.add_comm i j,← put_set hzl (by omega),← ints_set]
          exact how.set_ _ _
        case measure =>
         have:=HT.out.2.2.2.1
         clear HT q2 c1
         simp [intOf];omega
      ·obtain rfl:nv=i:=by omega
       have hd0:=HE.out.2.2.2.2.2.2.2.2.2.2.1
       have hc0:=how.cell (i:=j+nv) (ints_get (by rw [put_get (by rw [htk.1];exact Nat.le_refl _) (by omega)];exact hd0))
       have hf0:=how.frozen (j+nv)
       have hne:¬ gq=gu:=by have:=HS.out.2.2.2.2.1;omega
       have hne2:¬ gu=gq:=by omega
       have hbq6:=HE.out.2.1.below HB6.out HE.out.2.1.lt
       have hbq:Bi wr gq 3 qs:=(hg.block gq hbq6.lt (by intro e;injection e with e;exact hne e)).trans hbq6
       have hqlen:qs.length=L:=HE.out.1.2.2.2.1
       have hjL:j<L:=by have:=HS.out.2.2.2.2.2.2.1;omega
       obtain ⟨zq,hcq⟩:∃ z:Int,wr.cell? ⟨gq,j,none⟩=some (.int .i64 z):=⟨_,hbq.cell_get (by omega)⟩
       have hfq:=hbq.frozen j
       have htv:=htk.2.2.2
       rw [List.take_of_length_le (l:=vs) (by rw [HV.out.1.len];exact Nat.le_refl _)] at htv
       have hU:val B9 ((us.drop j).take (nv+1))=val B9 ((us.drop j).take nv)+B9^nv*d0:=by
        have hk:nv<(us.drop j).length:=by simp;omega
        rw [aF _ _ _ hk]
        have:(us.drop j)[nv]=d0:=by
         have h1:(us.drop j)[nv]?=some d0:=by rw [List.getElem?_drop];exact hd0
         rw [List.getElem?_eq_getElem hk] at h1
         injection h1
        rw [this]
       have hxT:=bV htk.2.1
       rw [htk.1] at hxT
       have hVle:=HE.out.2.2.2.2.2.1
       have hV0:0<val B9 vs:=by
        rcases Nat.eq_zero_or_pos (val B9 vs) with e|e
        ·exfalso
         have:=HE.out.2.2.2.2.2.2.1.2.2
         rw [e,Nat.zero_mul] at this
         omega
        ·exact e
       have hgd:=HE.out.2.2.2.2.2.2.2.2.1
       have htake:=take_ok (u:=val B9 ((us.drop j).take (nv+1))) (v:=val B9 vs) (h:=d0) (t:=t) (bor:=bo) hU htv hxT hVle hgd.1 hgd.2.1 hV0
       have hstep:=fun (ws:List Nat) (h1:ws.length=nv+1) (h2:Dig B9 ws) (h3:val B9 ws=val B9 ((us.drop j).take (nv+1))%val B9 vs)=>HE.out.1.step hjL hVle hV0 h1 h2 h3
       have bd : (d0 : Int) ≤ 999999999 := by have:d0<1000000000:=HE.out.1.1.at_ hd0
                                              omega
       have bb : (bo : Int) ≤ 1000000000 := by have:bo≤1000000000:=htk.2.2.1
                                               omega
       have a1:(j:Int)<L:=by omega
       have a2:(j:Int)+nv<(n:Int)+1:=by omega
       by_cases hbr:d0<bo
       ·obtain ⟨k1,k2⟩:=htake.2 hbr
        have ht0:0<t:=by rw [k1];exact Nat.succ_pos _
        have ht1:(1:Int)≤t:=by omega
        have c1:(d0:Int)-bo<0:=by omega
        have HC:=Lib.hid (And.intro htk (And.intro how (And.intro hg (And.intro hbq (And.intro hstep (And.intro hU (And.intro htv (And.intro k1 (And.intro k2 (And.intro hxT (And.intro hVle (And.intro hV0 (And.intro hbk (And.intro hul (And.intro hqlen hjL)))))))))))))))
        have HCq:=Lib.hid (And.intro hcq hfq)
        clear htk how hg hbq hstep hU htv k1 k2 hxT hVle hV0 hbk hul hqlen hjL htake hgd hd0 hbq6 hbr hjn hb6 hs6 hgu1 hi hlt hcq hfq
        have htT:t<1000000000:=HE.out.2.2.2.2.2.2.2.2.2.1
        clear ht0
        go_wp2
        go_loopw [19,20] (fun cv iv wr => ∃ (i cy:Nat) (ws:List Nat),i≤nv∧iv = .int .i64 (i:Int)∧cv = .int .i64 (cy:Int)∧BackK (put us j zs) vs ws j i cy∧Ow wr gu cu ((ints (put (put us j zs) j ws)).set (j+nv) ((d0:Int)-bo))∧w6.grownBy wr (some gu)) (fun _ iv _=>nv-(intOf iv).toNat)
        case atStart=>exact ⟨0,0,[],Nat.zero_le _,rfl,rfl,⟨rfl,Dig.nil _,by omega,by simp [val]⟩,by rw [put_nil];exact HC.out.2.1.set_ _ _,dB HC.out.2.2.1 (eV _ _ _ _)⟩
        case round =>
         obtain ⟨i,cy,ws,hi,rfl,rfl,hbk4,how,hg⟩:=hrel
         have hgu1:=HS.out.2.2.2.2.2.1
         have hb6:Below B1 w1 w6:=HE.out.2.2.2.1.trans (HB6.out.mono (Nat.le_trans hgu1 (Nat.le_of_lt HE.out.2.2.1.lt)))
         have hs6:B1≤w6.heap.size:=Nat.le_trans hgu1 (Nat.le_trans (Nat.le_of_lt HE.out.2.2.1.lt) HB6.out.size)
         have hbk:Below B1 w1 wr:=hb6.grown hg hs6 (fun b hb=>by injection hb with hb;omega)
         have hul:=HE.out.2.2.2.2.1
         have hzl:=HC.out.1.1
         have hpl:(put us j zs).length=us.length:=dC (by omega)
         have hpd:Dig B9 (put us j zs):=put_dig9 HE.out.1.1 HC.out.1.2.1
         by_cases hlt:i<nv
         ·obtain ⟨adv,v,rfl,_,hv,hcv'⟩:=(HV.out.1.below (by rw [← HN.out.2.2];exact hbk)).at_ (k:=i) hlt
          obtain ⟨x,hx⟩:∃ x,(put us j zs)[j+i]?=some x:=⟨_,List.getElem?_eq_getElem (by omega)⟩
          have hcx:=how.cell (i:=i+j) (z:=(x:Int)) (by rw [List.getElem?_set_ne (by omega)];exact ints_get (by rw [Nat.add_comm i j,put_get (by rw [hbk4.1];exact Nat.le_refl _) (by omega)];exact hx))
          have hfx:=how.frozen (i+j)
          have bx:x<1000000000:=hpd.at_ hx
          have bv:v<1000000000:=HV.out.2.1.at_ hv
          have bc:cy≤1:=hbk4.2.2.1
          have hst:=hbk4.step hx hv rfl (by rw [cV];exact bx) (by rw [cV];exact bv)
          have b1:(x:Int)≤999999999:=by omega
          have b2:(v:Int)≤999999999:=by omega
          have b3:(cy:Int)≤1:=by omega
          have a1:(i:Int)<nv:=by omega
          have a2:(i:Int)+j<(n:Int)+1:=by omega
          have HT:=Lib.hid (And.intro hst (And.intro how (And.intro hg (And.intro hlt (And.intro hbk4.1 (And.intro hul hpl))))))
          clear hst hlt hbk4 hx hv bx bv bc hb6 hs6 hbk hul hgu1 hi hzl hpl hpd
          go_wp2
          go_quiet (fail)
          have HW:=Lib.hid (show Ow (wr.drewN nq) gu cu ((ints (put (put us j zs) j ws)).set (j+nv) ((d0:Int)-bo))∧w6.grownBy (wr.drewN nq) (some gu) from ⟨how,⟨hg.os,hg.tape,hg.output,hg.size,hg.block⟩⟩)
          have hcx2:(wr.drewN nq).cell? ⟨gu,i+j,none⟩=some (.int .i64 (x:Int)):=hcx
          have hfx2:(wr.drewN nq).frozen? ⟨gu,i+j,none⟩=false:=hfx
          clear how hg hcx hfx hcv'
          generalize wr.drewN nq=w8 at *
          go_wp2
          go_roundw
          case rel =>
           obtain ⟨hst,_,_,hlt,hwl,hul,hpl⟩:=HT.out
           obtain ⟨how,hg⟩:=HW.out
           have er:((x:Int)+v+cy)%1000000000=(((x+v+cy)%B9:Nat):Int):=by rw [cV];omega
           have eq' : ((x:Int)+v+cy)/1000000000=(((x+v+cy)/B9:Nat):Int):=by rw [cV];omega
           refine ⟨i+1,(x+v+cy)/B9,ws ++ [(x+v+cy)%B9],hlt,by go_num,by rw [← eq'],hst,?_,dB hg (eV _ _ _ _)⟩
           rw [er,Nat.add_comm i j,← put_set hwl (by omega),← ints_set,List.set_comm _ _ (by omega)]
           exact how.set_ _ _
          case measure =>
           have:=HT.out.2.2.2.1
           clear HT HW hcx2 hfx2
           simp [intOf];omega
         ·obtain rfl:nv=i:=by omega
          obtain ⟨htk,_,_,_,hstep,hU,htv,k1,k2,hxT,hVle,hV0,_,_,hqlen,hjL⟩:=HC.out
          have hb4:=hbk4.2.2.2
          have hzw:((put us j zs).drop j).take nv=zs:=by
           have h1:=put_window (ys:=us) (zs:=zs) (o:=j) (by rw [hzl];omega)
           rw [hzl] at h1
           exact h1
          rw [hzw,List.take_of_length_le (l:=vs) (by rw [HV.out.1.len];exact Nat.le_refl _)] at hb4
          have hwT:=bV hbk4.2.1
          rw [hbk4.1] at hwT
          obtain ⟨r1,r2,r3⟩:=back_ok hU htv k1 k2 hb4 hwT hVle hV0 hbk4.2.2.1
          have hc0:=how.cell (i:=j+nv) (z:=(d0:Int)-bo) (List.getElem?_set_self (by rw [List.length_map,dC (by rw [hbk4.1,hpl];omega),hpl];omega))
          have hf0:=how.frozen (j+nv)
          have hbq6:=HE.out.2.1.below HB6.out HE.out.2.1.lt
          have hbq:Bi wr gq 3 qs:=(hg.block gq hbq6.lt (by intro e;injection e with e;exact hne e)).trans hbq6
          obtain ⟨zq,hcq⟩:∃ z:Int,wr.cell? ⟨gq,j,none⟩=some (.int .i64 z):=⟨_,hbq.cell_get (by omega)⟩
          have hfq:=hbq.frozen j
          have ez:(d0:Int)-bo+cy=0:=by omega
          have h1:=hstep (ws ++ [0]) (by simp [hbk4.1]) (hbk4.2.1.app (Dig.cons cN (Dig.nil _))) (by rw [cR,Nat.mul_zero,Nat.add_zero];exact r1)
          have hq1:val B9 ((us.drop j).take (nv+1))/val B9 vs=t-1:=by rw [k1,Nat.add_sub_cancel]
          rw [hq1] at h1
          have b3:(cy:Int)≤1:=by omega
          have HD:=Lib.hid (And.intro h1 (And.intro how (And.intro hbq (And.intro hbk (And.intro hbk4.1 (And.intro hul (And.intro hzl (And.intro hpl hjL))))))))
          clear h1 how hbq hbk hul hzl hpl hjL hstep hU htv k1 k2 hxT hVle hV0 hqlen htk hb4 hzw hwT r1 r2 r3 hbq6 hq1 hbk4 hg hb6 hs6 hgu1 hi hpd hlt
          go_wp2
          go_roundw
          case rel =>
           obtain ⟨h1,how,hbq,hbk,hwl,hul,hzl,hpl,hjL⟩:=HD.out
           refine ⟨j,put us j (ws ++ [0]),qs.set j (t-1),Nat.le_of_lt hjL,by go_num,h1,?_,?_,(hbk.setCell (by show B1≤gu;exact HS.out.2.2.2.2.2.1) _).setCell (by show B1≤gq;have:=HS.out.2.2.2.2.1;have:=HS.out.2.2.2.2.2.1;omega) _⟩
           ·have e1:(t:Int)-1=((t-1:Nat):Int):=by omega
            rw [e1]
            exact (hbq.far (by show gq≠gu;exact hne) _).set_ _ _
           ·refine Ow.far ?_ (by show gu≠gq;exact hne2) _
            have h2:=how.set_ (j+nv) 0
            rw [List.set_set,ints_set0,put_set hwl (by rw [hpl,hul];have:=HS.out.2.2.2.2.2.2.1;omega),put_put9 (by simp only [List.length_append,List.length_singleton,hwl];have:=HS.out.2.2.2.2.2.2.1;omega) (by simp only [List.length_append,List.length_singleton,hwl,hzl];omega)] at h2
            exact h2
          case measure =>
           clear HD
           simp [intOf]
       ·obtain ⟨k1,k2,k3⟩:=htake.1 (by omega)
        have ez:(d0:Int)-bo=0:=by omega
        have HC:=Lib.hid (And.intro htk (And.intro how (And.intro hg (And.intro hbq (And.intro hstep (And.intro k1 (And.intro k2 (And.intro hbk (And.intro hul hjL)))))))))
        clear htk how hg hbq hstep hU htv k1 k2 k3 hxT hVle hV0 hbk hul hqlen hjL htake hgd hd0 hbq6 hbr hjn hb6 hs6 hgu1 hi hlt
        go_wp2
        go_roundw
        case rel =>
         obtain ⟨htk,how,hg,hbq,hstep,k1,k2,hbk,hul,hjL⟩:=HC.out
         have h1:=hstep (zs ++ [0]) (by simp [htk.1]) (htk.2.1.app (Dig.cons cN (Dig.nil _))) (by rw [cR,Nat.mul_zero,Nat.add_zero];exact k2)
         rw [← k1] at h1
         refine ⟨j,put us j (zs ++ [0]),qs.set j t,Nat.le_of_lt hjL,by go_num,h1,(hbq.far (by show gq≠gu;exact hne) _).set_ _ _,?_,(hbk.setCell (by show B1≤gu;exact HS.out.2.2.2.2.2.1) _).setCell (by show B1≤gq;have:=HS.out.2.2.2.2.1;have:=HS.out.2.2.2.2.2.1;omega) _⟩
         refine Ow.far ?_ (by show gu≠gq;exact hne2) _
         rw [← put_set htk.1 (by have:=HC.out.2.2.2.2.2.2.2.2.2;have:=HS.out.2.2.2.2.2.2.1;omega),← ints_set0]
         exact how.set_ _ _
        case measure =>
         clear HC
         simp [intOf]
def SubI (xs ys zs:List Nat) (k bo:Nat):Prop:=bo≤1∧Dig B9 zs∧zs.length=k∧val B9 zs+val B9 (ys.take k)=val B9 (xs.take k)+B9^k*bo
theorem SubI.nil (xs ys:List Nat):SubI xs ys [] 0 0:=⟨by omega,Dig.nil _,rfl,by simp [val]⟩
theorem SubI.step {xs ys zs:List Nat} {k bo r q:Nat} (h:SubI xs ys zs k bo) (hr:r<1000000000) (hq:q≤1) (e:r+ys.getD k 0+bo=xs.getD k 0+1000000000*q):SubI xs ys (zs ++ [r]) (k+1) q:=by
 obtain ⟨h1,h2,h3,h4⟩:=h
 refine ⟨hq,h2.app (Dig.cons (by rw [cV];exact hr) (Dig.nil _)),by simp [h3],?_⟩
 rw [cR,h3,val_take_getD,val_take_getD,Nat.pow_succ]
 rw [← cV] at e
 generalize xs.getD k 0=x at *
 generalize ys.getD k 0=y at *
 clear hr hq h2 h3 h1
 generalize B9=V at *
 grind
theorem SubI.finish {xs ys zs:List Nat} {k bo:Nat} (h:SubI xs ys zs k bo) (h1:xs.length=k) (h2:ys.length≤k) (hle:val B9 ys≤val B9 xs):val B9 zs=val B9 xs-val B9 ys:=by
 obtain ⟨_,hd,hl,h4⟩:=h
 rw [List.take_of_length_le h2,List.take_of_length_le (by omega)] at h4
 have hz:=bV hd
 rw [hl] at hz
 have hb:bo=0:=by
  rcases Nat.eq_zero_or_pos bo with e|e
  ·exact e
  ·exfalso
   have:B9^k*1≤B9^k*bo:=Nat.mul_le_mul_left _ e
   omega
 rw [hb] at h4
 omega
set_option maxHeartbeats 1000000 in
set_option maxRecDepth 100000 in
theorem subDigits_any (A:Option Addr) (n c:Nat) (xs:List Nat) (A' : Option Addr) (n' c' : Nat) (ys:List Nat) (w:World) (h:Ri w A n c xs) (h' : Ri w A' n' c' ys)
 (hd:Dig B9 xs) (hd' : Dig B9 ys) (hn:n≤2199023255552) (hn' : n'≤n) (hle:val B9 ys≤val B9 xs) :
 Calls Tryz.prog 214 #[.slice A n c,.slice A' n' c'] w (GivesDi w (val B9 xs-val B9 ys)):=by
 have HX:=Lib.hid (And.intro h hd)
 have HY:=Lib.hid (And.intro h' hd')
 have HN:=Lib.hid (And.intro hn (And.intro hn' hle))
 have hnc:n≤c:=h.cap
 have hcm:c≤9223372036854775807:=h.2.2.1
 have hnc' : n'≤c':=h'.cap
 have hcm' : c'≤9223372036854775807:=h'.2.2.1
 obtain ⟨i0,hi,hz0,hz1,hz2⟩:=info_parts info_int3
 have HI:=Lib.hid (And.intro hi (And.intro hz0 (And.intro hz1 hz2)))
 clear h h' hd hd' hi hz0 hz1 hz2 hle
 go_enter Tryz.func214,Tryz.ntmps214
 go_wp2
 go_loopw [5,6,7] (fun ov cv iv wr => ∃ (k cy:Nat) (zs:List Nat),k≤n∧iv = .int .i64 (k:Int)∧cv = .int .i64 (cy:Int)∧SubI xs ys zs k cy∧wr.ownsRow w.heap.size 3 1 ov k (zs.map eH)∧Below w.heap.size w wr) (fun _ _ iv _=>n-(intOf iv).toNat)
 case atStart=>exact ⟨0,0,[],Nat.zero_le _,rfl,rfl,SubI.nil _ _,⟨rfl,.inl ⟨rfl,rfl⟩⟩,Below.refl _ _⟩
 case round =>
  obtain ⟨k,cy,zs,hk,rfl,rfl,hinv,hrow,hb⟩:=hrel
  by_cases hgo:k<n
  ·have b1:(k:Int)<n:=by omega
   have hk1:(k:Int)+1≤2199023255552:=by have:=HN.out;omega
   have hkB:k≤2199023255999:=by have:=HN.out;omega
   obtain ⟨ad,x,rfl,_,hx,hcx⟩:=(HX.out.1.below hb).at_ (k:=k) hgo
   obtain ⟨y,hy⟩:∃ y,y=ys.getD k 0:=⟨_,rfl⟩
   have bx:x<1000000000:=HX.out.2.at_ hx
   have by' : y<1000000000:=by rw [hy];exact HY.out.2.get0 cN k
   have bc:cy≤1:=hinv.1
   obtain ⟨d,s,r,q,e1,e2,e3,e4,hr,hq,hs,he⟩:=subFacts bx by' bc
   have hst:SubI xs ys (zs ++ [r]) (k+1) q:=hinv.step hr hq (by rw [← hy,getD_get hx];exact he)
   have cd':=Lib.hid (fun w' (hb' : Below w.heap.size w w')=>digit_any A' n' c' ys k w' (HY.out.1.below hb'))
   rw [← hy] at cd'
   have HS:=Lib.hid (And.intro hst (And.intro hrow (And.intro hb (And.intro hgo (And.intro hinv.2.2.1 hkB)))))
   clear hst hrow hk hinv hx hy hr hq bx by' bc hgo he
   go_wp2
   go_quiet ((go_at_call 248;exact Calls.quiet_of_same ((cd'.out _ (by first|exact hb|exact cA hb _)).mono fun _ _ h=>⟨h.1,h.2.symm⟩)))
   have hb2:=cA hb nq
   have hrow2:(wr.drewN nq).ownsRow w.heap.size 3 1 _ k (zs.map eH):=HS.out.2.1
   have HB:=Lib.hid (And.intro hrow2 hb2)
   clear hb hcx hb2 hrow2
   generalize wr.drewN nq=w2 at *
   rcases hs with ⟨rfl,rfl⟩|⟨hs1,hs2,hs3,rfl⟩
   ·have c1:¬ (r:Int)<0:=not_neg r
    go_wp2_with (at_builtin;refine gG (r:=r) rfl _ _ rfl rfl HB.out.1 rfl HS.out.2.2.2.2.2 HB.out.2 (Nat.le_refl _) HB.out.2.size ?_)
    intro v' w3 hr3 hbw _
    have HX3:=Lib.hid (And.intro hr3 hbw)
    clear hr3 hbw
    go_wp2
    go_roundw
    case rel=>exact ⟨k+1,0,zs ++ [r],HS.out.2.2.2.1,by first|rfl|go_num|simp,rfl,HS.out.1,by rw [List.map_append];exact HX3.out.1,HX3.out.2⟩
    case measure =>
     have:=HS.out.2.2.2.1
     clear e1 e2 e3 e4 HX3 HS HB
     simp [intOf];omega
   ·have hs4:decide (s<0)=true:=decide_eq_true hs1
    clear hs1
    go_wp2_with (at_builtin;refine gG (r:=r) rfl _ _ rfl rfl HB.out.1 rfl HS.out.2.2.2.2.2 HB.out.2 (Nat.le_refl _) HB.out.2.size ?_)
    intro v' w3 hr3 hbw _
    have HX3:=Lib.hid (And.intro hr3 hbw)
    clear hr3 hbw
    go_wp2
    go_roundw
    case rel=>exact ⟨k+1,1,zs ++ [r],HS.out.2.2.2.1,by first|rfl|go_num|simp,rfl,HS.out.1,by rw [List.map_append];exact HX3.out.1,HX3.out.2⟩
    case measure =>
     have:=HS.out.2.2.2.1
     clear e1 e2 e3 e4 HX3 HS HB hs2 hs3 hs4
     simp [intOf];omega
  ·obtain ⟨A2,c2,rfl,hri⟩:=row_ri' hrow
   have hkn:n=k:=by omega
   have hv:=hinv.finish (by rw [HX.out.1.len];exact hkn) (by rw [HY.out.1.len];omega) HN.out.2.2
   have HF:=Lib.hid (And.intro hri (And.intro hinv.2.1 (And.intro hv hb)))
   have b1:¬ (k:Int)<n:=by omega
   clear hri hinv hv hb hk hgo hrow
   go_wp2_with (go_at_call 211;refine (trim_any _ _ _ _ _ HF.out.1 HF.out.2.1).mono ?_;rintro e w' ⟨⟨v,rfl,hv⟩,rfl⟩)
   go_ret
   exact ⟨v,rfl,by rw [← HF.out.2.2.1];exact hv,HF.out.2.2.2⟩
theorem Di.nil (w:World):Di w (.slice none 0 0) 0:=⟨none,0,0,[],rfl,Ri.nil,Dig.nil _,Norm.nil,rfl⟩
theorem ri_one {w:World} {g:Nat} {f:Nat} (h:w.heap[g]?=some (.cells #[.int .i64 (f:Int)] 3 (0,0))):Ri w (some ⟨g,0,none⟩) 1 1 [f]:=Bi.rd (ys := [f]) h (by show 1≤9223372036854775807;omega)
set_option maxHeartbeats 1000000 in
set_option maxRecDepth 100000 in
theorem divDigits_any (A:Option Addr) (n c:Nat) (xs:List Nat) (A' : Option Addr) (n' c' : Nat) (ys:List Nat) (w:World) (h:Ri w A n c xs) (h' : Ri w A' n' c' ys)
 (hd:Dig B9 xs) (hd' : Dig B9 ys) (hx:Norm xs) (hy:Norm ys) (hn:n≤1099511627776) (h0:0<n') :
 Calls Tryz.prog 162 #[.slice A n c,.slice A' n' c'] w (GivesDi2 w (val B9 xs/val B9 ys) (val B9 xs%val B9 ys)):=by
 have hnc:n≤c:=h.cap
 have hcm:c≤9223372036854775807:=h.2.2.1
 have hnc' : n'≤c':=h'.cap
 have hcm' : c'≤9223372036854775807:=h'.2.2.1
 rcases Nat.lt_or_ge (val B9 xs) (val B9 ys) with hlt|hge
 ·have cc:=Lib.hid (fF A n c xs A' n' c' ys w h h' hd hd' hx hy)
  rw [cmpI_lt hlt] at cc
  have HX:=Lib.hid (And.intro h (And.intro hd (And.intro hx hlt)))
  clear h h' hd hd' hx hy hlt
  go_enter Tryz.func162,Tryz.ntmps162
  go_wp2_with fail
  refine cc.out.mono ?_
  rintro e w0 ⟨rfl,hb0⟩
  go_wp2
  go_ret2
  refine ⟨_,_,rfl,?_,?_,hb0⟩
  ·rw [Nat.div_eq_of_lt HX.out.2.2.2];exact Di.nil _
  ·rw [Nat.mod_eq_of_lt HX.out.2.2.2];exact ⟨A,n,c,xs,rfl,HX.out.1.below hb0,HX.out.2.1,HX.out.2.2.1,rfl⟩
 ·rcases Nat.lt_or_ge 1 n' with h1|h1
  ·exact divLong_any A n c xs A' n' c' ys w h h' hd hd' hx hy hn h1 hge
  ·obtain rfl:n'=1:=by omega
   obtain ⟨ad',y,rfl,hblk',hyt,hcy⟩:=h'.at_ (k:=0) (by omega)
   have hyy:ys = [y]:=by
    have hl:=h'.len
    match ys,hl,hyt with
    | [a],_,hy=>simp at hy;rw [hy]
   subst hyy
   have hyv:val B9 [y]=y:=by simp [val]
   have hyl:y<1000000000:=hd'.at_ hyt
   have hy0:0<y:=by
    rcases Nat.eq_zero_or_pos y with e|e
    ·exfalso;subst e;exact hy (by simp) rfl
    ·exact e
   have hc1:¬ bZ (val B9 xs) (val B9 [y])<0:=by unfold bZ;rw [if_neg (by omega)];split <;> omega
   obtain ⟨z,hz⟩:∃ z:Int,bZ (val B9 xs) (val B9 [y])=z:=⟨_,rfl⟩
   have cc:=Lib.hid (fF A n c xs (some ad') 1 c' [y] w h h' hd hd' hx hy)
   have cd:=Lib.hid (fun W (hb:Below w.heap.size w W)=>divDigit_any A n c xs y W (h.below hb) hd (by omega) hy0 hyl)
   rw [hz] at cc hc1
   rw [hyv]
   have hz0:decide (z<0)=false:=decide_eq_false hc1
   have HY:=Lib.hid (And.intro hyl hy0)
   obtain ⟨r,hr⟩:∃ r,r=val B9 xs%y:=⟨_,rfl⟩
   have hrl:r<1000000000:=by rw [hr];exact Nat.lt_trans (Nat.mod_lt _ hy0) hyl
   rw [← hr] at cd ⊢
   have HR:=Lib.hid hrl
   clear h h' hd hd' hx hy hc1 hz hyl hy0 hyv hyt hge hr hrl
   go_enter Tryz.func162,Tryz.ntmps162
   go_wp2_with fail
   refine cc.out.mono ?_
   rintro e w0 ⟨rfl,hb0⟩
   have hcy0:=(hb0.cell (p:=ad'.add 0) (by rw [bN];exact hblk')).trans hcy
   have hcy1:w0.cell? ad'=some (.int .i64 (y:Int)):=by simpa [Addr.add] using hcy0
   clear hcy hcy0
   go_wp2_with fail
   refine (cd.out _ hb0).mono ?_
   rintro e w1 ⟨v,rfl,hv,hb1⟩
   have HV:=Lib.hid (And.intro hv (Below.step_trans' hb0 hb1))
   clear hv hb1 hb0
   have hbN:Below w1.heap.size w1 (w1.alloc (.cells #[.int .i64 (r:Int)] 3)):=(Below.refl _ _).alloc (Nat.le_refl _) _
   have HN:=Lib.hid hbN
   clear hbN
   go_wp2_with (go_at_call 211;refine (trim_any _ _ _ [r] _ (ri_one (heap_alloc_new w1 _)) (Dig.cons HR.out (Dig.nil _))).mono ?_;rintro e w11 ⟨⟨v11,rfl,hv11⟩,rfl⟩)
   go_ret2
   exact ⟨v,v11,rfl,HV.out.1.below HN.out,by simpa [val] using hv11,Below.step_trans' HV.out.2 HN.out⟩
theorem di_divDigits {v v' : Value} {a b:Nat} {w:World} (h:Di w v a) (h' : Di w v' b) (ha:a<B9^1099511627776) (hb:0<b):Calls Tryz.prog 162 #[v,v'] w (GivesDi2 w (a/b) (a%b)):=by
 obtain ⟨A,n,c,xs,rfl,hr,hd,hn,rfl⟩:=h
 obtain ⟨A',n',c',ys,rfl,hr',hd',hn',rfl⟩:=h'
 refine divDigits_any A n c xs A' n' c' ys w hr hr' hd hd' hn hn' ?_ ?_
 ·rw [← hr.len];exact aV eB hn ha
 ·rw [← hr'.len]
  exact List.length_pos_iff.2 (by rintro rfl;simp [val] at hb)
def CommAt (w:World) (T a b k:Nat) (va vb:Value) (wr:World):Prop := ∃ x,Di wr va x∧Di wr vb k∧Nat.gcd x k=Nat.gcd a b∧x<T∧k<T∧Below w.heap.size w wr
set_option maxHeartbeats 1000000 in
set_option maxRecDepth 100000 in
theorem common_any (v v' : Value) (a b:Nat) (w:World) (h:Di w v a) (h' : Di w v' b) (ha:a<B9^1099511627776) (hb:b<B9^1099511627776) :
 Calls Tryz.prog 108 #[v,v'] w (GivesDi w (Nat.gcd a b)):=by
 obtain ⟨T,hT⟩:∃ T,T=B9^1099511627776:=⟨_,rfl⟩
 have HB:=Lib.hid (fun (x y:Nat) (u u' : Value) (W:World) (k:Di W u x) (k' : Di W u' y) (kx:x<T) (ky:0<y)=>di_divDigits k k' (by rw [← hT];exact kx) ky)
 rw [← hT] at ha hb
 clear hT
 have HA:=Lib.hid (And.intro h (And.intro h' (And.intro ha hb)))
 obtain ⟨A,n,c,xs,rfl,hr,hd,hn,rfl⟩:=h
 obtain ⟨A',n',c',ys,rfl,hr',hd',hn',rfl⟩:=h'
 generalize val B9 xs=a at *
 generalize val B9 ys=b at *
 clear hr hd hn hr' hd' hn' ha hb
 go_enter Tryz.func108,Tryz.ntmps108
 go_wp2
 go_loopg [0,1] b (fun k va vb wr=>CommAt w T a b k va vb wr)
 case atStart=>exact ⟨a,HA.out.1,HA.out.2.1,rfl,HA.out.2.2.1,HA.out.2.2.2,Below.refl _ _⟩
 case round =>
  obtain ⟨x,hx,hy,hg,hxT,hyT,hbe⟩:=hrel
  have HR:=Lib.hid (And.intro hx (And.intro hy (And.intro hg (And.intro hxT (And.intro hyT hbe)))))
  obtain ⟨A',n',c',ys,rfl,hr',hd',hn',hv'⟩:=hy
  rcases Nat.eq_zero_or_pos n' with h0|h0
  ·subst h0
   have hk:gk=0:=by
    rw [← hv',List.eq_nil_of_length_eq_zero hr'.len];rfl
   obtain ⟨A2,n2,c2,zs,rfl,hr2,hd2,hn2,hv2⟩:=hx
   have HK:=Lib.hid hk
   clear hg hxT hyT hbe hr' hd' hn' hv' hk hr2 hd2 hn2 hv2
   go_wp2
   go_ret
   obtain ⟨hx,hy,hg,hxT,hyT,hbe⟩:=HR.out
   refine ⟨_,rfl,?_,hbe⟩
   rw [← hg,HK.out,Nat.gcd_zero_right]
   exact hx
  ·have k1:(0:Int)<n':=by omega
   have hkp:0<gk:=by
    rw [← hv']
    exact hn'.pos cN (by rintro rfl;have:=hr'.len;simp at this;omega)
   have HK:=Lib.hid hkp
   obtain ⟨A2,n2,c2,zs,rfl,hr2,hd2,hn2,hv2⟩:=hx
   clear hg hxT hyT hbe hr' hd' hn' hv' hkp hr2 hd2 hn2 hv2 h0
   go_wp2_with fail
   refine (HB.out x gk _ _ _ HR.out.1 HR.out.2.1 HR.out.2.2.2.1 HK.out).mono ?_
   rintro e w3 ⟨v1,v2,rfl,q1,q2,q3⟩
   obtain ⟨A1,n1,c1,zs1,rfl,_⟩:=id q1
   obtain ⟨A3,n3,c3,zs3,rfl,_⟩:=id q2
   have Q:=Lib.hid (And.intro q2 q3)
   clear q1 q2 q3
   go_wp2
   go_roundg (x%gk)
   case measure=>exact Nat.mod_lt _ HK.out
   case rel =>
    obtain ⟨hx,hy,hg,hxT,hyT,hbe⟩:=HR.out
    exact ⟨gk,hy.below Q.out.2,Q.out.1,by rw [← hg,Nat.gcd_comm gk,Nat.gcd_comm x,Nat.gcd_rec gk x],hyT,Nat.lt_trans (Nat.mod_lt _ HK.out) hyT,Below.step_trans' hbe Q.out.2⟩
def sgz (neg:Bool) (a:Nat):Int:=if neg then -(a:Int) else a
theorem sgz_abs (neg:Bool) (a:Nat):(sgz neg a).natAbs=a:=by cases neg <;> simp [sgz]
theorem sgz_neg (neg:Bool) (a:Nat):decide (sgz neg a<0)=(neg&&decide (0<a)):=by
 cases neg
 ·simp [sgz]
 ·simp [sgz]
theorem signed_any (neg:Bool) (A:Option Addr) (n c:Nat) (xs:List Nat) (w:World) (h:Ri w A n c xs) (hd:Dig B9 xs) :
 Calls Tryz.prog 170 #[.bool neg,.slice A n c] w fun e w' => ∃ v,e = .returned v∧In w' v (sgz neg (val B9 xs))∧Below w.heap.size w w':=by
 have HR:=Lib.hid (And.intro h hd)
 clear h hd
 go_enter Tryz.func170,Tryz.ntmps170
 go_wp2_with fail
 refine (trim_raw A n c xs _ (HR.out.1.below ((Below.refl _ _).alloc (Nat.le_refl _) _))).mono ?_
 rintro e w' ⟨⟨k,⟨hk,hn,hv⟩,rfl⟩,rfl⟩
 have HK:=Lib.hid (And.intro hk (And.intro hn hv))
 clear hk hn hv
 have res:∀ (b:Bool),b=(neg&&decide (0<k))→∀ w' : World,Below w.heap.size w w'→In w' (.agg #[.bool b,.slice A k c]) (sgz neg (val B9 xs)):=by
  intro b hb w' hbel
  obtain ⟨hk,hn,hv⟩:=HK.out
  refine ⟨A,k,c,xs.take k,?_,(HR.out.1.below hbel).take (by rw [← HR.out.1.len];exact hk),HR.out.2.take k,hn,by rw [sgz_abs];exact hv⟩
  rw [sgz_neg,hb]
  have:decide (0<k)=decide (0<val B9 xs):=by
   rw [decide_eq_decide,← hv]
   constructor
   ·intro h0
    refine Nat.pos_of_ne_zero fun he=>?_
    have:=(Norm.zero_iff cN hn).1 he
    have h2:=congrArg List.length this
    rw [List.length_take,List.length_nil] at h2
    omega
   ·intro h0
    refine Nat.pos_of_ne_zero fun he=>?_
    subst he
    simp [val] at h0
  rw [this]
 cases neg
 ·go_wp2
  refine bodyPost_ret (v := .agg #[.bool false,.slice A k c]) (by simp [results,Tryz.results170,go_sem]) rfl ⟨_,rfl,res false (by simp) _ ((Below.refl _ _).alloc (Nat.le_refl _) _),(Below.refl _ _).alloc (Nat.le_refl _) _⟩
 ·by_cases h0:0<k
  ·have c0:(0:Int)<k:=by omega
   go_wp2
   refine bodyPost_ret (v := .agg #[.bool true,.slice A k c]) (by simp [results,Tryz.results170,go_sem]) rfl ⟨_,rfl,res true (by simp [h0]) _ ((Below.refl _ _).alloc (Nat.le_refl _) _),(Below.refl _ _).alloc (Nat.le_refl _) _⟩
  ·have c0:¬ (0:Int)<k:=by omega
   go_wp2
   refine bodyPost_ret (v := .agg #[.bool false,.slice A k c]) (by simp [results,Tryz.results170,go_sem]) rfl ⟨_,rfl,res false (by simp [h0]) _ ((Below.refl _ _).alloc (Nat.le_refl _) _),(Below.refl _ _).alloc (Nat.le_refl _) _⟩
end Go.Proofs.YtofcdondmgojiaaGreatDoor
