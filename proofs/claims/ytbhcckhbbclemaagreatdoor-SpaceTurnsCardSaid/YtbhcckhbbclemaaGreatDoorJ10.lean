/- Parts of the proof, joined. -/
import Derived.Laws.Bits64
import Derived.Laws.Shifts
import Derived.Test.YtbhcckhbbclemaaGreatDoorJ8
import Derived.WalkSpells
import Derived.BigQuiet
import Derived.Deep.QuietTactic
import Derived.Lib.ItoaNum
import Derived.Test.YtbhcckhbbclemaaGreatDoorShelf
import Derived.Test.YtbhcckhbbclemaaGreatDoorJ9
set_option linter.unusedSimpArgs false
set_option linter.unusedVariables false
namespace Go.Proofs.YtbhcckhbbclemaaGreatDoor.Pl
theorem guess_le {u v u3 v2 ul vl M t B:Nat} (hu:u=u3*M+ul) (hv:v=v2*M+vl) (hvl:vl<M) (ht:t*v2≤u3) (htB:t≤B) (hv2:B≤v2):t≤u/v+1:=by
 have hM:0<M:=by omega
 have hBM:B*M≤v2*M:=Nat.mul_le_mul_right _ hv2
 rcases Nat.eq_zero_or_pos t with rfl|ht0
 ·exact Nat.zero_le _
 have hB0:0<B:=by omega
 have hvp:0<v:=by
  have:0<v2*M:=Nat.mul_pos (by omega) hM
  omega
 have h1:(t-1)*v≤u:=by
  have e:t*v=t*v2*M+t*vl:=by rw [hv];grind
  have e1:t*v2*M≤u3*M:=Nat.mul_le_mul_right _ ht
  have e2:t*vl≤B*M:=Nat.mul_le_mul htB (Nat.le_of_lt hvl)
  have e3:(t-1)*v=t*v-v:=by rw [Nat.sub_mul,Nat.one_mul]
  omega
 have:=(Nat.le_div_iff_mul_le hvp).2 h1
 omega
theorem guess_ge {u v u2 v1 ul vl M:Nat} (hu:u=u2*M+ul) (hv:v=v1*M+vl) (hul:ul<M) (hv1:0<v1):u/v≤u2/v1:=by
 have hM:0<M:=by omega
 have hv0:0<v:=by
  have:0<v1*M:=Nat.mul_pos hv1 hM
  omega
 rw [Nat.le_div_iff_mul_le hv1]
 have h:=Nat.div_mul_le_self u v
 have h1:u/v*v=u/v*v1*M+u/v*vl:=by rw [hv];grind
 have h2:u/v*v1*M<(u2+1)*M:=by rw [Nat.add_mul,Nat.one_mul];omega
 have:=Nat.lt_of_mul_lt_mul_right h2
 omega
theorem guess_top {u v v1 ul vl M B:Nat} (hu:v1*B*M≤u) (hv:v=v1*M+vl) (hvl:vl<M) (hb:B≤2*v1) (_hul:0≤ul):B-1≤u/v+1:=by
 have hM:0<M:=by omega
 rcases Nat.lt_or_ge B 2 with h|h
 ·exact Nat.le_trans (by omega:B-1≤1) (Nat.le_add_left 1 _)
 have hv0:0<v:=by
  have:0<v1*M:=Nat.mul_pos (by omega) hM
  omega
 have h1:(B-2)*v≤u:=by
  obtain ⟨c,rfl⟩:=Nat.exists_eq_add_of_le h
  have e : (2 + c - 2) * v = c * v1 * M + c * vl := by rw [hv];have:2+c-2=c:=by omega
                                                       rw [this];grind
  have e2:c*vl≤2*v1*M:=Nat.mul_le_mul (by omega) (Nat.le_of_lt hvl)
  have e3:v1*(2+c)*M=2*v1*M+c*v1*M:=by grind
  omega
 have:=(Nat.le_div_iff_mul_le hv0).2 h1
 omega
theorem take_ok {u v ul T h t x bor:Nat} (hu:u=ul+T*h) (hx:x+t*v=ul+T*bor) (hxT:x<T) (hvT:v≤T) (h0:u/v≤t) (h1:t≤u/v+1) (hv:0<v) :
 (bor≤h→t=u/v∧x=u%v∧bor=h)∧(h<bor→t=u/v+1∧u%v+T=x+v):=by
 have hdm:=Nat.div_add_mod u v
 have hm:=Nat.mod_lt u hv
 generalize u/v=q at *
 generalize u%v=r at *
 have hq:v*q=q*v:=Nat.mul_comm _ _
 constructor
 ·intro hb
  have e:t=q:=by
   rcases Nat.lt_or_ge q t with hlt|hge
   ·exfalso
    have:t=q+1:=by omega
    subst this
    have e1:(q+1)*v=q*v+v:=by grind
    have e2:T*bor≤T*h:=Nat.mul_le_mul_left _ hb
    omega
   ·omega
  subst e
  have e2:T*bor≤T*h:=Nat.mul_le_mul_left _ hb
  rcases Nat.lt_or_ge bor h with hlt|hge
  ·exfalso
   have e3:T*(bor+1)≤T*h:=Nat.mul_le_mul_left _ hlt
   rw [Nat.mul_add,Nat.mul_one] at e3
   omega
  ·have:bor=h:=by omega
   subst this
   exact ⟨rfl,by omega,rfl⟩
 ·intro hb
  have e3:T*(h+1)≤T*bor:=Nat.mul_le_mul_left _ hb
  rw [Nat.mul_add,Nat.mul_one] at e3
  have e:t=q+1:=by
   rcases Nat.lt_or_ge q t with hlt|hge
   ·omega
   ·exfalso
    have:t=q:=by omega
    subst this
    omega
  subst e
  have e1:(q+1)*v=q*v+v:=by grind
  have:bor=h+1:=by
   rcases Nat.lt_or_ge (h+1) bor with hlt|hge
   ·exfalso
    have e4:T*(h+2)≤T*bor:=Nat.mul_le_mul_left _ hlt
    rw [Nat.mul_add] at e4
    omega
   ·omega
  subst this
  rw [Nat.mul_add,Nat.mul_one] at hx
  exact ⟨rfl,by omega⟩
structure Half (U u1 Y v1 v0 Q:Nat):Prop where
 hY:Y=v1*4294967296+v0
 hv0:v0<4294967296
 hv1:2147483648≤v1
 hv1' : v1<4294967296
 hU:U<Y
 hu1:u1<4294967296
 hQ:Q=(U*4294967296+u1)/Y
section
variable {U u1 Y v1 v0 Q:Nat}
theorem Half.q_lt (h:Half U u1 Y v1 v0 Q):Q<4294967296:=by
 have h1:=h.hU
 have h2:=h.hu1
 rw [h.hQ,Nat.div_lt_iff_lt_mul (by omega)]
 omega
theorem Half.le_guess (h:Half U u1 Y v1 v0 Q):Q≤U/v1:=by
 have h1:=h.hv1
 rw [h.hQ]
 exact guess_ge rfl h.hY h.hu1 (by omega)
theorem Half.guess_le (h:Half U u1 Y v1 v0 Q):U/v1≤4294967297:=by
 have h1:=h.hv1
 have h2:=h.hU
 have h3:=h.hv0
 have h4:=h.hY
 have:U/v1<4294967298:=by
  rw [Nat.div_lt_iff_lt_mul (by omega)]
  omega
 omega
theorem Half.le_iff (h:Half U u1 Y v1 v0 Q) {a b:Nat} (hab:a*v1+b=U):a≤Q↔a*v0≤4294967296*b+u1:=by
 have h1:=h.hv1
 have h2:=h.hY
 rw [h.hQ,Nat.le_div_iff_mul_le (by omega)]
 have e:a*Y=a*v1*4294967296+a*v0:=by rw [h2];grind
 rw [e]
 omega
theorem Half.done (h:Half U u1 Y v1 v0 Q) {a b:Nat} (hab:a*v1+b=U) (hq:Q≤a) (ha:a≤4294967296) (hb:4294967296≤b):a=Q:=by
 have h1:=h.hv0
 have:a*v0≤4294967296*4294967296:=Nat.mul_le_mul ha (by omega)
 have:=(h.le_iff hab).2 (by omega)
 omega
theorem Half.rest (h:Half U u1 Y v1 v0 Q):∃ R,R<Y∧U*4294967296+u1=Q*Y+R:=by
 have h1:=h.hv1
 have h2:=h.hY
 refine ⟨(U*4294967296+u1)%Y,Nat.mod_lt _ (by omega),?_⟩
 rw [h.hQ,Nat.mul_comm _ Y,Nat.div_add_mod]
end
theorem halves {N y s U u1 u0 Y Q R Q0 R0:Nat} (hN:N*2^s=(U*4294967296+u1)*4294967296+u0) (hY:Y=y*2^s) (h1:U*4294967296+u1=Q*Y+R) (h0:R*4294967296+u0=Q0*Y+R0) (hR:R0<Y) :
 Q*4294967296+Q0=N/y∧R0/2^s=N%y:=by
 have hp:0<2^s:=Nat.pow_pos (by omega)
 have e:N*2^s=(Q*4294967296+Q0)*Y+R0:=by rw [hN,h1];grind
 have e1:N*2^s/Y=Q*4294967296+Q0:=by
  rw [e,Nat.add_comm,Nat.add_mul_div_right _ _ (by omega),Nat.div_eq_of_lt hR]
  omega
 have e2:N*2^s%Y=R0:=by
  rw [e,Nat.mul_comm _ Y,Nat.mul_add_mod,Nat.mod_eq_of_lt hR]
 constructor
 ·rw [← e1,hY,Nat.mul_div_mul_right _ _ hp]
 ·rw [← e2,hY,Nat.mul_mod_mul_right,Nat.mul_div_cancel _ hp]
end Go.Proofs.YtbhcckhbbclemaaGreatDoor.Pl
namespace Go.Proofs.YtbhcckhbbclemaaGreatDoor
open Go.RowKit Pl
theorem bits_or_nat (a b:Nat) (ha:a<18446744073709551616) (hb:b<18446744073709551616):bits .or .u64 (a:Int) (b:Int)=((a ||| b:Nat):Int):=by
 have hx:a ||| b<2^64:=Nat.or_lt_two_pow (by omega) (by omega)
 have h1:(BitVec.ofInt 64 (a:Int)).toNat=a:=by
  rw [BitVec.ofInt_natCast,BitVec.toNat_ofNat];exact Nat.mod_eq_of_lt (by omega)
 have h2:(BitVec.ofInt 64 (b:Int)).toNat=b:=by
  rw [BitVec.ofInt_natCast,BitVec.toNat_ofNat];exact Nat.mod_eq_of_lt (by omega)
 show IntKind.u64.wrap ((BitVec.ofInt 64 (a:Int) ||| BitVec.ofInt 64 (b:Int)).toNat:Int)=_
 rw [BitVec.toNat_or,h1,h2,IntKind.wrap_u64]
 omega
theorem bits_and_nat (a b:Nat) (ha:a<18446744073709551616) (hb:b<18446744073709551616):bits .and .u64 (a:Int) (b:Int)=((a &&& b:Nat):Int):=by
 have hx:a &&& b<2^64:=Nat.and_lt_two_pow _ (by omega)
 have h1:(BitVec.ofInt 64 (a:Int)).toNat=a:=by
  rw [BitVec.ofInt_natCast,BitVec.toNat_ofNat];exact Nat.mod_eq_of_lt (by omega)
 have h2:(BitVec.ofInt 64 (b:Int)).toNat=b:=by
  rw [BitVec.ofInt_natCast,BitVec.toNat_ofNat];exact Nat.mod_eq_of_lt (by omega)
 show IntKind.u64.wrap ((BitVec.ofInt 64 (a:Int) &&& BitVec.ofInt 64 (b:Int)).toNat:Int)=_
 rw [BitVec.toNat_and,h1,h2,IntKind.wrap_u64]
 omega
theorem and_half (a:Nat) (ha:a<18446744073709551616):bits .and .u64 (a:Int) 4294967295=((a%4294967296:Nat):Int):=by
 have:=bits_and_nat a 4294967295 ha (by omega)
 rw [show ((4294967295:Nat):Int)=4294967295 from rfl] at this
 rw [this,show (4294967295:Nat)=2^32-1 from rfl,Nat.and_two_pow_sub_one_eq_mod]
theorem or_shift (a b s:Nat) (hb:b<2^s) (h:a*2^s+b<18446744073709551616):bits .or .u64 ((a*2^s:Nat):Int) (b:Int)=((a*2^s+b:Nat):Int):=by
 rw [bits_or_nat _ _ (by omega) (by omega),Nat.mul_comm,Nat.two_pow_add_eq_or_of_lt hb]
theorem wrap_nat (a:Nat) (ha:a<18446744073709551616):IntKind.u64.wrap (a:Int)=(a:Int):=by rw [IntKind.wrap_u64];omega
theorem wrap_mod (a:Nat):IntKind.u64.wrap (a:Int)=((a%18446744073709551616:Nat):Int):=by rw [IntKind.wrap_u64];omega
end Go.Proofs.YtbhcckhbbclemaaGreatDoor
namespace Go.Proofs.YtbhcckhbbclemaaGreatDoor
open Pl
theorem W64_pow {s:Nat} (hs:s≤64):W64=2^(64-s)*2^s:=by
 rw [← Nat.pow_add,show 64-s+s=64 from by omega,W64_eq]
theorem shl_parts {x s:Nat} (hs:s≤64):x*2^s%W64=x%2^(64-s)*2^s∧x*2^s%W64+W64*(x/2^(64-s))=x*2^s:=by
 have e:x*2^s%W64=x%2^(64-s)*2^s:=by rw [W64_pow hs,Nat.mul_mod_mul_right]
 refine ⟨e,?_⟩
 rw [e,W64_pow hs]
 have:=Nat.div_add_mod x (2^(64-s))
 generalize x/2^(64-s)=q at *
 generalize x%2^(64-s)=r at *
 generalize 2^(64-s)=P at *
 subst this
 grind
theorem hi_lt {x s:Nat} (hs:s≤64) (hx:x<W64):x/2^(64-s)<2^s:=by
 rw [Nat.div_lt_iff_lt_mul (Nat.pow_pos (by omega)),Nat.mul_comm,← W64_pow hs]
 exact hx
def UpInv (xs zs:List Nat) (s k:Nat):Prop :=
 Dig W64 zs∧zs.length=xs.length+1∧val W64 (zs.take (k+1))=val W64 (xs.take k)*2^s∧zs.getD k 0<2^s
theorem UpInv.start (xs:List Nat) (s:Nat):UpInv xs (List.replicate (xs.length+1) 0) s 0:=by
 refine ⟨Dig.replicate W64_pos _,by simp,?_,?_⟩
 ·rw [List.take_replicate,val_zeros];simp [val]
 ·rw [List.getD,List.getElem?_replicate]
  split <;> exact Nat.pow_pos (by omega)
theorem UpInv.step {xs zs:List Nat} {s k x c:Nat} (h:UpInv xs zs s k) (hs:s≤63) (hx:xs[k]?=some x) (hd:Dig W64 xs) (hc:zs[k]?=some c) :
 UpInv xs ((zs.set k (x*2^s%W64+c)).set (k+1) (x/2^(64-s))) s (k+1)∧c<2^s∧x%2^(64-s)*2^s+c<W64∧x/2^(64-s)<W64:=by
 obtain ⟨h1,h2,h3,h4⟩:=h
 obtain ⟨hk,ex⟩:=List.getElem?_eq_some_iff.1 hx
 obtain ⟨hkz,ez⟩:=List.getElem?_eq_some_iff.1 hc
 have hcl:c<2^s:=by rw [List.getD,hc] at h4;exact h4
 have hxl:=hd.at_ hx
 obtain ⟨p1,p2⟩:=shl_parts (x:=x) (s:=s) (by omega)
 have hlow:x%2^(64-s)*2^s+c<W64:=by
  have hm:x%2^(64-s)<2^(64-s):=Nat.mod_lt _ (Nat.pow_pos (by omega))
  have:(x%2^(64-s)+1)*2^s≤2^(64-s)*2^s:=Nat.mul_le_mul_right _ hm
  rw [← W64_pow (by omega),Nat.add_mul,Nat.one_mul] at this
  omega
 have hhi:x/2^(64-s)<W64:=Nat.lt_of_le_of_lt (Nat.div_le_self _ _) hxl
 have hh2:=hi_lt (s:=s) (by omega) hxl
 refine ⟨⟨(h1.set (by rw [p1];exact hlow)).set hhi,by simp [h2],?_,?_⟩,hcl,hlow,hhi⟩
 ·rw [val_take_succ _ _ _ (by simp;omega),List.take_set_of_le (Nat.le_refl _),List.getElem_set_self,val_take_succ _ _ _ (by simp;omega),List.take_set_of_le (Nat.le_refl _),List.getElem_set_self,
   val_take_succ _ _ _ hk,ex]
  rw [val_take_succ _ _ _ hkz,ez] at h3
  rw [Nat.pow_succ,Nat.add_mul]
  generalize W64^k=P at *
  generalize 2^s=S at *
  have e:x*S=x*S%W64+W64*(x/2^(64-s)):=p2.symm
  generalize x*S%W64=lo at *
  generalize x/2^(64-s)=hi at *
  generalize W64=V at *
  have:P*x*S=P*(x*S):=by grind
  rw [this,e]
  grind
 ·rw [List.getD,List.getElem?_set_self (by simp;omega)]
  exact hh2
theorem UpInv.finish {xs zs:List Nat} {s:Nat} (h:UpInv xs zs s xs.length):val W64 zs=val W64 xs*2^s:=by
 obtain ⟨_,h2,h3,_⟩:=h
 rwa [List.take_of_length_le (by omega),List.take_of_length_le (Nat.le_refl _)] at h3
def DownInv (xs zs:List Nat) (s k:Nat):Prop :=
 Dig W64 zs∧zs.length=xs.length∧val W64 (zs.take k)=val W64 (xs.take k)/2^s∧(0<k→zs.getD (k-1) 0<2^(64-s))
theorem DownInv.start (xs:List Nat) (s:Nat):DownInv xs (List.replicate xs.length 0) s 0 :=
 ⟨Dig.replicate W64_pos _,by simp,by simp [val],fun h=>absurd h (by omega)⟩
theorem down_lt {x s:Nat} (hs:s≤63) (hx:x<W64):x/2^s<2^(64-s):=by
 rw [Nat.div_lt_iff_lt_mul (Nat.pow_pos (by omega)),← W64_pow (by omega)]
 exact hx
theorem DownInv.first {xs zs:List Nat} {s x:Nat} (h:DownInv xs zs s 0) (hs:s≤63) (hx:xs[0]?=some x) (hd:Dig W64 xs):DownInv xs (zs.set 0 (x/2^s)) s 1:=by
 obtain ⟨h1,h2,_,_⟩:=h
 obtain ⟨hk,ex⟩:=List.getElem?_eq_some_iff.1 hx
 have hxl:=hd.at_ hx
 refine ⟨h1.set (Nat.lt_of_le_of_lt (Nat.div_le_self _ _) hxl),by simp [h2],?_,fun _=>?_⟩
 ·rw [val_take_succ _ _ _ (by simp;omega),val_take_succ _ _ _ hk,ex]
  simp [val]
 ·rw [List.getD,List.getElem?_set_self (by omega)]
  exact down_lt hs hxl
theorem DownInv.step {xs zs:List Nat} {s k x c:Nat} (h:DownInv xs zs s (k+1)) (hs:s≤63) (hx:xs[k+1]?=some x) (hd:Dig W64 xs) (hc:zs[k]?=some c) :
 DownInv xs ((zs.set (k+1) (x/2^s)).set k (c+x*2^(64-s)%W64)) s (k+2)∧c<2^(64-s)∧x%2^s*2^(64-s)+c<W64:=by
 obtain ⟨h1,h2,h3,h4⟩:=h
 obtain ⟨hk,ex⟩:=List.getElem?_eq_some_iff.1 hx
 obtain ⟨hkz,ez⟩:=List.getElem?_eq_some_iff.1 hc
 have hcl:c<2^(64-s):=by have:=h4 (by omega);rw [show k+1-1=k from by omega,List.getD,hc] at this;exact this
 have hxl:=hd.at_ hx
 have hW:W64=2^s*2^(64-s):=by rw [Nat.mul_comm];exact W64_pow (by omega)
 have p1:x*2^(64-s)%W64=x%2^s*2^(64-s):=by rw [hW,Nat.mul_mod_mul_right]
 have hlow:x%2^s*2^(64-s)+c<W64:=by
  have hm:x%2^s<2^s:=Nat.mod_lt _ (Nat.pow_pos (by omega))
  have:(x%2^s+1)*2^(64-s)≤2^s*2^(64-s):=Nat.mul_le_mul_right _ hm
  rw [← hW,Nat.add_mul,Nat.one_mul] at this
  omega
 refine ⟨⟨(h1.set (Nat.lt_of_le_of_lt (Nat.div_le_self _ _) hxl)).set (by rw [p1];omega),by simp [h2],?_,fun _=>?_⟩,hcl,hlow⟩
 ·rw [val_take_succ _ _ _ (by simp;omega),List.getElem_set_ne (by omega),List.getElem_set_self,val_take_succ _ _ _ (by simp;omega),List.take_set_of_le (Nat.le_refl _),List.take_set_of_le (by omega),List.getElem_set_self,
   val_take_succ _ _ _ hk,ex,p1]
  rw [val_take_succ _ _ _ hkz,ez] at h3
  have hS:0<2^s:=Nat.pow_pos (by omega)
  have hx2:=Nat.div_add_mod x (2^s)
  have e:W64^(k+1)*x=2^s*(W64^k*(x%2^s*2^(64-s)+W64*(x/2^s))):=by
   rw [Nat.pow_succ]
   generalize x/2^s=q at *
   generalize x%2^s=r at *
   rw [← hx2,hW]
   generalize 2^(64-s)=T at *
   generalize 2^s=S at *
   generalize (S*T)^k=P at *
   grind
  rw [e,Nat.add_mul_div_left _ _ hS,← h3,Nat.pow_succ]
  generalize W64^k=P at *
  generalize W64=V at *
  grind
 ·rw [show k+2-1=k+1 from by omega,List.getD,List.getElem?_set_ne (by omega),List.getElem?_set_self (by omega)]
  exact down_lt hs hxl
end Go.Proofs.YtbhcckhbbclemaaGreatDoor
namespace Go.Proofs.YtbhcckhbbclemaaGreatDoor
open Go.RowKit Pl
set_option maxHeartbeats 4000000 in
set_option maxRecDepth 100000 in
theorem div64_core (hi lo y s Y H U L u1 u0 v1 v0 q p r Q R Q0 R0 A A2 B q' p' r' C C2 D D2 E F:Nat) (w:World) (h1:0<hi) (h2:hi<y) (h3:y≤18446744073709551615) (_h4:lo≤18446744073709551615)
 (hs:Hid ((64:Int)-Lib.bitLen y=s)) (hs' : s≤63)
 (e1:IntKind.u64.wrap ((y:Int)*2^s)=(Y:Int)) (e2:(Y:Int)/4294967296=(v1:Int)) (e3:bits .and .u64 (Y:Int) 4294967295=(v0:Int))
 (e4:IntKind.u64.wrap ((hi:Int)*2^s)=(H:Int)) (e5:bits .or .u64 (H:Int) ((lo:Int)/2^(64-s))=(U:Int)) (e6:IntKind.u64.wrap ((lo:Int)*2^s)=(L:Int))
 (e7:(L:Int)/4294967296=(u1:Int)) (e8:bits .and .u64 (L:Int) 4294967295=(u0:Int)) (e9:(U:Int).tdiv v1=q) (e9' : (U:Int)/v1=q) (e10:(q:Int)*v1=p) (e11:(U:Int)-p=r)
 (hh:Hid (Half U u1 Y v1 v0 Q∧Half R u0 Y v1 v0 Q0∧q*v1+r=U∧q=U/v1∧q'*v1+r'=R∧q'=R/v1∧r<4294967296∧r'<4294967296))
 (k1:IntKind.u64.wrap ((U:Int)*4294967296)=A) (k2:IntKind.u64.wrap ((A:Int)+u1)=A2) (k3:IntKind.u64.wrap ((Q:Int)*Y)=B) (k4:IntKind.u64.wrap ((A2:Int)-B)=R)
 (k5:(R:Int).tdiv v1=q') (k5' : (R:Int)/v1=q') (k6:(q' : Int)*v1=p') (k7:(R:Int)-p'=r')
 (k8:IntKind.u64.wrap ((Q:Int)*4294967296)=C) (k9:IntKind.u64.wrap ((C:Int)+Q0)=C2) (k10:IntKind.u64.wrap ((R:Int)*4294967296)=D) (k11:IntKind.u64.wrap ((D:Int)+u0)=D2)
 (k12:IntKind.u64.wrap ((Q0:Int)*Y)=E) (k13:IntKind.u64.wrap ((D2:Int)-E)=R0) (k14:(R0:Int)/2^s=F)
 (b1:0<v1) (b2:v1≤4294967295) (b3:U≤18446744073709551615) (b4:R≤18446744073709551615) (b5:u1≤4294967295) (b6:u0≤4294967295) (b7:v0≤4294967295) (b8:q≤4294967297) (b9:q'≤4294967297) (_b10:p≤U) (_b11:p'≤R) (b12:Q≤4294967295) (b13:Q0≤4294967295) :
 Calls Tryz.prog 210 #[.int .u64 (hi:Int),.int .u64 (lo:Int),.int .u64 (y:Int)] w fun e w'=>Hid (e = .returned (.tuple #[.int .u64 (C2:Int),.int .u64 (F:Int)]))∧∃ k,w'=w.drewN k:=by
 have cl:=Lib.hid (Tryz.bits_LeadingZeros64 (y:Int) w (by omega) (by omega))
 have t1:((y:Int)==0)=false:=by simp;omega
 have t2:¬ ((y:Int)≤hi):=by omega
 have t3:((hi:Int)==0)=false:=by simp;omega
 go_enter Tryz.func210,Tryz.ntmps210
 go_wp2_with (go_at_call 207;refine (cl.out).mono ?_;rintro e w' ⟨rfl,hw⟩;rw [hw];rw [Int.toNat_natCast,hs.out])
 go_loop [15,16] (fun sa sb => ∃ a b:Nat,sa = .int .u64 (a:Int)∧sb = .int .u64 (b:Int)∧Hid (a*v1+b=U)∧Q≤a∧a≤4294967297∧b≤4294967295) (fun sa _=>(intOf sa).toNat)
 case atStart =>
  have hf:=hh.out.1
  refine ⟨q,r,rfl,rfl,hh.out.2.2.1,?_,by omega,?_⟩
  ·have:=hf.le_guess
   have e:=hh.out.2.2.2.1
   omega
  ·have:=hh.out.2.2.2.2.2.2
   omega
 case round =>
  obtain ⟨a,b,rfl,rfl,hab,ha1,ha2,hb1⟩:=hrel
  obtain ⟨m,hm⟩:∃ m:Nat,(a:Int)*v0=m:=⟨a*v0,by simp⟩
  have hiff:Hid (a≤Q↔m≤4294967296*b+u1):=by
   have:=(hh.out.1).le_iff hab.out
   have e:m=a*v0:=by have:=hm;rw [← Int.natCast_mul] at this;omega
   rw [e];exact this
  have hm2:a≤4294967295→m≤18446744073709551615:=by
   intro h
   have e:m=a*v0:=by have:=hm;rw [← Int.natCast_mul] at this;omega
   have:a*v0≤4294967295*4294967295:=Nat.mul_le_mul h b7
   omega
  by_cases hex:a≤4294967295∧m≤4294967296*b+u1
  ·obtain ⟨hx1,hx2⟩:=hex
   have hm3:=hm2 hx1
   obtain rfl:a=Q:=by have:=hiff.out.2 hx2;omega
   have hx2' : ¬ (4294967296*(b:Int)+u1<(m:Int)):=by omega
   have hx1' : ¬ (4294967296:Int)≤(a:Int):=by omega
   clear hm2 hiff hab hx2 hx1 ha1 ha2
   go_wp2
   go_loop [18,16] (fun sa sb => ∃ a b:Nat,sa = .int .u64 (a:Int)∧sb = .int .u64 (b:Int)∧Hid (a*v1+b=R)∧Q0≤a∧a≤4294967297∧b≤4294967295) (fun sa _=>(intOf sa).toNat)
   case atStart =>
    have hf:=hh.out.2.1
    refine ⟨q',r',rfl,rfl,hh.out.2.2.2.2.1,?_,by omega,?_⟩
    ·have:=hf.le_guess
     have e:=hh.out.2.2.2.2.2.1
     omega
    ·have:=hh.out.2.2.2.2.2.2
     omega
   case round =>
    obtain ⟨a,b,rfl,rfl,hab,ha1,ha2,hb1⟩:=hrel
    obtain ⟨m,hm⟩:∃ m:Nat,(a:Int)*v0=m:=⟨a*v0,by simp⟩
    have hiff:Hid (a≤Q0↔m≤4294967296*b+u0):=by
     have:=(hh.out.2.1).le_iff hab.out
     have e:m=a*v0:=by have:=hm;rw [← Int.natCast_mul] at this;omega
     rw [e];exact this
    have hm2:a≤4294967295→m≤18446744073709551615:=by
     intro h
     have e:m=a*v0:=by have:=hm;rw [← Int.natCast_mul] at this;omega
     have:a*v0≤4294967295*4294967295:=Nat.mul_le_mul h b7
     omega
    by_cases hex:a≤4294967295∧m≤4294967296*b+u0
    ·obtain ⟨hx1,hx2⟩:=hex
     have hm3:=hm2 hx1
     obtain rfl:a=Q0:=by have:=hiff.out.2 hx2;omega
     have hx2' : ¬ (4294967296*(b:Int)+u0<(m:Int)):=by omega
     have hx1' : ¬ (4294967296:Int)≤(a:Int):=by omega
     clear hm2 hiff hab hx2 hx1 ha1 ha2
     go_wp2
     go_ret2
     exact ⟨rfl,0,rfl⟩
    ·have hgt:Q0+1≤a:=by
      rcases Nat.lt_or_ge Q0 a with h|h
      ·exact h
      ·exfalso
       apply hex
       exact ⟨by omega,hiff.out.1 h⟩
     obtain ⟨a,rfl⟩:∃ k,a=k+1:=⟨a-1,by omega⟩
     have hab2:Hid (a*v1+(b+v1)=R):=by
      have:=hab.out
      have e:(a+1)*v1=a*v1+v1:=by rw [Nat.add_mul,Nat.one_mul]
      unfold Hid
      omega
     simp only [Int.natCast_add,Int.natCast_one] at hm ⊢
     by_cases hbk:4294967296≤b+v1
     ·obtain rfl:a=Q0:=(hh.out.2.1).done hab2.out (by omega) (by omega) hbk
      clear hiff hab hab2
      by_cases hx:4294967296≤a+1
      ·have hx' : (4294967296:Int)≤(a:Int)+1:=by omega
       have hbk' : (4294967296:Int)≤(b:Int)+v1:=by omega
       clear hm2 hm hex hx hbk
       go_wp2
       go_ret2
       exact ⟨rfl,0,rfl⟩
      ·have hm3:=hm2 (by omega)
       have hx2:¬ (m≤4294967296*b+u0):=fun h=>hex ⟨by omega,h⟩
       have hx' : ¬ (4294967296:Int)≤(a:Int)+1:=by omega
       have hx2' : 4294967296*(b:Int)+u0<(m:Int):=by omega
       have hbk' : (4294967296:Int)≤(b:Int)+v1:=by omega
       clear hm2 hex hx hx2 hbk
       go_wp2
       go_ret2
       exact ⟨rfl,0,rfl⟩
     ·by_cases hx:4294967296≤a+1
      ·have hx' : (4294967296:Int)≤(a:Int)+1:=by omega
       have hbk' : ¬ (4294967296:Int)≤(b:Int)+v1:=by omega
       have HB:=Lib.hid hbk
       clear hm2 hm hex hiff hx hbk
       go_wp2
       go_round
       case rel=>exact ⟨a,b+v1,rfl,by go_num,hab2,by omega,by omega,by omega⟩
       case measure=>simp [intOf]
      ·have hm3:=hm2 (by omega)
       have hx2:¬ (m≤4294967296*b+u0):=fun h=>hex ⟨by omega,h⟩
       have hx' : ¬ (4294967296:Int)≤(a:Int)+1:=by omega
       have hx2' : 4294967296*(b:Int)+u0<(m:Int):=by omega
       have hbk' : ¬ (4294967296:Int)≤(b:Int)+v1:=by omega
       have HB:=Lib.hid hbk
       clear hm2 hex hiff hx hx2 hbk
       go_wp2
       go_round
       case rel=>exact ⟨a,b+v1,rfl,by go_num,hab2,by omega,by omega,by omega⟩
       case measure=>simp [intOf]
  ·have hgt:Q+1≤a:=by
    rcases Nat.lt_or_ge Q a with h|h
    ·exact h
    ·exfalso
     apply hex
     exact ⟨by omega,hiff.out.1 h⟩
   obtain ⟨a,rfl⟩:∃ k,a=k+1:=⟨a-1,by omega⟩
   have hab2:Hid (a*v1+(b+v1)=U):=by
    have:=hab.out
    have e:(a+1)*v1=a*v1+v1:=by rw [Nat.add_mul,Nat.one_mul]
    unfold Hid
    omega
   simp only [Int.natCast_add,Int.natCast_one] at hm ⊢
   by_cases hbk:4294967296≤b+v1
   ·obtain rfl:a=Q:=(hh.out.1).done hab2.out (by omega) (by omega) hbk
    clear hiff hab hab2
    by_cases hx:4294967296≤a+1
    ·have hx' : (4294967296:Int)≤(a:Int)+1:=by omega
     have hbk' : (4294967296:Int)≤(b:Int)+v1:=by omega
     clear hm2 hm hex hx hbk
     go_wp2
     go_loop [18,16] (fun sa sb => ∃ a b:Nat,sa = .int .u64 (a:Int)∧sb = .int .u64 (b:Int)∧Hid (a*v1+b=R)∧Q0≤a∧a≤4294967297∧b≤4294967295) (fun sa _=>(intOf sa).toNat)
     case atStart =>
      have hf:=hh.out.2.1
      refine ⟨q',r',rfl,rfl,hh.out.2.2.2.2.1,?_,by omega,?_⟩
      ·have:=hf.le_guess
       have e:=hh.out.2.2.2.2.2.1
       omega
      ·have:=hh.out.2.2.2.2.2.2
       omega
     case round =>
      obtain ⟨a,b,rfl,rfl,hab,ha1,ha2,hb1⟩:=hrel
      obtain ⟨m,hm⟩:∃ m:Nat,(a:Int)*v0=m:=⟨a*v0,by simp⟩
      have hiff:Hid (a≤Q0↔m≤4294967296*b+u0):=by
       have:=(hh.out.2.1).le_iff hab.out
       have e:m=a*v0:=by have:=hm;rw [← Int.natCast_mul] at this;omega
       rw [e];exact this
      have hm2:a≤4294967295→m≤18446744073709551615:=by
       intro h
       have e:m=a*v0:=by have:=hm;rw [← Int.natCast_mul] at this;omega
       have:a*v0≤4294967295*4294967295:=Nat.mul_le_mul h b7
       omega
      by_cases hex:a≤4294967295∧m≤4294967296*b+u0
      ·obtain ⟨hx1,hx2⟩:=hex
       have hm3:=hm2 hx1
       obtain rfl:a=Q0:=by have:=hiff.out.2 hx2;omega
       have hx2' : ¬ (4294967296*(b:Int)+u0<(m:Int)):=by omega
       have hx1' : ¬ (4294967296:Int)≤(a:Int):=by omega
       clear hm2 hiff hab hx2 hx1 ha1 ha2
       go_wp2
       go_ret2
       exact ⟨rfl,0,rfl⟩
      ·have hgt:Q0+1≤a:=by
        rcases Nat.lt_or_ge Q0 a with h|h
        ·exact h
        ·exfalso
         apply hex
         exact ⟨by omega,hiff.out.1 h⟩
       obtain ⟨a,rfl⟩:∃ k,a=k+1:=⟨a-1,by omega⟩
       have hab2:Hid (a*v1+(b+v1)=R):=by
        have:=hab.out
        have e:(a+1)*v1=a*v1+v1:=by rw [Nat.add_mul,Nat.one_mul]
        unfold Hid
        omega
       simp only [Int.natCast_add,Int.natCast_one] at hm ⊢
       by_cases hbk:4294967296≤b+v1
       ·obtain rfl:a=Q0:=(hh.out.2.1).done hab2.out (by omega) (by omega) hbk
        clear hiff hab hab2
        by_cases hx:4294967296≤a+1
        ·have hx' : (4294967296:Int)≤(a:Int)+1:=by omega
         have hbk' : (4294967296:Int)≤(b:Int)+v1:=by omega
         clear hm2 hm hex hx hbk
         go_wp2
         go_ret2
         exact ⟨rfl,0,rfl⟩
        ·have hm3:=hm2 (by omega)
         have hx2:¬ (m≤4294967296*b+u0):=fun h=>hex ⟨by omega,h⟩
         have hx' : ¬ (4294967296:Int)≤(a:Int)+1:=by omega
         have hx2' : 4294967296*(b:Int)+u0<(m:Int):=by omega
         have hbk' : (4294967296:Int)≤(b:Int)+v1:=by omega
         clear hm2 hex hx hx2 hbk
         go_wp2
         go_ret2
         exact ⟨rfl,0,rfl⟩
       ·by_cases hx:4294967296≤a+1
        ·have hx' : (4294967296:Int)≤(a:Int)+1:=by omega
         have hbk' : ¬ (4294967296:Int)≤(b:Int)+v1:=by omega
         have HB:=Lib.hid hbk
         clear hm2 hm hex hiff hx hbk
         go_wp2
         go_round
         case rel=>exact ⟨a,b+v1,rfl,by go_num,hab2,by omega,by omega,by omega⟩
         case measure=>simp [intOf]
        ·have hm3:=hm2 (by omega)
         have hx2:¬ (m≤4294967296*b+u0):=fun h=>hex ⟨by omega,h⟩
         have hx' : ¬ (4294967296:Int)≤(a:Int)+1:=by omega
         have hx2' : 4294967296*(b:Int)+u0<(m:Int):=by omega
         have hbk' : ¬ (4294967296:Int)≤(b:Int)+v1:=by omega
         have HB:=Lib.hid hbk
         clear hm2 hex hiff hx hx2 hbk
         go_wp2
         go_round
         case rel=>exact ⟨a,b+v1,rfl,by go_num,hab2,by omega,by omega,by omega⟩
         case measure=>simp [intOf]
    ·have hm3:=hm2 (by omega)
     have hx2:¬ (m≤4294967296*b+u1):=fun h=>hex ⟨by omega,h⟩
     have hx' : ¬ (4294967296:Int)≤(a:Int)+1:=by omega
     have hx2' : 4294967296*(b:Int)+u1<(m:Int):=by omega
     have hbk' : (4294967296:Int)≤(b:Int)+v1:=by omega
     clear hm2 hex hx hx2 hbk
     go_wp2
     go_loop [18,16] (fun sa sb => ∃ a b:Nat,sa = .int .u64 (a:Int)∧sb = .int .u64 (b:Int)∧Hid (a*v1+b=R)∧Q0≤a∧a≤4294967297∧b≤4294967295) (fun sa _=>(intOf sa).toNat)
     case atStart =>
      have hf:=hh.out.2.1
      refine ⟨q',r',rfl,rfl,hh.out.2.2.2.2.1,?_,by omega,?_⟩
      ·have:=hf.le_guess
       have e:=hh.out.2.2.2.2.2.1
       omega
      ·have:=hh.out.2.2.2.2.2.2
       omega
     case round =>
      obtain ⟨a,b,rfl,rfl,hab,ha1,ha2,hb1⟩:=hrel
      obtain ⟨m,hm⟩:∃ m:Nat,(a:Int)*v0=m:=⟨a*v0,by simp⟩
      have hiff:Hid (a≤Q0↔m≤4294967296*b+u0):=by
       have:=(hh.out.2.1).le_iff hab.out
       have e:m=a*v0:=by have:=hm;rw [← Int.natCast_mul] at this;omega
       rw [e];exact this
      have hm2:a≤4294967295→m≤18446744073709551615:=by
       intro h
       have e:m=a*v0:=by have:=hm;rw [← Int.natCast_mul] at this;omega
       have:a*v0≤4294967295*4294967295:=Nat.mul_le_mul h b7
       omega
      by_cases hex:a≤4294967295∧m≤4294967296*b+u0
      ·obtain ⟨hx1,hx2⟩:=hex
       have hm3:=hm2 hx1
       obtain rfl:a=Q0:=by have:=hiff.out.2 hx2;omega
       have hx2' : ¬ (4294967296*(b:Int)+u0<(m:Int)):=by omega
       have hx1' : ¬ (4294967296:Int)≤(a:Int):=by omega
       clear hm2 hiff hab hx2 hx1 ha1 ha2
       go_wp2
       go_ret2
       exact ⟨rfl,0,rfl⟩
      ·have hgt:Q0+1≤a:=by
        rcases Nat.lt_or_ge Q0 a with h|h
        ·exact h
        ·exfalso
         apply hex
         exact ⟨by omega,hiff.out.1 h⟩
       obtain ⟨a,rfl⟩:∃ k,a=k+1:=⟨a-1,by omega⟩
       have hab2:Hid (a*v1+(b+v1)=R):=by
        have:=hab.out
        have e:(a+1)*v1=a*v1+v1:=by rw [Nat.add_mul,Nat.one_mul]
        unfold Hid
        omega
       simp only [Int.natCast_add,Int.natCast_one] at hm ⊢
       by_cases hbk:4294967296≤b+v1
       ·obtain rfl:a=Q0:=(hh.out.2.1).done hab2.out (by omega) (by omega) hbk
        clear hiff hab hab2
        by_cases hx:4294967296≤a+1
        ·have hx' : (4294967296:Int)≤(a:Int)+1:=by omega
         have hbk' : (4294967296:Int)≤(b:Int)+v1:=by omega
         clear hm2 hm hex hx hbk
         go_wp2
         go_ret2
         exact ⟨rfl,0,rfl⟩
        ·have hm3:=hm2 (by omega)
         have hx2:¬ (m≤4294967296*b+u0):=fun h=>hex ⟨by omega,h⟩
         have hx' : ¬ (4294967296:Int)≤(a:Int)+1:=by omega
         have hx2' : 4294967296*(b:Int)+u0<(m:Int):=by omega
         have hbk' : (4294967296:Int)≤(b:Int)+v1:=by omega
         clear hm2 hex hx hx2 hbk
         go_wp2
         go_ret2
         exact ⟨rfl,0,rfl⟩
       ·by_cases hx:4294967296≤a+1
        ·have hx' : (4294967296:Int)≤(a:Int)+1:=by omega
         have hbk' : ¬ (4294967296:Int)≤(b:Int)+v1:=by omega
         have HB:=Lib.hid hbk
         clear hm2 hm hex hiff hx hbk
         go_wp2
         go_round
         case rel=>exact ⟨a,b+v1,rfl,by go_num,hab2,by omega,by omega,by omega⟩
         case measure=>simp [intOf]
        ·have hm3:=hm2 (by omega)
         have hx2:¬ (m≤4294967296*b+u0):=fun h=>hex ⟨by omega,h⟩
         have hx' : ¬ (4294967296:Int)≤(a:Int)+1:=by omega
         have hx2' : 4294967296*(b:Int)+u0<(m:Int):=by omega
         have hbk' : ¬ (4294967296:Int)≤(b:Int)+v1:=by omega
         have HB:=Lib.hid hbk
         clear hm2 hex hiff hx hx2 hbk
         go_wp2
         go_round
         case rel=>exact ⟨a,b+v1,rfl,by go_num,hab2,by omega,by omega,by omega⟩
         case measure=>simp [intOf]
   ·by_cases hx:4294967296≤a+1
    ·have hx' : (4294967296:Int)≤(a:Int)+1:=by omega
     have hbk' : ¬ (4294967296:Int)≤(b:Int)+v1:=by omega
     have HB:=Lib.hid hbk
     clear hm2 hm hex hiff hx hbk
     go_wp2
     go_round
     case rel=>exact ⟨a,b+v1,rfl,by go_num,hab2,by omega,by omega,by omega⟩
     case measure=>simp [intOf]
    ·have hm3:=hm2 (by omega)
     have hx2:¬ (m≤4294967296*b+u1):=fun h=>hex ⟨by omega,h⟩
     have hx' : ¬ (4294967296:Int)≤(a:Int)+1:=by omega
     have hx2' : 4294967296*(b:Int)+u1<(m:Int):=by omega
     have hbk' : ¬ (4294967296:Int)≤(b:Int)+v1:=by omega
     have HB:=Lib.hid hbk
     clear hm2 hex hiff hx hx2 hbk
     go_wp2
     go_round
     case rel=>exact ⟨a,b+v1,rfl,by go_num,hab2,by omega,by omega,by omega⟩
     case measure=>simp [intOf]
theorem div64_small (lo y:Nat) (w:World) (h2:0<y) (h3:y≤18446744073709551615) (h4:lo≤18446744073709551615) :
 Calls Tryz.prog 210 #[.int .u64 0,.int .u64 (lo:Int),.int .u64 (y:Int)] w fun e w'=>Hid (e = .returned (.tuple #[.int .u64 ((lo/y:Nat):Int),.int .u64 ((lo%y:Nat):Int)]))∧∃ k,w'=w.drewN k:=by
 have t1:((y:Int)==0)=false:=by simp;omega
 have t2:¬ ((y:Int)≤0):=by omega
 obtain ⟨a,ha⟩:∃ a:Nat,a=lo/y:=⟨_,rfl⟩
 obtain ⟨b,hb⟩:∃ b:Nat,b=lo%y:=⟨_,rfl⟩
 have la:a≤lo:=by rw [ha];exact Nat.div_le_self _ _
 have lb:b≤lo:=by rw [hb];exact Nat.mod_le _ _
 have e1:(lo:Int).tdiv y=a:=by rw [ha,Int.tdiv_eq_ediv_of_nonneg (by omega),Int.natCast_ediv]
 have e2:(lo:Int).tmod y=b:=by rw [hb,Int.tmod_eq_emod_of_nonneg (by omega),Int.natCast_emod]
 have e3:(lo:Int)/y=a:=by rw [ha,Int.natCast_ediv]
 have e4:(lo:Int)%y=b:=by rw [hb,Int.natCast_emod]
 rw [← ha,← hb]
 clear ha hb
 go_enter Tryz.func210,Tryz.ntmps210
 go_wp2
 go_quiet (fail)
 go_wp2
 go_ret2
 exact ⟨rfl,_,rfl⟩
theorem norm_shift (y:Nat) (h0:0<y) (h1:y<W64):∃ s:Nat,s≤63∧(64:Int)-Lib.bitLen y=s∧9223372036854775808≤y*2^s∧y*2^s<W64:=by
 have hb:=Lib.bitLenAux_bounds 64 y (by rw [← show W64=2^64 from rfl];exact h1) (by omega)
 have hl:=Lib.bitLen_le y 64 (Nat.le_refl _) (by rw [← show W64=2^64 from rfl];exact h1)
 obtain ⟨b1,b2,b3⟩:=hb
 unfold Lib.bitLen at *
 generalize Lib.bitLenAux 64 y=l at *
 refine ⟨64-l,by omega,by omega,?_,?_⟩
 ·have:2^(l-1)*2^(64-l)≤y*2^(64-l):=Nat.mul_le_mul_right _ b2
  rw [← Nat.pow_add,show l-1+(64-l)=63 from by omega] at this
  exact this
 ·have:y*2^(64-l)<2^l*2^(64-l):=Nat.mul_lt_mul_of_pos_right b3 (Nat.pow_pos (by omega))
  rw [← Nat.pow_add,show l+(64-l)=64 from by omega] at this
  exact this
theorem div64_any (hi lo y:Nat) (w:World) (h2:hi<y) (h3:y<W64) (h4:lo<W64) :
 Calls Tryz.prog 210 #[.int .u64 (hi:Int),.int .u64 (lo:Int),.int .u64 (y:Int)] w fun e w' =>
  Hid (e = .returned (.tuple #[.int .u64 (((hi*W64+lo)/y:Nat):Int),.int .u64 (((hi*W64+lo)%y:Nat):Int)]))∧∃ k,w'=w.drewN k:=by
 have hW:=W64_eq
 rcases Nat.eq_zero_or_pos hi with rfl|h1
 ·simpa using div64_small lo y w h2 (by omega) (by omega)
 ·obtain ⟨s,hs,hbl,n1,n2⟩:=norm_shift y (by omega) h3
  have hp:0<2^s:=Nat.pow_pos (by omega)
  have hT:W64=2^(64-s)*2^s:=W64_pow (by omega)
  obtain ⟨sh1,sh2⟩:=shl_parts (x:=lo) (s:=s) (by omega)
  have hLO:=hi_lt (s:=s) (by omega) h4
  obtain ⟨Y,hY⟩:∃ Y,Y=y*2^s:=⟨_,rfl⟩
  obtain ⟨H,hH⟩:∃ H,H=hi*2^s:=⟨_,rfl⟩
  obtain ⟨L,hL⟩:∃ L,L=lo*2^s%W64:=⟨_,rfl⟩
  obtain ⟨O,hO⟩:∃ O,O=lo/2^(64-s):=⟨_,rfl⟩
  have hLl:L<W64:=by rw [hL];exact Nat.mod_lt _ W64_pos
  have hUY:H+O<Y:=by
   have:(hi+1)*2^s≤y*2^s:=Nat.mul_le_mul_right _ h2
   rw [Nat.add_mul,Nat.one_mul] at this
   rw [hY,hH,hO];omega
  have hN:(hi*W64+lo)*2^s=((H+O)*4294967296+L/4294967296)*4294967296+L%4294967296:=by
   have a1:=Nat.div_add_mod L 4294967296
   have a2:(hi*W64+lo)*2^s=H*W64+(L+W64*O):=by rw [hH,hL,hO,sh2];grind
   rw [a2,hW]
   omega
  have hY1:=Nat.div_add_mod Y 4294967296
  have hf:Half (H+O) (L/4294967296) Y (Y/4294967296) (Y%4294967296) (((H+O)*4294967296+L/4294967296)/Y) :=
   ⟨by omega,by omega,by omega,by omega,hUY,by omega,rfl⟩
  obtain ⟨R,hR1,hR2⟩:=hf.rest
  have hf0:Half R (L%4294967296) Y (Y/4294967296) (Y%4294967296) ((R*4294967296+L%4294967296)/Y) :=
   ⟨by omega,by omega,by omega,by omega,hR1,by omega,rfl⟩
  obtain ⟨R0,hR3,hR4⟩:=hf0.rest
  have hq:=hf.q_lt
  have hq0:=hf0.q_lt
  have hg1:=hf.guess_le
  have hg2:=hf0.guess_le
  obtain ⟨f1,f2⟩:=halves hN hY hR2 hR4 hR3
  obtain ⟨Q,hQ⟩:∃ Q,Q=((H+O)*4294967296+L/4294967296)/Y:=⟨_,rfl⟩
  obtain ⟨Q0,hQ0⟩:∃ Q0,Q0=(R*4294967296+L%4294967296)/Y:=⟨_,rfl⟩
  rw [← hQ] at hf hR2 hq f1
  rw [← hQ0] at hf0 hR4 hq0 f1
  obtain ⟨U,hU⟩:∃ U,U=H+O:=⟨_,rfl⟩
  rw [← hU] at hUY hN hf hR2 hg1 hQ
  have m1:U/(Y/4294967296)*(Y/4294967296)+U%(Y/4294967296)=U:=by rw [Nat.mul_comm];exact Nat.div_add_mod _ _
  have m2:R/(Y/4294967296)*(Y/4294967296)+R%(Y/4294967296)=R:=by rw [Nat.mul_comm];exact Nat.div_add_mod _ _
  have m3:=Nat.mod_lt U (y:=Y/4294967296) (by omega)
  have m4:=Nat.mod_lt R (y:=Y/4294967296) (by omega)
  obtain ⟨v1,hv1⟩:∃ v1,v1=Y/4294967296:=⟨_,rfl⟩
  obtain ⟨v0,hv0⟩:∃ v0,v0=Y%4294967296:=⟨_,rfl⟩
  obtain ⟨u1,hu1⟩:∃ u1,u1=L/4294967296:=⟨_,rfl⟩
  obtain ⟨u0,hu0⟩:∃ u0,u0=L%4294967296:=⟨_,rfl⟩
  rw [← hv1] at hf hf0 hg1 hg2 m1 m2 m3 m4
  rw [← hv0] at hf hf0
  rw [← hu1] at hf hR2 hQ hN
  rw [← hu0] at hf0 hR4 hQ0 hN
  have z1:U/v1*v1≤U:=Nat.div_mul_le_self _ _
  have z2:R/v1*v1≤R:=Nat.div_mul_le_self _ _
  rw [← f1,← f2]
  refine (div64_core hi lo y s Y H U L u1 u0 v1 v0 (U/v1) (U/v1*v1) (U%v1) Q R Q0 R0 (U*4294967296%W64) ((U*4294967296%W64+u1)%W64) (Q*Y%W64) (R/v1) (R/v1*v1) (R%v1)
   (Q*4294967296) (Q*4294967296+Q0) (R*4294967296%W64) ((R*4294967296%W64+u0)%W64) (Q0*Y%W64) (R0/2^s) w h1 h2 (by omega) (by omega) hbl hs ?_ ?_ ?_ ?_ ?_ ?_ ?_ ?_ ?_ ?_ ?_ ?_ ?_ ?_ ?_ ?_ ?_ ?_ ?_ ?_ ?_ ?_ ?_ ?_ ?_ ?_ ?_ ?_ ?_ ?_ ?_ ?_ ?_ ?_ ?_ ?_ ?_ ?_ ?_ ?_ ?_)
  ·rw [show (y:Int)*2^s=((y*2^s:Nat):Int) from by simp,wrap_nat _ (by omega),hY]
  ·rw [hv1];simp
  ·rw [hv0];exact and_half Y (by omega)
  ·rw [show (hi:Int)*2^s=((hi*2^s:Nat):Int) from by simp,wrap_nat _ (by omega),hH]
  ·rw [show (lo:Int)/2^(64-s)=((lo/2^(64-s):Nat):Int) from by simp,← hO,hU,hH]
   exact or_shift hi O s (by rw [hO];exact hLO) (by rw [← hH];omega)
  ·rw [show (lo:Int)*2^s=((lo*2^s:Nat):Int) from by simp,wrap_mod,hL,hW]
  ·rw [hu1];simp
  ·rw [hu0];exact and_half L (by omega)
  ·rw [Int.tdiv_eq_ediv_of_nonneg (by omega)];simp
  ·simp
  ·simp
  ·omega
  ·exact ⟨hf,hf0,by omega,rfl,by omega,rfl,by omega,by omega⟩
  ·rw [show (U:Int)*4294967296=((U*4294967296:Nat):Int) from by simp,wrap_mod,hW]
  ·rw [show ((U*4294967296%W64:Nat):Int)+u1=((U*4294967296%W64+u1:Nat):Int) from by simp,wrap_mod,hW]
  ·rw [show (Q:Int)*Y=((Q*Y:Nat):Int) from by simp,wrap_mod,hW]
  ·rw [IntKind.wrap_u64]
   rw [hW]
   generalize Q*Y=QY at *
   omega
  ·rw [Int.tdiv_eq_ediv_of_nonneg (by omega)];simp
  ·simp
  ·simp
  ·omega
  ·rw [show (Q:Int)*4294967296=((Q*4294967296:Nat):Int) from by simp,wrap_nat _ (by omega)]
  ·rw [show ((Q*4294967296:Nat):Int)+Q0=((Q*4294967296+Q0:Nat):Int) from by simp,wrap_nat _ (by omega)]
  ·rw [show (R:Int)*4294967296=((R*4294967296:Nat):Int) from by simp,wrap_mod,hW]
  ·rw [show ((R*4294967296%W64:Nat):Int)+u0=((R*4294967296%W64+u0:Nat):Int) from by simp,wrap_mod,hW]
  ·rw [show (Q0:Int)*Y=((Q0*Y:Nat):Int) from by simp,wrap_mod,hW]
  ·rw [IntKind.wrap_u64]
   rw [hW]
   generalize Q0*Y=QY at *
   omega
  ·simp
  all_goals omega
end Go.Proofs.YtbhcckhbbclemaaGreatDoor
