/- Parts of the proof, joined. -/
import Derived.Test.YtejbgingjeedaaaGreatDoorJ4
import Derived.WalkSpells
import Derived.BigQuiet
import Derived.Deep.QuietTactic
import Derived.Lib.ItoaNum
import Derived.Test.YtejbgingjeedaaaGreatDoorShelf
import Derived.Deep.RegionWith
set_option linter.unusedSimpArgs false
set_option linter.unusedVariables false
namespace Go.Proofs.YtejbgingjeedaaaGreatDoor
open Pl
theorem iD {s:Nat} (hs:s≤64):aD=2^(64-s)*2^s:=by
 rw [← Nat.pow_add,show 64-s+s=64 from by omega,aJ]
theorem tD {x s:Nat} (hs:s≤64):x*2^s%aD=x%2^(64-s)*2^s∧x*2^s%aD+aD*(x/2^(64-s))=x*2^s:=by
 have e:x*2^s%aD=x%2^(64-s)*2^s:=by rw [iD hs,Nat.mul_mod_mul_right]
 refine ⟨e,?_⟩
 rw [e,iD hs]
 have:=Nat.div_add_mod x (2^(64-s))
 generalize x/2^(64-s)=q at *
 generalize x%2^(64-s)=r at *
 generalize 2^(64-s)=P at *
 subst this
 grind
theorem hi_lt {x s:Nat} (hs:s≤64) (hx:x<aD):x/2^(64-s)<2^s:=by
 rw [Nat.div_lt_iff_lt_mul (Nat.pow_pos (by omega)),Nat.mul_comm,← iD hs]
 exact hx
def UpInv (xs zs:List Nat) (s k:Nat):Prop :=
 Dig aD zs∧zs.length=xs.length+1∧val aD (zs.take (k+1))=val aD (xs.take k)*2^s∧zs.getD k 0<2^s
theorem UpInv.start (xs:List Nat) (s:Nat):UpInv xs (List.replicate (xs.length+1) 0) s 0:=by
 refine ⟨Dig.replicate bC _,by simp,?_,?_⟩
 ·rw [List.take_replicate,lG];simp [val]
 ·rw [List.getD,List.getElem?_replicate]
  split <;> exact Nat.pow_pos (by omega)
theorem UpInv.step {xs zs:List Nat} {s k x c:Nat} (h:UpInv xs zs s k) (hs:s≤63) (hx:xs[k]?=some x) (hd:Dig aD xs) (hc:zs[k]?=some c) :
 UpInv xs ((zs.set k (x*2^s%aD+c)).set (k+1) (x/2^(64-s))) s (k+1)∧c<2^s∧x%2^(64-s)*2^s+c<aD∧x/2^(64-s)<aD:=by
 obtain ⟨h1,h2,h3,h4⟩:=h
 obtain ⟨hk,ex⟩:=List.getElem?_eq_some_iff.1 hx
 obtain ⟨hkz,ez⟩:=List.getElem?_eq_some_iff.1 hc
 have hcl:c<2^s:=by rw [List.getD,hc] at h4;exact h4
 have hxl:=hd.at_ hx
 obtain ⟨p1,p2⟩:=tD (x:=x) (s:=s) (by omega)
 have hlow:x%2^(64-s)*2^s+c<aD:=by
  have hm:x%2^(64-s)<2^(64-s):=Nat.mod_lt _ (Nat.pow_pos (by omega))
  have:(x%2^(64-s)+1)*2^s≤2^(64-s)*2^s:=Nat.mul_le_mul_right _ hm
  rw [← iD (by omega),Nat.add_mul,Nat.one_mul] at this
  omega
 have hhi:x/2^(64-s)<aD:=Nat.lt_of_le_of_lt (Nat.div_le_self _ _) hxl
 have hh2:=hi_lt (s:=s) (by omega) hxl
 refine ⟨⟨(h1.set (by rw [p1];exact hlow)).set hhi,by simp [h2],?_,?_⟩,hcl,hlow,hhi⟩
 ·rw [aF _ _ _ (by simp;omega),List.take_set_of_le (Nat.le_refl _),List.getElem_set_self,aF _ _ _ (by simp;omega),List.take_set_of_le (Nat.le_refl _),List.getElem_set_self,
   aF _ _ _ hk,ex]
  rw [aF _ _ _ hkz,ez] at h3
  rw [Nat.pow_succ,Nat.add_mul]
  generalize aD^k=P at *
  generalize 2^s=S at *
  have e:x*S=x*S%aD+aD*(x/2^(64-s)):=p2.symm
  generalize x*S%aD=lo at *
  generalize x/2^(64-s)=hi at *
  generalize aD=V at *
  have:P*x*S=P*(x*S):=by grind
  rw [this,e]
  grind
 ·rw [List.getD,List.getElem?_set_self (by simp;omega)]
  exact hh2
theorem UpInv.finish {xs zs:List Nat} {s:Nat} (h:UpInv xs zs s xs.length):val aD zs=val aD xs*2^s:=by
 obtain ⟨_,h2,h3,_⟩:=h
 rwa [List.take_of_length_le (by omega),List.take_of_length_le (Nat.le_refl _)] at h3
def DownInv (xs zs:List Nat) (s k:Nat):Prop :=
 Dig aD zs∧zs.length=xs.length∧val aD (zs.take k)=val aD (xs.take k)/2^s∧(0<k→zs.getD (k-1) 0<2^(64-s))
theorem DownInv.start (xs:List Nat) (s:Nat):DownInv xs (List.replicate xs.length 0) s 0 :=
 ⟨Dig.replicate bC _,by simp,by simp [val],fun h=>absurd h (by omega)⟩
theorem down_lt {x s:Nat} (hs:s≤63) (hx:x<aD):x/2^s<2^(64-s):=by
 rw [Nat.div_lt_iff_lt_mul (Nat.pow_pos (by omega)),← iD (by omega)]
 exact hx
theorem DownInv.first {xs zs:List Nat} {s x:Nat} (h:DownInv xs zs s 0) (hs:s≤63) (hx:xs[0]?=some x) (hd:Dig aD xs):DownInv xs (zs.set 0 (x/2^s)) s 1:=by
 obtain ⟨h1,h2,_,_⟩:=h
 obtain ⟨hk,ex⟩:=List.getElem?_eq_some_iff.1 hx
 have hxl:=hd.at_ hx
 refine ⟨h1.set (Nat.lt_of_le_of_lt (Nat.div_le_self _ _) hxl),by simp [h2],?_,fun _=>?_⟩
 ·rw [aF _ _ _ (by simp;omega),aF _ _ _ hk,ex]
  simp [val]
 ·rw [List.getD,List.getElem?_set_self (by omega)]
  exact down_lt hs hxl
theorem DownInv.step {xs zs:List Nat} {s k x c:Nat} (h:DownInv xs zs s (k+1)) (hs:s≤63) (hx:xs[k+1]?=some x) (hd:Dig aD xs) (hc:zs[k]?=some c) :
 DownInv xs ((zs.set (k+1) (x/2^s)).set k (c+x*2^(64-s)%aD)) s (k+2)∧c<2^(64-s)∧x%2^s*2^(64-s)+c<aD:=by
 obtain ⟨h1,h2,h3,h4⟩:=h
 obtain ⟨hk,ex⟩:=List.getElem?_eq_some_iff.1 hx
 obtain ⟨hkz,ez⟩:=List.getElem?_eq_some_iff.1 hc
 have hcl:c<2^(64-s):=by have:=h4 (by omega);rw [show k+1-1=k from by omega,List.getD,hc] at this;exact this
 have hxl:=hd.at_ hx
 have hW:aD=2^s*2^(64-s):=by rw [Nat.mul_comm];exact iD (by omega)
 have p1:x*2^(64-s)%aD=x%2^s*2^(64-s):=by rw [hW,Nat.mul_mod_mul_right]
 have hlow:x%2^s*2^(64-s)+c<aD:=by
  have hm:x%2^s<2^s:=Nat.mod_lt _ (Nat.pow_pos (by omega))
  have:(x%2^s+1)*2^(64-s)≤2^s*2^(64-s):=Nat.mul_le_mul_right _ hm
  rw [← hW,Nat.add_mul,Nat.one_mul] at this
  omega
 refine ⟨⟨(h1.set (Nat.lt_of_le_of_lt (Nat.div_le_self _ _) hxl)).set (by rw [p1];omega),by simp [h2],?_,fun _=>?_⟩,hcl,hlow⟩
 ·rw [aF _ _ _ (by simp;omega),List.getElem_set_ne (by omega),List.getElem_set_self,aF _ _ _ (by simp;omega),List.take_set_of_le (Nat.le_refl _),List.take_set_of_le (by omega),List.getElem_set_self,
   aF _ _ _ hk,ex,p1]
  rw [aF _ _ _ hkz,ez] at h3
  have hS:0<2^s:=Nat.pow_pos (by omega)
  have hx2:=Nat.div_add_mod x (2^s)
  have e:aD^(k+1)*x=2^s*(aD^k*(x%2^s*2^(64-s)+aD*(x/2^s))):=by
   rw [Nat.pow_succ]
   generalize x/2^s=q at *
   generalize x%2^s=r at *
   rw [← hx2,hW]
   generalize 2^(64-s)=T at *
   generalize 2^s=S at *
   generalize (S*T)^k=P at *
   grind
  rw [e,Nat.add_mul_div_left _ _ hS,← h3,Nat.pow_succ]
  generalize aD^k=P at *
  generalize aD=V at *
  grind
 ·rw [show k+2-1=k+1 from by omega,List.getD,List.getElem?_set_ne (by omega),List.getElem?_set_self (by omega)]
  exact down_lt hs hxl
end Go.Proofs.YtejbgingjeedaaaGreatDoor
namespace Go.Proofs.YtejbgingjeedaaaGreatDoor
open Go.RowKit Pl
set_option maxHeartbeats 4000000 in
set_option maxRecDepth 100000 in
theorem div64_core (hi lo y s Y H U L u1 u0 v1 v0 q p r Q R Q0 R0 A A2 B q' p' r' C C2 D D2 E F:Nat) (w:World) (h1:0<hi) (h2:hi<y) (h3:y≤18446744073709551615) (_h4:lo≤18446744073709551615)
 (hs:Hid ((64:Int)-Lib.bitLen y=s)) (hs' : s≤63)
 (e1:IntKind.u64.wrap ((y:Int)*2^s)=(Y:Int)) (e2:(Y:Int)/4294967296=(v1:Int)) (e3:bits .and .u64 (Y:Int) 4294967295=(v0:Int))
 (e4:IntKind.u64.wrap ((hi:Int)*2^s)=(H:Int)) (e5:bits .or .u64 (H:Int) ((lo:Int)/2^(64-s))=(U:Int)) (e6:IntKind.u64.wrap ((lo:Int)*2^s)=(L:Int))
 (e7:(L:Int)/4294967296=(u1:Int)) (e8:bits .and .u64 (L:Int) 4294967295=(u0:Int)) (e9:(U:Int).tdiv v1=q) (e9' : (U:Int)/v1=q) (e10:(q:Int)*v1=p) (e11:(U:Int)-p=r)
 (hh:Hid (Half U u1 Y v1 v0 Q∧Half R u0 Y v1 v0 Q0∧q*v1+r=U∧q=U/v1∧q'*v1+r'=R∧q'=R/v1∧r<4294967296∧r'<4294967296))
 (k1:IntKind.u64.wrap ((U:Int)*4294967296)=A) (k2:IntKind.u64.wrap ((A:Int)+u1)=A2) (k3:IntKind.u64.wrap ((Q:Int)*Y)=B) (k4:IntKind.u64.wrap ((A2:Int)-B)=R)
 (k5:(R:Int).tdiv v1=q') (k5' : (R:Int)/v1=q') (k6:(q' : Int)*v1=p') (k7:(R:Int)-p'=r')
 (k8:IntKind.u64.wrap ((Q:Int)*4294967296)=C) (k9:IntKind.u64.wrap ((C:Int)+Q0)=C2) (k10:IntKind.u64.wrap ((R:Int)*4294967296)=D) (k11:IntKind.u64.wrap ((D:Int)+u0)=D2)
 (k12:IntKind.u64.wrap ((Q0:Int)*Y)=E) (k13:IntKind.u64.wrap ((D2:Int)-E)=R0) (k14:(R0:Int)/2^s=F)
 (b1:0<v1) (b2:v1≤4294967295) (b3:U≤18446744073709551615) (b4:R≤18446744073709551615) (b5:u1≤4294967295) (b6:u0≤4294967295) (b7:v0≤4294967295) (b8:q≤4294967297) (b9:q'≤4294967297) (_b10:p≤U) (_b11:p'≤R) (b12:Q≤4294967295) (b13:Q0≤4294967295) :
 Calls Tryz.prog 235 #[.int .u64 (hi:Int),.int .u64 (lo:Int),.int .u64 (y:Int)] w fun e w'=>Hid (e = .returned (.tuple #[.int .u64 (C2:Int),.int .u64 (F:Int)]))∧∃ k,w'=w.drewN k:=by
 have cl:=Lib.hid (Tryz.bits_LeadingZeros64 (y:Int) w (by omega) (by omega))
 have t1:((y:Int)==0)=false:=by simp;omega
 have t2:¬ ((y:Int)≤hi):=by omega
 have t3:((hi:Int)==0)=false:=by simp;omega
 go_enter Tryz.func235,Tryz.ntmps235
 go_wp2_with (go_at_call 232;refine (cl.out).mono ?_;rintro e w' ⟨rfl,hw⟩;rw [hw];rw [Int.toNat_natCast,hs.out])
 go_loop [15,16] (fun sa sb => ∃ a b:Nat,sa = .int .u64 (a:Int)∧sb = .int .u64 (b:Int)∧Hid (a*v1+b=U)∧Q≤a∧a≤4294967297∧b≤4294967295) (fun sa _=>(intOf sa).toNat)
 case atStart =>
  have hf:=hh.out.1
  refine ⟨q,r,rfl,rfl,hh.out.2.2.1,?_,by omega,?_⟩
  ·have:=hf.le_guess
   have e:=hh.out.2.2.2.1
   omega
  ·have:=hh.out.2.2.2.2.2.2
   omega
 case round =>
  obtain ⟨a,b,rfl,rfl,hab,ha1,ha2,hb1⟩:=hrel
  obtain ⟨m,hm⟩:∃ m:Nat,(a:Int)*v0=m:=⟨a*v0,by simp⟩
  have hiff:Hid (a≤Q↔m≤4294967296*b+u1):=by
   have:=(hh.out.1).le_iff hab.out
   have e:m=a*v0:=by have:=hm;rw [← Int.natCast_mul] at this;omega
   rw [e];exact this
  have hm2:a≤4294967295→m≤18446744073709551615:=by
   intro h
   have e:m=a*v0:=by have:=hm;rw [← Int.natCast_mul] at this;omega
   have:a*v0≤4294967295*4294967295:=Nat.mul_le_mul h b7
   omega
  by_cases hex:a≤4294967295∧m≤4294967296*b+u1
  ·obtain ⟨hx1,hx2⟩:=hex
   have hm3:=hm2 hx1
   obtain rfl:a=Q:=by have:=hiff.out.2 hx2;omega
   have hx2' : ¬ (4294967296*(b:Int)+u1<(m:Int)):=by omega
   have hx1' : ¬ (4294967296:Int)≤(a:Int):=by omega
   clear hm2 hiff hab hx2 hx1 ha1 ha2
   go_wp2
   go_loop [18,16] (fun sa sb => ∃ a b:Nat,sa = .int .u64 (a:Int)∧sb = .int .u64 (b:Int)∧Hid (a*v1+b=R)∧Q0≤a∧a≤4294967297∧b≤4294967295) (fun sa _=>(intOf sa).toNat)
   case atStart =>
    have hf:=hh.out.2.1
    refine ⟨q',r',rfl,rfl,hh.out.2.2.2.2.1,?_,by omega,?_⟩
    ·have:=hf.le_guess
     have e:=hh.out.2.2.2.2.2.1
     omega
    ·have:=hh.out.2.2.2.2.2.2
     omega
   case round =>
    obtain ⟨a,b,rfl,rfl,hab,ha1,ha2,hb1⟩:=hrel
    obtain ⟨m,hm⟩:∃ m:Nat,(a:Int)*v0=m:=⟨a*v0,by simp⟩
    have hiff:Hid (a≤Q0↔m≤4294967296*b+u0):=by
     have:=(hh.out.2.1).le_iff hab.out
     have e:m=a*v0:=by have:=hm;rw [← Int.natCast_mul] at this;omega
     rw [e];exact this
    have hm2:a≤4294967295→m≤18446744073709551615:=by
     intro h
     have e:m=a*v0:=by have:=hm;rw [← Int.natCast_mul] at this;omega
     have:a*v0≤4294967295*4294967295:=Nat.mul_le_mul h b7
     omega
    by_cases hex:a≤4294967295∧m≤4294967296*b+u0
    ·obtain ⟨hx1,hx2⟩:=hex
     have hm3:=hm2 hx1
     obtain rfl:a=Q0:=by have:=hiff.out.2 hx2;omega
     have hx2' : ¬ (4294967296*(b:Int)+u0<(m:Int)):=by omega
     have hx1' : ¬ (4294967296:Int)≤(a:Int):=by omega
     clear hm2 hiff hab hx2 hx1 ha1 ha2
     go_wp2
     go_ret2
     exact ⟨rfl,0,rfl⟩
    ·have hgt:Q0+1≤a:=by
      rcases Nat.lt_or_ge Q0 a with h|h
      ·exact h
      ·exfalso
       apply hex
       exact ⟨by omega,hiff.out.1 h⟩
     obtain ⟨a,rfl⟩:∃ k,a=k+1:=⟨a-1,by omega⟩
     have hab2:Hid (a*v1+(b+v1)=R):=by
      have:=hab.out
      have e:(a+1)*v1=a*v1+v1:=by rw [Nat.add_mul,Nat.one_mul]
      unfold Hid
      omega
     simp only [Int.natCast_add,Int.natCast_one] at hm ⊢
     by_cases hbk:4294967296≤b+v1
     ·obtain rfl:a=Q0:=(hh.out.2.1).done hab2.out (by omega) (by omega) hbk
      clear hiff hab hab2
      by_cases hx:4294967296≤a+1
      ·have hx' : (4294967296:Int)≤(a:Int)+1:=by omega
       have hbk' : (4294967296:Int)≤(b:Int)+v1:=by omega
       clear hm2 hm hex hx hbk
       go_wp2
       go_ret2
       exact ⟨rfl,0,rfl⟩
      ·have hm3:=hm2 (by omega)
       have hx2:¬ (m≤4294967296*b+u0):=fun h=>hex ⟨by omega,h⟩
       have hx' : ¬ (4294967296:Int)≤(a:Int)+1:=by omega
       have hx2' : 4294967296*(b:Int)+u0<(m:Int):=by omega
       have hbk' : (4294967296:Int)≤(b:Int)+v1:=by omega
       clear hm2 hex hx hx2 hbk
       go_wp2
       go_ret2
       exact ⟨rfl,0,rfl⟩
     ·by_cases hx:4294967296≤a+1
      ·have hx' : (4294967296:Int)≤(a:Int)+1:=by omega
       have hbk' : ¬ (4294967296:Int)≤(b:Int)+v1:=by omega
       have HB:=Lib.hid hbk
       clear hm2 hm hex hiff hx hbk
       go_wp2
       go_round
       case rel=>exact ⟨a,b+v1,rfl,by go_num,hab2,by omega,by omega,by omega⟩
       case measure=>simp [intOf]
      ·have hm3:=hm2 (by omega)
       have hx2:¬ (m≤4294967296*b+u0):=fun h=>hex ⟨by omega,h⟩
       have hx' : ¬ (4294967296:Int)≤(a:Int)+1:=by omega
       have hx2' : 4294967296*(b:Int)+u0<(m:Int):=by omega
       have hbk' : ¬ (4294967296:Int)≤(b:Int)+v1:=by omega
       have HB:=Lib.hid hbk
       clear hm2 hex hiff hx hx2 hbk
       go_wp2
       go_round
       case rel=>exact ⟨a,b+v1,rfl,by go_num,hab2,by omega,by omega,by omega⟩
       case measure=>simp [intOf]
  ·have hgt:Q+1≤a:=by
    rcases Nat.lt_or_ge Q a with h|h
    ·exact h
    ·exfalso
     apply hex
     exact ⟨by omega,hiff.out.1 h⟩
   obtain ⟨a,rfl⟩:∃ k,a=k+1:=⟨a-1,by omega⟩
   have hab2:Hid (a*v1+(b+v1)=U):=by
    have:=hab.out
    have e:(a+1)*v1=a*v1+v1:=by rw [Nat.add_mul,Nat.one_mul]
    unfold Hid
    omega
   simp only [Int.natCast_add,Int.natCast_one] at hm ⊢
   by_cases hbk:4294967296≤b+v1
   ·obtain rfl:a=Q:=(hh.out.1).done hab2.out (by omega) (by omega) hbk
    clear hiff hab hab2
    by_cases hx:4294967296≤a+1
    ·have hx' : (4294967296:Int)≤(a:Int)+1:=by omega
     have hbk' : (4294967296:Int)≤(b:Int)+v1:=by omega
     clear hm2 hm hex hx hbk
     go_wp2
     go_loop [18,16] (fun sa sb => ∃ a b:Nat,sa = .int .u64 (a:Int)∧sb = .int .u64 (b:Int)∧Hid (a*v1+b=R)∧Q0≤a∧a≤4294967297∧b≤4294967295) (fun sa _=>(intOf sa).toNat)
     case atStart =>
      have hf:=hh.out.2.1
      refine ⟨q',r',rfl,rfl,hh.out.2.2.2.2.1,?_,by omega,?_⟩
      ·have:=hf.le_guess
       have e:=hh.out.2.2.2.2.2.1
       omega
      ·have:=hh.out.2.2.2.2.2.2
       omega
     case round =>
      obtain ⟨a,b,rfl,rfl,hab,ha1,ha2,hb1⟩:=hrel
      obtain ⟨m,hm⟩:∃ m:Nat,(a:Int)*v0=m:=⟨a*v0,by simp⟩
      have hiff:Hid (a≤Q0↔m≤4294967296*b+u0):=by
       have:=(hh.out.2.1).le_iff hab.out
       have e:m=a*v0:=by have:=hm;rw [← Int.natCast_mul] at this;omega
       rw [e];exact this
      have hm2:a≤4294967295→m≤18446744073709551615:=by
       intro h
       have e:m=a*v0:=by have:=hm;rw [← Int.natCast_mul] at this;omega
       have:a*v0≤4294967295*4294967295:=Nat.mul_le_mul h b7
       omega
      by_cases hex:a≤4294967295∧m≤4294967296*b+u0
      ·obtain ⟨hx1,hx2⟩:=hex
       have hm3:=hm2 hx1
       obtain rfl:a=Q0:=by have:=hiff.out.2 hx2;omega
       have hx2' : ¬ (4294967296*(b:Int)+u0<(m:Int)):=by omega
       have hx1' : ¬ (4294967296:Int)≤(a:Int):=by omega
       clear hm2 hiff hab hx2 hx1 ha1 ha2
       go_wp2
       go_ret2
       exact ⟨rfl,0,rfl⟩
      ·have hgt:Q0+1≤a:=by
        rcases Nat.lt_or_ge Q0 a with h|h
        ·exact h
        ·exfalso
         apply hex
         exact ⟨by omega,hiff.out.1 h⟩
       obtain ⟨a,rfl⟩:∃ k,a=k+1:=⟨a-1,by omega⟩
       have hab2:Hid (a*v1+(b+v1)=R):=by
        have:=hab.out
        have e:(a+1)*v1=a*v1+v1:=by rw [Nat.add_mul,Nat.one_mul]
        unfold Hid
        omega
       simp only [Int.natCast_add,Int.natCast_one] at hm ⊢
       by_cases hbk:4294967296≤b+v1
       ·obtain rfl:a=Q0:=(hh.out.2.1).done hab2.out (by omega) (by omega) hbk
        clear hiff hab hab2
        by_cases hx:4294967296≤a+1
        ·have hx' : (4294967296:Int)≤(a:Int)+1:=by omega
         have hbk' : (4294967296:Int)≤(b:Int)+v1:=by omega
         clear hm2 hm hex hx hbk
         go_wp2
         go_ret2
         exact ⟨rfl,0,rfl⟩
        ·have hm3:=hm2 (by omega)
         have hx2:¬ (m≤4294967296*b+u0):=fun h=>hex ⟨by omega,h⟩
         have hx' : ¬ (4294967296:Int)≤(a:Int)+1:=by omega
         have hx2' : 4294967296*(b:Int)+u0<(m:Int):=by omega
         have hbk' : (4294967296:Int)≤(b:Int)+v1:=by omega
         clear hm2 hex hx hx2 hbk
         go_wp2
         go_ret2
         exact ⟨rfl,0,rfl⟩
       ·by_cases hx:4294967296≤a+1
        ·have hx' : (4294967296:Int)≤(a:Int)+1:=by omega
         have hbk' : ¬ (4294967296:Int)≤(b:Int)+v1:=by omega
         have HB:=Lib.hid hbk
         clear hm2 hm hex hiff hx hbk
         go_wp2
         go_round
         case rel=>exact ⟨a,b+v1,rfl,by go_num,hab2,by omega,by omega,by omega⟩
         case measure=>simp [intOf]
        ·have hm3:=hm2 (by omega)
         have hx2:¬ (m≤4294967296*b+u0):=fun h=>hex ⟨by omega,h⟩
         have hx' : ¬ (4294967296:Int)≤(a:Int)+1:=by omega
         have hx2' : 4294967296*(b:Int)+u0<(m:Int):=by omega
         have hbk' : ¬ (4294967296:Int)≤(b:Int)+v1:=by omega
         have HB:=Lib.hid hbk
         clear hm2 hex hiff hx hx2 hbk
         go_wp2
         go_round
         case rel=>exact ⟨a,b+v1,rfl,by go_num,hab2,by omega,by omega,by omega⟩
         case measure=>simp [intOf]
    ·have hm3:=hm2 (by omega)
     have hx2:¬ (m≤4294967296*b+u1):=fun h=>hex ⟨by omega,h⟩
     have hx' : ¬ (4294967296:Int)≤(a:Int)+1:=by omega
     have hx2' : 4294967296*(b:Int)+u1<(m:Int):=by omega
     have hbk' : (4294967296:Int)≤(b:Int)+v1:=by omega
     clear hm2 hex hx hx2 hbk
     go_wp2
     go_loop [18,16] (fun sa sb => ∃ a b:Nat,sa = .int .u64 (a:Int)∧sb = .int .u64 (b:Int)∧Hid (a*v1+b=R)∧Q0≤a∧a≤4294967297∧b≤4294967295) (fun sa _=>(intOf sa).toNat)
     case atStart =>
      have hf:=hh.out.2.1
      refine ⟨q',r',rfl,rfl,hh.out.2.2.2.2.1,?_,by omega,?_⟩
      ·have:=hf.le_guess
       have e:=hh.out.2.2.2.2.2.1
       omega
      ·have:=hh.out.2.2.2.2.2.2
       omega
     case round =>
      obtain ⟨a,b,rfl,rfl,hab,ha1,ha2,hb1⟩:=hrel
      obtain ⟨m,hm⟩:∃ m:Nat,(a:Int)*v0=m:=⟨a*v0,by simp⟩
      have hiff:Hid (a≤Q0↔m≤4294967296*b+u0):=by
       have:=(hh.out.2.1).le_iff hab.out
       have e:m=a*v0:=by have:=hm;rw [← Int.natCast_mul] at this;omega
       rw [e];exact this
      have hm2:a≤4294967295→m≤18446744073709551615:=by
       intro h
       have e:m=a*v0:=by have:=hm;rw [← Int.natCast_mul] at this;omega
       have:a*v0≤4294967295*4294967295:=Nat.mul_le_mul h b7
       omega
      by_cases hex:a≤4294967295∧m≤4294967296*b+u0
      ·obtain ⟨hx1,hx2⟩:=hex
       have hm3:=hm2 hx1
       obtain rfl:a=Q0:=by have:=hiff.out.2 hx2;omega
       have hx2' : ¬ (4294967296*(b:Int)+u0<(m:Int)):=by omega
       have hx1' : ¬ (4294967296:Int)≤(a:Int):=by omega
       clear hm2 hiff hab hx2 hx1 ha1 ha2
       go_wp2
       go_ret2
       exact ⟨rfl,0,rfl⟩
      ·have hgt:Q0+1≤a:=by
        rcases Nat.lt_or_ge Q0 a with h|h
        ·exact h
        ·exfalso
         apply hex
         exact ⟨by omega,hiff.out.1 h⟩
       obtain ⟨a,rfl⟩:∃ k,a=k+1:=⟨a-1,by omega⟩
       have hab2:Hid (a*v1+(b+v1)=R):=by
        have:=hab.out
        have e:(a+1)*v1=a*v1+v1:=by rw [Nat.add_mul,Nat.one_mul]
        unfold Hid
        omega
       simp only [Int.natCast_add,Int.natCast_one] at hm ⊢
       by_cases hbk:4294967296≤b+v1
       ·obtain rfl:a=Q0:=(hh.out.2.1).done hab2.out (by omega) (by omega) hbk
        clear hiff hab hab2
        by_cases hx:4294967296≤a+1
        ·have hx' : (4294967296:Int)≤(a:Int)+1:=by omega
         have hbk' : (4294967296:Int)≤(b:Int)+v1:=by omega
         clear hm2 hm hex hx hbk
         go_wp2
         go_ret2
         exact ⟨rfl,0,rfl⟩
        ·have hm3:=hm2 (by omega)
         have hx2:¬ (m≤4294967296*b+u0):=fun h=>hex ⟨by omega,h⟩
         have hx' : ¬ (4294967296:Int)≤(a:Int)+1:=by omega
         have hx2' : 4294967296*(b:Int)+u0<(m:Int):=by omega
         have hbk' : (4294967296:Int)≤(b:Int)+v1:=by omega
         clear hm2 hex hx hx2 hbk
         go_wp2
         go_ret2
         exact ⟨rfl,0,rfl⟩
       ·by_cases hx:4294967296≤a+1
        ·have hx' : (4294967296:Int)≤(a:Int)+1:=by omega
         have hbk' : ¬ (4294967296:Int)≤(b:Int)+v1:=by omega
         have HB:=Lib.hid hbk
         clear hm2 hm hex hiff hx hbk
         go_wp2
         go_round
         case rel=>exact ⟨a,b+v1,rfl,by go_num,hab2,by omega,by omega,by omega⟩
         case measure=>simp [intOf]
        ·have hm3:=hm2 (by omega)
         have hx2:¬ (m≤4294967296*b+u0):=fun h=>hex ⟨by omega,h⟩
         have hx' : ¬ (4294967296:Int)≤(a:Int)+1:=by omega
         have hx2' : 4294967296*(b:Int)+u0<(m:Int):=by omega
         have hbk' : ¬ (4294967296:Int)≤(b:Int)+v1:=by omega
         have HB:=Lib.hid hbk
         clear hm2 hex hiff hx hx2 hbk
         go_wp2
         go_round
         case rel=>exact ⟨a,b+v1,rfl,by go_num,hab2,by omega,by omega,by omega⟩
         case measure=>simp [intOf]
   ·by_cases hx:4294967296≤a+1
    ·have hx' : (4294967296:Int)≤(a:Int)+1:=by omega
     have hbk' : ¬ (4294967296:Int)≤(b:Int)+v1:=by omega
     have HB:=Lib.hid hbk
     clear hm2 hm hex hiff hx hbk
     go_wp2
     go_round
     case rel=>exact ⟨a,b+v1,rfl,by go_num,hab2,by omega,by omega,by omega⟩
     case measure=>simp [intOf]
    ·have hm3:=hm2 (by omega)
     have hx2:¬ (m≤4294967296*b+u1):=fun h=>hex ⟨by omega,h⟩
     have hx' : ¬ (4294967296:Int)≤(a:Int)+1:=by omega
     have hx2' : 4294967296*(b:Int)+u1<(m:Int):=by omega
     have hbk' : ¬ (4294967296:Int)≤(b:Int)+v1:=by omega
     have HB:=Lib.hid hbk
     clear hm2 hex hiff hx hx2 hbk
     go_wp2
     go_round
     case rel=>exact ⟨a,b+v1,rfl,by go_num,hab2,by omega,by omega,by omega⟩
     case measure=>simp [intOf]
theorem div64_small (lo y:Nat) (w:World) (h2:0<y) (h3:y≤18446744073709551615) (h4:lo≤18446744073709551615) :
 Calls Tryz.prog 235 #[.int .u64 0,.int .u64 (lo:Int),.int .u64 (y:Int)] w fun e w'=>Hid (e = .returned (.tuple #[.int .u64 ((lo/y:Nat):Int),.int .u64 ((lo%y:Nat):Int)]))∧∃ k,w'=w.drewN k:=by
 have t1:((y:Int)==0)=false:=by simp;omega
 have t2:¬ ((y:Int)≤0):=by omega
 obtain ⟨a,ha⟩:∃ a:Nat,a=lo/y:=⟨_,rfl⟩
 obtain ⟨b,hb⟩:∃ b:Nat,b=lo%y:=⟨_,rfl⟩
 have la:a≤lo:=by rw [ha];exact Nat.div_le_self _ _
 have lb:b≤lo:=by rw [hb];exact Nat.mod_le _ _
 have e1:(lo:Int).tdiv y=a:=by rw [ha,Int.tdiv_eq_ediv_of_nonneg (by omega),Int.natCast_ediv]
 have e2:(lo:Int).tmod y=b:=by rw [hb,Int.tmod_eq_emod_of_nonneg (by omega),Int.natCast_emod]
 have e3:(lo:Int)/y=a:=by rw [ha,Int.natCast_ediv]
 have e4:(lo:Int)%y=b:=by rw [hb,Int.natCast_emod]
 rw [← ha,← hb]
 clear ha hb
 go_enter Tryz.func235,Tryz.ntmps235
 go_wp2
 go_quiet (fail)
 go_wp2
 go_ret2
 exact ⟨rfl,_,rfl⟩
theorem qB (y:Nat) (h0:0<y) (h1:y<aD):∃ s:Nat,s≤63∧(64:Int)-Lib.bitLen y=s∧9223372036854775808≤y*2^s∧y*2^s<aD:=by
 have hb:=Lib.bitLenAux_bounds 64 y (by rw [← show aD=2^64 from rfl];exact h1) (by omega)
 have hl:=Lib.bitLen_le y 64 (Nat.le_refl _) (by rw [← show aD=2^64 from rfl];exact h1)
 obtain ⟨b1,b2,b3⟩:=hb
 unfold Lib.bitLen at *
 generalize Lib.bitLenAux 64 y=l at *
 refine ⟨64-l,by omega,by omega,?_,?_⟩
 ·have:2^(l-1)*2^(64-l)≤y*2^(64-l):=Nat.mul_le_mul_right _ b2
  rw [← Nat.pow_add,show l-1+(64-l)=63 from by omega] at this
  exact this
 ·have:y*2^(64-l)<2^l*2^(64-l):=Nat.mul_lt_mul_of_pos_right b3 (Nat.pow_pos (by omega))
  rw [← Nat.pow_add,show l+(64-l)=64 from by omega] at this
  exact this
theorem div64_any (hi lo y:Nat) (w:World) (h2:hi<y) (h3:y<aD) (h4:lo<aD) :
 Calls Tryz.prog 235 #[.int .u64 (hi:Int),.int .u64 (lo:Int),.int .u64 (y:Int)] w fun e w' =>
  Hid (e = .returned (.tuple #[.int .u64 (((hi*aD+lo)/y:Nat):Int),.int .u64 (((hi*aD+lo)%y:Nat):Int)]))∧∃ k,w'=w.drewN k:=by
 have hW:=aJ
 rcases Nat.eq_zero_or_pos hi with rfl|h1
 ·simpa using div64_small lo y w h2 (by omega) (by omega)
 ·obtain ⟨s,hs,hbl,n1,n2⟩:=qB y (by omega) h3
  have hp:0<2^s:=Nat.pow_pos (by omega)
  have hT:aD=2^(64-s)*2^s:=iD (by omega)
  obtain ⟨sh1,sh2⟩:=tD (x:=lo) (s:=s) (by omega)
  have hLO:=hi_lt (s:=s) (by omega) h4
  obtain ⟨Y,hY⟩:∃ Y,Y=y*2^s:=⟨_,rfl⟩
  obtain ⟨H,hH⟩:∃ H,H=hi*2^s:=⟨_,rfl⟩
  obtain ⟨L,hL⟩:∃ L,L=lo*2^s%aD:=⟨_,rfl⟩
  obtain ⟨O,hO⟩:∃ O,O=lo/2^(64-s):=⟨_,rfl⟩
  have hLl:L<aD:=by rw [hL];exact Nat.mod_lt _ bC
  have hUY:H+O<Y:=by
   have:(hi+1)*2^s≤y*2^s:=Nat.mul_le_mul_right _ h2
   rw [Nat.add_mul,Nat.one_mul] at this
   rw [hY,hH,hO];omega
  have hN:(hi*aD+lo)*2^s=((H+O)*4294967296+L/4294967296)*4294967296+L%4294967296:=by
   have a1:=Nat.div_add_mod L 4294967296
   have a2:(hi*aD+lo)*2^s=H*aD+(L+aD*O):=by rw [hH,hL,hO,sh2];grind
   rw [a2,hW]
   omega
  have hY1:=Nat.div_add_mod Y 4294967296
  have hf:Half (H+O) (L/4294967296) Y (Y/4294967296) (Y%4294967296) (((H+O)*4294967296+L/4294967296)/Y) :=
   ⟨by omega,by omega,by omega,by omega,hUY,by omega,rfl⟩
  obtain ⟨R,hR1,hR2⟩:=hf.rest
  have hf0:Half R (L%4294967296) Y (Y/4294967296) (Y%4294967296) ((R*4294967296+L%4294967296)/Y) :=
   ⟨by omega,by omega,by omega,by omega,hR1,by omega,rfl⟩
  obtain ⟨R0,hR3,hR4⟩:=hf0.rest
  have hq:=hf.q_lt
  have hq0:=hf0.q_lt
  have hg1:=hf.guess_le
  have hg2:=hf0.guess_le
  obtain ⟨f1,f2⟩:=halves hN hY hR2 hR4 hR3
  obtain ⟨Q,hQ⟩:∃ Q,Q=((H+O)*4294967296+L/4294967296)/Y:=⟨_,rfl⟩
  obtain ⟨Q0,hQ0⟩:∃ Q0,Q0=(R*4294967296+L%4294967296)/Y:=⟨_,rfl⟩
  rw [← hQ] at hf hR2 hq f1
  rw [← hQ0] at hf0 hR4 hq0 f1
  obtain ⟨U,hU⟩:∃ U,U=H+O:=⟨_,rfl⟩
  rw [← hU] at hUY hN hf hR2 hg1 hQ
  have m1:U/(Y/4294967296)*(Y/4294967296)+U%(Y/4294967296)=U:=by rw [Nat.mul_comm];exact Nat.div_add_mod _ _
  have m2:R/(Y/4294967296)*(Y/4294967296)+R%(Y/4294967296)=R:=by rw [Nat.mul_comm];exact Nat.div_add_mod _ _
  have m3:=Nat.mod_lt U (y:=Y/4294967296) (by omega)
  have m4:=Nat.mod_lt R (y:=Y/4294967296) (by omega)
  obtain ⟨v1,hv1⟩:∃ v1,v1=Y/4294967296:=⟨_,rfl⟩
  obtain ⟨v0,hv0⟩:∃ v0,v0=Y%4294967296:=⟨_,rfl⟩
  obtain ⟨u1,hu1⟩:∃ u1,u1=L/4294967296:=⟨_,rfl⟩
  obtain ⟨u0,hu0⟩:∃ u0,u0=L%4294967296:=⟨_,rfl⟩
  rw [← hv1] at hf hf0 hg1 hg2 m1 m2 m3 m4
  rw [← hv0] at hf hf0
  rw [← hu1] at hf hR2 hQ hN
  rw [← hu0] at hf0 hR4 hQ0 hN
  have z1:U/v1*v1≤U:=Nat.div_mul_le_self _ _
  have z2:R/v1*v1≤R:=Nat.div_mul_le_self _ _
  rw [← f1,← f2]
  refine (div64_core hi lo y s Y H U L u1 u0 v1 v0 (U/v1) (U/v1*v1) (U%v1) Q R Q0 R0 (U*4294967296%aD) ((U*4294967296%aD+u1)%aD) (Q*Y%aD) (R/v1) (R/v1*v1) (R%v1)
   (Q*4294967296) (Q*4294967296+Q0) (R*4294967296%aD) ((R*4294967296%aD+u0)%aD) (Q0*Y%aD) (R0/2^s) w h1 h2 (by omega) (by omega) hbl hs ?_ ?_ ?_ ?_ ?_ ?_ ?_ ?_ ?_ ?_ ?_ ?_ ?_ ?_ ?_ ?_ ?_ ?_ ?_ ?_ ?_ ?_ ?_ ?_ ?_ ?_ ?_ ?_ ?_ ?_ ?_ ?_ ?_ ?_ ?_ ?_ ?_ ?_ ?_ ?_ ?_)
  ·rw [show (y:Int)*2^s=((y*2^s:Nat):Int) from by simp,lJ _ (by omega),hY]
  ·rw [hv1];simp
  ·rw [hv0];exact and_half Y (by omega)
  ·rw [show (hi:Int)*2^s=((hi*2^s:Nat):Int) from by simp,lJ _ (by omega),hH]
  ·rw [show (lo:Int)/2^(64-s)=((lo/2^(64-s):Nat):Int) from by simp,← hO,hU,hH]
   exact wX hi O s (by rw [hO];exact hLO) (by rw [← hH];omega)
  ·rw [show (lo:Int)*2^s=((lo*2^s:Nat):Int) from by simp,fN,hL,hW]
  ·rw [hu1];simp
  ·rw [hu0];exact and_half L (by omega)
  ·rw [Int.tdiv_eq_ediv_of_nonneg (by omega)];simp
  ·simp
  ·simp
  ·omega
  ·exact ⟨hf,hf0,by omega,rfl,by omega,rfl,by omega,by omega⟩
  ·rw [show (U:Int)*4294967296=((U*4294967296:Nat):Int) from by simp,fN,hW]
  ·rw [show ((U*4294967296%aD:Nat):Int)+u1=((U*4294967296%aD+u1:Nat):Int) from by simp,fN,hW]
  ·rw [show (Q:Int)*Y=((Q*Y:Nat):Int) from by simp,fN,hW]
  ·rw [IntKind.wrap_u64]
   rw [hW]
   generalize Q*Y=QY at *
   omega
  ·rw [Int.tdiv_eq_ediv_of_nonneg (by omega)];simp
  ·simp
  ·simp
  ·omega
  ·rw [show (Q:Int)*4294967296=((Q*4294967296:Nat):Int) from by simp,lJ _ (by omega)]
  ·rw [show ((Q*4294967296:Nat):Int)+Q0=((Q*4294967296+Q0:Nat):Int) from by simp,lJ _ (by omega)]
  ·rw [show (R:Int)*4294967296=((R*4294967296:Nat):Int) from by simp,fN,hW]
  ·rw [show ((R*4294967296%aD:Nat):Int)+u0=((R*4294967296%aD+u0:Nat):Int) from by simp,fN,hW]
  ·rw [show (Q0:Int)*Y=((Q0*Y:Nat):Int) from by simp,fN,hW]
  ·rw [IntKind.wrap_u64]
   rw [hW]
   generalize Q0*Y=QY at *
   omega
  ·simp
  all_goals omega
theorem ret_two {a b c d:Value} (h:a=c) (h' : b=d):Ending.returned (.tuple #[a,b]) = .returned (.tuple #[c,d]):=by rw [h,h']
theorem val_u64 {a b:Nat} (h:a=b):Value.int .u64 (a:Int) = .int .u64 (b:Int):=by rw [h]
theorem div64_q (hi lo y q r:Nat) (w:World) (h2:hi<y) (h3:y<aD) (h4:lo<aD) (hq:q=(hi*aD+lo)/y) (hr:r=(hi*aD+lo)%y) :
 Calls Tryz.prog 235 #[.int .u64 (hi:Int),.int .u64 (lo:Int),.int .u64 (y:Int)] w fun e w'=>e = .returned (.tuple #[.int .u64 (q:Int),.int .u64 (r:Int)])∧∃ k,w'=w.drewN k:=by
 rw [hq,hr]
 exact div64_any hi lo y w h2 h3 h4
def DivInv (xs zs:List Nat) (d k r:Nat):Prop :=
 Dig aD zs∧zs.length=xs.length∧r<d∧val aD (zs.drop k)*d+r=val aD (xs.drop k)
theorem DivInv.step {xs zs:List Nat} {d k r x:Nat} (h:DivInv xs zs d (k+1) r) (hx:xs[k]?=some x) (hxs:Dig aD xs) :
 DivInv xs (zs.set k ((r*aD+x)/d)) d k ((r*aD+x)%d)∧(r*aD+x)/d<aD:=by
 obtain ⟨h1,h2,h3,h4⟩:=h
 obtain ⟨hk,ex⟩:=List.getElem?_eq_some_iff.1 hx
 have hxl:=hxs.at_ hx
 have hq:(r*aD+x)/d<aD:=by
  rw [Nat.div_lt_iff_lt_mul (by omega)]
  have:(r+1)*aD≤d*aD:=Nat.mul_le_mul_right _ h3
  rw [Nat.add_mul,Nat.one_mul] at this
  rw [Nat.mul_comm aD d]
  omega
 refine ⟨⟨h1.set hq,by simp [h2],Nat.mod_lt _ (by omega),?_⟩,hq⟩
 have e:(zs.set k ((r*aD+x)/d)).drop k=(r*aD+x)/d::zs.drop (k+1):=by
  rw [List.drop_eq_getElem_cons (by simp;omega),List.getElem_set_self,List.drop_set_of_lt (by omega)]
 rw [e,lH _ _ _ hk,ex]
 simp only [val]
 have:=Nat.div_add_mod (r*aD+x) d
 rw [← h4]
 generalize (r*aD+x)/d=q at *
 generalize (r*aD+x)%d=m at *
 clear hq h1 hxs hxl h3 e
 generalize aD=V at *
 grind
theorem DivInv.start (xs:List Nat) {d:Nat} (hd:0<d):DivInv xs (List.replicate xs.length 0) d xs.length 0 :=
 ⟨Dig.replicate bC _,by simp,hd,by simp [val]⟩
theorem DivInv.finish {xs zs:List Nat} {d r:Nat} (h:DivInv xs zs d 0 r):val aD zs=val aD xs/d∧r=val aD xs%d:=by
 obtain ⟨_,_,h3,h4⟩:=h
 simp only [List.drop_zero] at h4
 rw [← h4]
 constructor
 ·rw [Nat.add_comm,Nat.add_mul_div_right _ _ (by omega),Nat.div_eq_of_lt h3];omega
 ·rw [Nat.add_comm,Nat.add_mul_mod_self_right,Nat.mod_eq_of_lt h3]
theorem trimmed_own (ad:Addr) (n c:Nat) (xs:List Nat) (w:World) (h:Rd w (some ad) n c xs) (hd:Dig aD xs) :
 Calls Tryz.prog 187 #[.slice (some ad) n c] w fun e w'=>(∃ v,e = .returned v∧Nt w v (val aD xs)∧v.ownBlock=some ad.block)∧w=w':=by
 refine (nU _ n c xs w h).mono ?_
 rintro e w' ⟨⟨k,⟨hk,hn,hv⟩,rfl⟩,rfl⟩
 exact ⟨⟨_,rfl,⟨_,k,c,xs.take k,rfl,h.take (by rw [← h.len];exact hk),hd.take k,hn,hv⟩,rfl⟩,rfl⟩
set_option maxHeartbeats 1000000 in
theorem nX (A:Option Addr) (n c:Nat) (xs:List Nat) (d:Nat) (w:World) (h:Rd w A n c xs) (hd:Dig aD xs) (hn:n≤2199023255552) (hd0:0<d) (hd1:d<aD) :
 Calls Tryz.prog 181 #[.slice A n c,.int .u64 (d:Int)] w fun e w' =>
  Hid (∃ v,e = .returned (.tuple #[v,.int .u64 ((val aD xs%d:Nat):Int)])∧Nt w' v (val aD xs/d)∧v.ownBlock=some w.heap.size)∧Below w.heap.size w w':=by
 have HX:=Lib.hid (And.intro h (And.intro hd (And.intro hd0 hd1)))
 have hnc:n≤c:=h.cap
 have hcm:c≤9223372036854775807:=h.2.2.1
 obtain ⟨i0,hi,hz0,hz1,hz2⟩:=info_parts eR
 have HI:=Lib.hid (And.intro hi (And.intro hz0 (And.intro hz1 hz2)))
 clear h hd hi hz0 hz1 hz2 hd0 hd1
 go_enter Tryz.func181,Tryz.ntmps181
 go_wp2_with (at_make;refine wpList_make_full _ rfl _ _ 94 rfl w.heap.size 154 i0 (.int .u64 0) 1 Tryz.underlying94 HI.out.1 HI.out.2.1 HI.out.2.2.1 _ _ _ _ n rfl rfl ?b0 ?b1 ?b2 ?b3 (Nat.le_refl _) ?_)
 case b0=>rfl
 case b1=>rfl
 case b2=>rw [HI.out.2.2.2];omega
 case b3=>show n≤9223372036854775807;omega
 intro w1 hown hg1
 have hb1:Below w.heap.size w w1:=(Below.refl _ _).grown hg1 (Nat.le_refl _) (fun k h=>by cases h)
 have hblk:=dQ hown
 have e0:DivInv xs (List.replicate n 0) d n 0:=by
  have:=DivInv.start xs HX.out.2.2.1
  rwa [HX.out.1.len] at this
 have HB:=Lib.hid hblk
 have H0:=Lib.hid e0
 clear hown hg1 hblk e0
 obtain ⟨g,hg⟩:∃ g,g=w.heap.size:=⟨_,rfl⟩
 rw [← hg] at HB ⊢
 have HG:=Lib.hid hg
 clear hg
 go_wp2
 go_loopw [7,8] (fun rs i wr => ∃ (k r:Nat) (zs:List Nat),k≤n∧i = .int .i64 ((k:Int)-1)∧rs = .int .u64 (r:Int)∧DivInv xs zs d k r∧Blk wr g 154 zs∧Below w.heap.size w wr) (fun _ i _=>(intOf i+1).toNat)
 case atStart=>exact ⟨n,0,_,Nat.le_refl _,rfl,rfl,H0.out,HB.out,hb1⟩
 case round =>
  obtain ⟨k,r,zs,hk,rfl,rfl,hinv,hblk,hb⟩:=hrel
  have hzn:zs.length=n:=by rw [hinv.2.1,HX.out.1.len]
  rcases Nat.eq_zero_or_pos k with rfl|hk0
  ·have hrd:=hblk.rd (by rw [hzn];show n≤9223372036854775807;omega)
   rw [hzn] at hrd
   obtain ⟨f1,f2⟩:=hinv.finish
   have HF:=Lib.hid (And.intro hinv.1 (And.intro hrd (And.intro f1 f2)))
   clear hinv hblk hzn hrd f1 f2
   simp only [show (((0:Nat):Int)-1) = -1 from rfl]
   go_wp2_with (go_at_call 187;refine (trimmed_own _ _ _ zs _ HF.out.2.1 HF.out.1).mono ?_;rintro e w' ⟨⟨v,rfl,hv,hvo⟩,rfl⟩)
   go_ret2
   exact ⟨⟨v,ret_two rfl (val_u64 HF.out.2.2.2),by rw [← HF.out.2.2.1];exact hv,by rw [hvo,HG.out]⟩,hb⟩
  ·obtain ⟨m,rfl⟩:∃ m,k=m+1:=⟨k-1,by omega⟩
   obtain ⟨ad,x,hA,_,hx,hcx⟩:=(HX.out.1.below hb).at_ (k:=m) (by omega)
   subst hA
   obtain ⟨hst,hq⟩:=hinv.step hx HX.out.2.1
   obtain ⟨q,hqq⟩:∃ q,q=(r*aD+x)/d:=⟨_,rfl⟩
   obtain ⟨r',hr'⟩:∃ r',r'=(r*aD+x)%d:=⟨_,rfl⟩
   have hdiv:=Lib.hid (fun w=>div64_q r x d q r' w hinv.2.2.1 HX.out.2.2.2 (HX.out.2.1.at_ hx) hqq hr')
   rw [← hqq,← hr'] at hst
   have HE:=Lib.hid (And.intro hst (And.intro hblk hzn))
   clear hx hblk hinv hst hk0 hq hzn hqq hr'
   simp only [Int.natCast_add,Int.natCast_one,show ((m:Int)+1-1)=m from by omega]
   go_wp2_with fail
   refine (hdiv.out _).mono ?_
   rintro e w2 ⟨rfl,k2,hk2⟩
   have hb2:Below wr.heap.size wr w2:=by rw [hk2];exact cI (Below.refl _ _) _
   clear hk2
   have hblk2:Blk w2 g 154 zs:=HE.out.2.1.below hb2 HE.out.2.1.lt
   have hb3:Below w.heap.size w w2:=hb.trans (hb2.mono hb.size)
   have hzn:=HE.out.2.2
   obtain ⟨z,hcz⟩:∃ z:Int,w2.cell? ⟨g,m,none⟩=some (.int .u64 z):=⟨_,hblk2.cell_get (by omega)⟩
   have hfz:=hblk2.frozen m
   have HE2:=Lib.hid hblk2
   clear hblk2 hzn hcx hdiv hb hb2
   go_wp2
   go_roundw
   case rel=>exact ⟨m,r',zs.set m q,by omega,rfl,rfl,HE.out.1,HE2.out.set_ _ _,hb3.setCell (by rw [HG.out];exact Nat.le_refl _) _⟩
   case measure=>simp [intOf]
theorem nY (A:Option Addr) (n c:Nat) (xs:List Nat) (d:Nat) (w:World) (h:Rd w A n c xs) (hd:Dig aD xs) (hn:n≤2199023255552) (hd0:0<d) (hd1:d<aD) :
 Calls Tryz.prog 181 #[.slice A n c,.int .u64 (d:Int)] w fun e w' =>
  Hid (∃ v,e = .returned (.tuple #[v,.int .u64 ((val aD xs%d:Nat):Int)])∧Nt w' v (val aD xs/d))∧Below w.heap.size w w' :=
 (nX A n c xs d w h hd hn hd0 hd1).mono fun _ _ ⟨⟨v,h1,h2,_⟩,h3⟩=>⟨⟨v,h1,h2⟩,h3⟩
theorem or_low (a b s:Nat) (hb:b<2^s) (h:a*2^s+b<aD):bits .or .u64 (b:Int) ((a*2^s:Nat):Int)=((a*2^s+b:Nat):Int):=by
 have hW:=aJ
 rw [uH _ _ (by omega) (by omega),Nat.or_comm,Nat.mul_comm,Nat.two_pow_add_eq_or_of_lt hb]
set_option maxHeartbeats 1000000 in
theorem pM (A:Option Addr) (n c:Nat) (xs:List Nat) (s:Nat) (w:World) (h:Rd w A n c xs) (hd:Dig aD xs) (hn:n≤2199023255552) (hs:s≤63) :
 Calls Tryz.prog 236 #[.slice A n c,.int .u64 (s:Int)] w fun e w' =>
  Hid (∃ zs,e = .returned (.slice (some ⟨w.heap.size,0,none⟩) (n+1) (n+1))∧Blk w' w.heap.size 154 zs∧zs.length=n+1∧Dig aD zs∧val aD zs=val aD xs*2^s)∧Below w.heap.size w w':=by
 have HX:=Lib.hid (And.intro h hd)
 have hnc:n≤c:=h.cap
 have hcm:c≤9223372036854775807:=h.2.2.1
 obtain ⟨i0,hi,hz0,hz1,hz2⟩:=info_parts eR
 have HI:=Lib.hid (And.intro hi (And.intro hz0 (And.intro hz1 hz2)))
 clear h hd hi hz0 hz1 hz2
 obtain ⟨g,hg⟩:∃ g,g=w.heap.size:=⟨_,rfl⟩
 rw [← hg]
 have HG:=Lib.hid hg
 go_enter Tryz.func236,Tryz.ntmps236
 go_wp2_with (at_make;refine wpList_make_full _ rfl _ _ 94 rfl w.heap.size 154 i0 (.int .u64 0) 1 Tryz.underlying94 HI.out.1 HI.out.2.1 HI.out.2.2.1 _ _ _ _ (n+1) rfl rfl ?b0 ?b1 ?b2 ?b3 (Nat.le_refl _) ?_)
 case b0=>omega
 case b1=>omega
 case b2=>rw [HI.out.2.2.2];omega
 case b3=>show n+1≤9223372036854775807;omega
 intro w1 hown hg1
 have hb1:Below w.heap.size w w1:=(Below.refl _ _).grown hg1 (Nat.le_refl _) (fun k h=>by cases h)
 have hblk:=dQ hown
 have e0:UpInv xs (List.replicate (n+1) 0) s 0:=by
  have:=UpInv.start xs s
  rwa [HX.out.1.len] at this
 have H0:=Lib.hid e0
 rw [← hg] at hblk hb1 ⊢
 have HB:=Lib.hid hblk
 clear hown hg1 hblk e0 hg
 go_wp2
 go_loopw [14] (fun i wr => ∃ (k:Nat) (zs:List Nat),k≤n∧i = .int .i64 (k:Int)∧UpInv xs zs s k∧Blk wr g 154 zs∧Below g w wr) (fun i _=>n-(intOf i).toNat)
 case atStart=>exact ⟨0,_,Nat.zero_le _,rfl,H0.out,HB.out,hb1⟩
 case round =>
  obtain ⟨k,zs,hk,rfl,hinv,hblk,hb⟩:=hrel
  have hzn:zs.length=n+1:=by rw [hinv.2.1,HX.out.1.len]
  have hgs:g<wr.heap.size:=hblk.lt
  by_cases hlt:k<n
  ·obtain ⟨ad,x,hA,hal,hx,hcx⟩:=(HX.out.1.below (by rw [← HG.out];exact hb)).at_ (k:=k) hlt
   subst hA
   obtain ⟨cc,hcc⟩:∃ cc,zs[k]?=some cc:=⟨_,List.getElem?_eq_getElem (by omega)⟩
   obtain ⟨hst,s1,s2,s3⟩:=hinv.step hs hx HX.out.2 hcc
   obtain ⟨p1,p2⟩:=tD (x:=x) (s:=s) (by omega)
   have hcz:wr.cell? ⟨g,k,none⟩=some (.int .u64 (cc:Int)):=hblk.cell hcc
   have hfz:=hblk.frozen k
   have hfz1:=hblk.frozen (k+1)
   obtain ⟨z1,hcz1⟩:∃ z:Int,wr.cell? ⟨g,k+1,none⟩=some (.int .u64 z):=⟨_,hblk.cell_get (by omega)⟩
   obtain ⟨lo,hlo⟩:∃ lo,lo=x*2^s%aD:=⟨_,rfl⟩
   obtain ⟨hi,hhi⟩:∃ hi,hi=x/2^(64-s):=⟨_,rfl⟩
   have r1:IntKind.u64.wrap ((x:Int)*2^s)=(lo:Int):=by rw [show (x:Int)*2^s=((x*2^s:Nat):Int) from by simp,fN,hlo,aJ]
   have r2:bits .or .u64 (cc:Int) (lo:Int)=((lo+cc:Nat):Int):=by rw [hlo,p1];exact or_low _ _ _ s1 s2
   obtain ⟨z,hz⟩:∃ z,z=lo+cc:=⟨_,rfl⟩
   rw [← hz] at r2
   have r3:(x:Int)/2^(64-s)=(hi:Int):=by rw [hhi];simp
   rw [← hlo,← hz,← hhi] at hst
   have HE:=Lib.hid (And.intro hst hblk)
   clear hx hblk hinv hst hcc s1 s2 s3 p1 p2 hlo hhi hz hzn
   go_wp2
   go_roundw
   case rel=>exact ⟨k+1,(zs.set k z).set (k+1) hi,by omega,by go_num,HE.out.1,(HE.out.2.set_ _ _).set_ _ _,(hb.setCell (Nat.le_refl _) _).setCell (Nat.le_refl _) _⟩
   case measure=>simp [intOf];omega
  ·obtain rfl:k=n:=by omega
   have hfin:=hinv
   rw [← HX.out.1.len] at hfin
   have HF:=Lib.hid (And.intro hinv.1 (And.intro hfin.finish (And.intro hzn hblk)))
   clear hinv hblk hzn hfin hlt
   go_wp2
   go_ret
   exact ⟨⟨zs,rfl,HF.out.2.2.2,HF.out.2.2.1,HF.out.1,HF.out.2.1⟩,hb⟩
theorem or_high (a b s:Nat) (hb:b<2^s) (h:a*2^s+b<aD):bits .or .u64 (b:Int) ((a*2^s:Nat):Int)=((b+a*2^s:Nat):Int):=by
 rw [or_low a b s hb h,Nat.add_comm]
set_option maxHeartbeats 1000000 in
theorem uZ (A:Option Addr) (n c:Nat) (xs:List Nat) (s:Nat) (w:World) (h:Rd w A n c xs) (hd:Dig aD xs) (hn:n≤2199023255552) (hs:s≤63) :
 Calls Tryz.prog 238 #[.slice A n c,.int .u64 (s:Int)] w (GivesNt w (val aD xs/2^s)):=by
 have HX:=Lib.hid (And.intro h hd)
 have hnc:n≤c:=h.cap
 have hcm:c≤9223372036854775807:=h.2.2.1
 obtain ⟨i0,hi,hz0,hz1,hz2⟩:=info_parts eR
 have HI:=Lib.hid (And.intro hi (And.intro hz0 (And.intro hz1 hz2)))
 clear h hd hi hz0 hz1 hz2
 obtain ⟨g,hg⟩:∃ g,g=w.heap.size:=⟨_,rfl⟩
 have HG:=Lib.hid hg
 go_enter Tryz.func238,Tryz.ntmps238
 go_wp2_with (at_make;refine wpList_make_full _ rfl _ _ 94 rfl w.heap.size 154 i0 (.int .u64 0) 1 Tryz.underlying94 HI.out.1 HI.out.2.1 HI.out.2.2.1 _ _ _ _ n rfl rfl ?b0 ?b1 ?b2 ?b3 (Nat.le_refl _) ?_)
 case b0=>rfl
 case b1=>rfl
 case b2=>rw [HI.out.2.2.2];omega
 case b3=>show n≤9223372036854775807;omega
 intro w1 hown hg1
 have hb1:Below w.heap.size w w1:=(Below.refl _ _).grown hg1 (Nat.le_refl _) (fun k h=>by cases h)
 have hblk:=dQ hown
 have e0:DownInv xs (List.replicate n 0) s 0:=by
  have:=DownInv.start xs s
  rwa [HX.out.1.len] at this
 have H0:=Lib.hid e0
 rw [← hg] at hblk hb1 ⊢
 have HB:=Lib.hid hblk
 clear hown hg1 hblk e0 hg
 go_wp2
 go_loopw [13] (fun i wr => ∃ (k:Nat) (zs:List Nat),k≤n∧i = .int .i64 (k:Int)∧DownInv xs zs s k∧Blk wr g 154 zs∧Below g w wr) (fun i _=>n-(intOf i).toNat)
 case atStart=>exact ⟨0,_,Nat.zero_le _,rfl,H0.out,HB.out,hb1⟩
 case round =>
  obtain ⟨k,zs,hk,rfl,hinv,hblk,hb⟩:=hrel
  have hzn:zs.length=n:=by rw [hinv.2.1,HX.out.1.len]
  have hgs:g<wr.heap.size:=hblk.lt
  by_cases hlt:k<n
  ·obtain ⟨ad,x,hA,hal,hx,hcx⟩:=(HX.out.1.below (by rw [← HG.out];exact hb)).at_ (k:=k) hlt
   subst hA
   have hfz:=hblk.frozen k
   obtain ⟨z1,hcz1⟩:∃ z:Int,wr.cell? ⟨g,k,none⟩=some (.int .u64 z):=⟨_,hblk.cell_get (by omega)⟩
   obtain ⟨hi,hhi⟩:∃ hi,hi=x/2^s:=⟨_,rfl⟩
   have r3:(x:Int)/2^s=(hi:Int):=by rw [hhi];simp
   by_cases hk0:0<k
   ·obtain ⟨cc,hcc⟩:∃ cc,zs[k-1]?=some cc:=⟨_,List.getElem?_eq_getElem (by omega)⟩
    have hk1:k-1+1=k:=by omega
    obtain ⟨hst,s1,s2⟩:=(hk1▸hinv:DownInv xs zs s (k-1+1)).step hs (by rw [hk1];exact hx) HX.out.2 hcc
    rw [show k-1+2=k+1 from by omega,hk1] at hst
    have hcz:wr.cell? ⟨g,k-1,none⟩=some (.int .u64 (cc:Int)):=hblk.cell hcc
    have hfz1:=hblk.frozen (k-1)
    have p1:x*2^(64-s)%aD=x%2^s*2^(64-s):=by
     have hW:aD=2^s*2^(64-s):=by rw [Nat.mul_comm];exact iD (by omega)
     rw [hW,Nat.mul_mod_mul_right]
    obtain ⟨lo,hlo⟩:∃ lo,lo=x*2^(64-s)%aD:=⟨_,rfl⟩
    have r1:IntKind.u64.wrap ((x:Int)*2^(64-s))=(lo:Int):=by rw [show (x:Int)*2^(64-s)=((x*2^(64-s):Nat):Int) from by simp,fN,hlo,aJ]
    have r2:bits .or .u64 (cc:Int) (lo:Int)=((cc+lo:Nat):Int):=by rw [hlo,p1];exact or_high _ _ _ s1 s2
    obtain ⟨z,hz⟩:∃ z,z=cc+lo:=⟨_,rfl⟩
    rw [← hz] at r2
    rw [← hlo,← hz,← hhi] at hst
    have HE:=Lib.hid (And.intro hst hblk)
    have hne:¬ k=k-1:=by omega
    clear hx hblk hinv hst hcc s1 s2 p1 hlo hhi hz hzn hk1
    go_wp2
    go_roundw
    case rel=>exact ⟨k+1,(zs.set k hi).set (k-1) z,by omega,by go_num,HE.out.1,(HE.out.2.set_ _ _).set_ _ _,(hb.setCell (Nat.le_refl _) _).setCell (Nat.le_refl _) _⟩
    case measure=>simp [intOf];omega
   ·have hst:DownInv xs (zs.set k hi) s (k+1):=by
     have:k=0:=by omega
     subst this
     rw [hhi]
     exact hinv.first hs hx HX.out.2
    have hkz:¬ (0<(k:Int)):=by omega
    have HE:=Lib.hid (And.intro hst hblk)
    clear hx hblk hinv hst hhi hzn
    go_wp2
    go_roundw
    case rel=>exact ⟨k+1,zs.set k hi,by omega,by go_num,HE.out.1,HE.out.2.set_ _ _,hb.setCell (Nat.le_refl _) _⟩
    case measure=>simp [intOf];omega
  ·obtain rfl:k=n:=by omega
   have hrd:=hblk.rd (by rw [hzn];show k≤9223372036854775807;omega)
   rw [hzn] at hrd
   have hfin:=hinv.2.2.1
   rw [List.take_of_length_le (by omega),List.take_of_length_le (by rw [HX.out.1.len];omega)] at hfin
   have HF:=Lib.hid (And.intro hinv.1 (And.intro hfin hrd))
   clear hinv hblk hzn hrd hfin hlt
   go_wp2_with (go_at_call 187;refine (eE _ _ _ zs _ HF.out.2.2 HF.out.1).mono ?_;rintro e w' ⟨⟨v,rfl,hv⟩,rfl⟩)
   go_ret
   exact ⟨v,rfl,by rw [← HF.out.2.1];exact hv,by rw [← HG.out];exact hb⟩
def mS (high middle low first second:Nat):Nat:=if first≤high then aD-1 else ((high*aD+middle)*aD+low)/(first*aD+second)
theorem rE {N2 low first second T word rest:Nat} (hf:0<first) (hT:T=(N2*aD+low)/(first*aD+second)) (h:word*first+rest=N2) :
 word≤T↔word*second≤rest*aD+low:=by
 have hp:0<first*aD:=Nat.mul_pos hf bC
 rw [hT,Nat.le_div_iff_mul_le (by omega)]
 subst h
 have e1:word*(first*aD+second)=word*first*aD+word*second:=by rw [Nat.mul_add,Nat.mul_assoc]
 have e2:(word*first+rest)*aD=word*first*aD+rest*aD:=Nat.add_mul _ _ _
 rw [e1,e2]
 omega
theorem guess_first {high middle low first second:Nat} (hf:high<first) (hl:low<aD):((high*aD+middle)*aD+low)/(first*aD+second)≤(high*aD+middle)/first :=
 nW rfl rfl hl (by omega)
theorem lex_iff {p r l:Nat} (hl:l<aD):p≤r*aD+l↔p/aD<r∨(p/aD=r∧p%aD≤l):=by
 have:=Nat.div_add_mod p aD
 have hm:p%aD<aD:=Nat.mod_lt _ bC
 rw [Nat.mul_comm] at this
 constructor
 ·intro h
  rcases Nat.lt_trichotomy (p/aD) r with h1|h1|h1
  ·exact .inl h1
  ·exact .inr ⟨h1,by rw [h1] at this;omega⟩
  ·exfalso
   have:(r+1)*aD≤p/aD*aD:=Nat.mul_le_mul_right _ h1
   rw [Nat.add_mul,Nat.one_mul] at this
   omega
 ·rintro (h1|⟨h1,h2⟩)
  ·have:(p/aD+1)*aD≤r*aD:=Nat.mul_le_mul_right _ h1
   rw [Nat.add_mul,Nat.one_mul] at this
   omega
  ·rw [h1] at this;omega
set_option maxHeartbeats 1000000 in
theorem yG (high middle low first second:Nat) (w:World) (h:first≤high) :
 Calls Tryz.prog 263 #[.int .u64 (high:Int),.int .u64 (middle:Int),.int .u64 (low:Int),.int .u64 (first:Int),.int .u64 (second:Int)] w fun e w'=>e = .returned (.int .u64 ((aD-1:Nat):Int))∧∃ k,w'=w.drewN k:=by
 have h' : (first:Int)≤high:=by omega
 go_enter Tryz.func263,Tryz.ntmps263
 go_wp2
 go_ret
 exact ⟨rfl,0,rfl⟩
set_option maxHeartbeats 2000000 in
theorem yH (high middle low first second:Nat) (w:World) (h:high<first) (h0:middle<aD) (h1:low<aD) (h2:first<aD) (h3:second<aD) (T:Nat) (hT:T=((high*aD+middle)*aD+low)/(first*aD+second)) :
 Calls Tryz.prog 263 #[.int .u64 (high:Int),.int .u64 (middle:Int),.int .u64 (low:Int),.int .u64 (first:Int),.int .u64 (second:Int)] w fun e w'=>e = .returned (.int .u64 (T:Int))∧∃ k,w'=w.drewN k:=by
 have HW:=Lib.hid aJ
 have ht:¬ ((first:Int)≤high):=by omega
 have hfm:(high*aD+middle)/first<aD:=by
  rw [Nat.div_lt_iff_lt_mul (by omega)]
  have:(high+1)*aD≤first*aD:=Nat.mul_le_mul_right _ h
  rw [Nat.add_mul,Nat.one_mul] at this
  rw [Nat.mul_comm aD first]
  omega
 have hTq:T≤(high*aD+middle)/first:=by rw [hT];exact guess_first h h1
 obtain ⟨N2,hN2⟩:∃ N2,N2=high*aD+middle:=⟨_,rfl⟩
 rw [← hN2] at hfm hTq hT
 obtain ⟨q,hq⟩:∃ q,q=N2/first:=⟨_,rfl⟩
 obtain ⟨r,hr⟩:∃ r,r=N2%first:=⟨_,rfl⟩
 have hdm:q*first+r=N2:=by rw [hq,hr,Nat.mul_comm];exact Nat.div_add_mod _ _
 have hrl:r<first:=by rw [hr];exact Nat.mod_lt _ (by omega)
 have cd:=Lib.hid (fun w=>div64_q high middle first q r w h h2 h0 (by rw [hq,hN2]) (by rw [hr,hN2]))
 rw [← hq] at hTq hfm
 have HS:=Lib.hid (And.intro hT (And.intro hdm (And.intro hrl (And.intro hTq (And.intro hfm (And.intro h1 (And.intro h2 h3)))))))
 have hf0:0<first:=by omega
 clear h0 h1 h2 h3 hT hN2 hfm hTq hq hr hdm hrl
 go_enter Tryz.func263,Tryz.ntmps263
 go_wp2_with fail
 refine (cd.out _).mono ?_
 rintro e w1 ⟨rfl,k1,hk1⟩
 have HK:=Lib.hid hk1
 clear hk1
 go_wp2
 go_loop [11,12] (fun a b => ∃ m rs:Nat,a = .int .u64 (m:Int)∧b = .int .u64 (rs:Int)∧Hid (m*first+rs=N2∧T≤m∧m<aD∧rs<aD)) (fun a _=>(intOf a).toNat)
 case atStart=>exact ⟨q,r,rfl,rfl,HS.out.2.1,HS.out.2.2.2.1,HS.out.2.2.2.2.1,by have:=HS.out;omega⟩
 case round =>
  obtain ⟨m,rs,rfl,rfl,hinv⟩:=hrel
  obtain ⟨i1,i2,i3,i4⟩:=hinv.out
  obtain ⟨hT,_,_,_,_,h1,h2,h3⟩:=HS.out
  have hiff:=rE hf0 hT i1
  have hlex:=lex_iff (p:=m*second) (r:=rs) h1
  obtain ⟨ab,hab⟩:∃ ab,m*second/aD=ab:=⟨_,rfl⟩
  obtain ⟨bl,hbl⟩:∃ bl,m*second%aD=bl:=⟨_,rfl⟩
  have hmul:=Lib.hid (fun w=>(Tryz.bits_Mul64 m second i3 h3 w).mono (fun e w' h=>(show e = .returned (.tuple #[.int .u64 (ab:Int),.int .u64 (bl:Int)])∧w=w' from ⟨by rw [h.1,← hab,← hbl];rfl,h.2.symm⟩)))
  rw [hab,hbl] at hlex
  have hdone:(ab<rs∨(ab=rs∧bl≤low))→m=T:=by
   intro h
   have:=hiff.2 (hlex.2 h)
   omega
  have hnot:¬ (ab<rs∨(ab=rs∧bl≤low))→T<m:=by
   intro h
   rcases Nat.lt_or_ge T m with h'|h'
   ·exact h'
   ·exact absurd (hlex.1 (hiff.1 h')) h
  by_cases hex:ab<rs∨(ab=rs∧bl≤low)
  ·have HD:=Lib.hid (hdone hex)
   clear hiff hlex hdone hnot hab hbl i1 i2 i3 i4 h1 h2 h3 hT
   rcases hex with hx|⟨hx,hy⟩
   ·have hx' : (ab:Int)<rs:=by omega
    clear hx
    go_wp2_with (go_at_call 224;refine (hmul.out _).mono ?_;rintro e w' ⟨rfl,rfl⟩)
    go_ret
    exact ⟨by rw [← HD.out];rfl,_,HK.out⟩
   ·have hx' : ¬ (ab:Int)<rs:=by omega
    have hx2:((ab:Int)==rs)=true:=by simp;omega
    have hy' : (bl:Int)≤low:=by omega
    clear hx hy
    go_wp2_with (go_at_call 224;refine (hmul.out _).mono ?_;rintro e w' ⟨rfl,rfl⟩)
    go_ret
    exact ⟨by rw [← HD.out];rfl,_,HK.out⟩
  ·have hTm:=hnot hex
   obtain ⟨m,rfl⟩:∃ m',m=m'+1:=⟨m-1,by omega⟩
   have j1:m*first+(rs+first)=N2:=by rw [← i1,Nat.add_mul,Nat.one_mul];omega
   have hm1:(m:Int)+1-1=m:=by omega
   obtain ⟨r2,hr2⟩:∃ r2,(rs+first)%aD=r2:=⟨_,rfl⟩
   have hw:IntKind.u64.wrap ((rs:Int)+first)=(r2:Int):=by rw [show (rs:Int)+first=((rs+first:Nat):Int) from by simp,fN,← hr2,aJ]
   have HM:=Lib.hid hmul.out
   clear hmul hiff hlex hdone hnot hab hbl i1 i2
   have hx' : ¬ (ab:Int)<rs:=fun h=>hex (.inl (by omega))
   have hmb:(m:Int)≤18446744073709551614:=by have:=HW.out;omega
   simp only [Int.natCast_add,Int.natCast_one] at HM ⊢
   by_cases hov:r2<first
   ·have hge:aD≤rs+first:=by
     rcases Nat.lt_or_ge (rs+first) aD with h|h
     ·rw [Nat.mod_eq_of_lt h] at hr2;omega
     ·exact h
    have HD:Hid (m=T):=by
     have a1:=(rE hf0 hT j1).2 (by
      have:m*second≤aD*aD:=Nat.mul_le_mul (by omega) (by omega)
      have:aD*aD≤(rs+first)*aD:=Nat.mul_le_mul_right _ hge
      omega)
     unfold Hid
     omega
    have hov' : (r2:Int)<first:=by omega
    by_cases he:ab=rs
    ·have hx2:((ab:Int)==rs)=true:=by simp;omega
     have hy' : ¬ ((bl:Int)≤low):=fun h=>hex (.inr ⟨he,by omega⟩)
     clear he hex hge hov hr2 j1 hTm i3 i4 h1 h2 h3 hT
     go_wp2_with (go_at_call 224;refine (HM.out _).mono ?_;rintro e w' ⟨rfl,rfl⟩)
     go_ret
     exact ⟨by rw [← HD.out];rfl,_,HK.out⟩
    ·have hx2:((ab:Int)==rs)=false:=by simp;omega
     clear he hex hge hov hr2 j1 hTm i3 i4 h1 h2 h3 hT
     go_wp2_with (go_at_call 224;refine (HM.out _).mono ?_;rintro e w' ⟨rfl,rfl⟩)
     go_ret
     exact ⟨by rw [← HD.out];rfl,_,HK.out⟩
   ·have hlt:rs+first<aD:=by
     rcases Nat.lt_or_ge (rs+first) aD with h|h
     ·exact h
     ·rw [Nat.mod_eq_sub_mod h,Nat.mod_eq_of_lt (by omega)] at hr2
      omega
    have HN:Hid (m*first+r2=N2∧T≤m∧m<aD∧r2<aD):=by
     rw [Nat.mod_eq_of_lt hlt] at hr2
     refine ⟨by omega,by omega,by omega,by omega⟩
    have hov' : ¬ (r2:Int)<first:=by omega
    by_cases he:ab=rs
    ·have hx2:((ab:Int)==rs)=true:=by simp;omega
     have hy' : ¬ ((bl:Int)≤low):=fun h=>hex (.inr ⟨he,by omega⟩)
     clear he hex hlt hov hr2 j1 hTm i3 i4 h1 h2 h3 hT
     go_wp2_with (go_at_call 224;refine (HM.out _).mono ?_;rintro e w' ⟨rfl,rfl⟩)
     go_round
     case rel=>exact ⟨m,r2,by go_num,rfl,HN⟩
     case measure=>simp [intOf]
    ·have hx2:((ab:Int)==rs)=false:=by simp;omega
     clear he hex hlt hov hr2 j1 hTm i3 i4 h1 h2 h3 hT
     go_wp2_with (go_at_call 224;refine (HM.out _).mono ?_;rintro e w' ⟨rfl,rfl⟩)
     go_round
     case rel=>exact ⟨m,r2,by go_num,rfl,HN⟩
     case measure=>simp [intOf]
theorem guess_any (high middle low first second:Nat) (w:World) (h0:middle<aD) (h1:low<aD) (h2:first<aD) (h3:second<aD) :
 Calls Tryz.prog 263 #[.int .u64 (high:Int),.int .u64 (middle:Int),.int .u64 (low:Int),.int .u64 (first:Int),.int .u64 (second:Int)] w fun e w'=>e = .returned (.int .u64 (mS high middle low first second:Int))∧∃ k,w'=w.drewN k:=by
 unfold mS
 by_cases h:first≤high
 ·rw [if_pos h]
  exact yG high middle low first second w h
 ·rw [if_neg h]
  exact yH high middle low first second w (by omega) h0 h1 h2 h3 _ rfl
theorem u3_alg (A P V low mid h:Nat):A+P*low+P*V*mid+P*V*V*h=((h*V+mid)*V+low)*P+A:=by grind
theorem v2_alg (A P V s f:Nat):A+P*s+P*V*f=(f*V+s)*P+A:=by grind
theorem guess_ok {us vs:List Nat} {n h mid low f s:Nat} (hn:2≤n) (hu:us.length=n+1) (hv:vs.length=n) (du:Dig aD us) (dv:Dig aD vs)
 (g0:us[n]?=some h) (g1:us[n-1]?=some mid) (g2:us[n-2]?=some low) (g3:vs[n-1]?=some f) (g4:vs[n-2]?=some s) (hf:9223372036854775808≤f) (hlt:val aD us<val aD vs*aD) :
 val aD us/val aD vs≤mS h mid low f s∧mS h mid low f s≤val aD us/val aD vs+1∧mS h mid low f s<aD:=by
 have hW:=aJ
 obtain ⟨m,rfl⟩:∃ m,n=m+2:=⟨n-2,by omega⟩
 simp only [show m+2-1=m+1 from by omega,show m+2-2=m from by omega] at g1 g2 g3 g4
 have l0:=du.at_ g0
 have l1:=du.at_ g1
 have l2:=du.at_ g2
 have l3:=dv.at_ g3
 have l4:=dv.at_ g4
 obtain ⟨k0,e0⟩:=List.getElem?_eq_some_iff.1 g0
 obtain ⟨k1,e1⟩:=List.getElem?_eq_some_iff.1 g1
 obtain ⟨k2,e2⟩:=List.getElem?_eq_some_iff.1 g2
 obtain ⟨k3,e3⟩:=List.getElem?_eq_some_iff.1 g3
 obtain ⟨k4,e4⟩:=List.getElem?_eq_some_iff.1 g4
 have hul:=bV (du.take m)
 have hvl:=bV (dv.take m)
 rw [List.length_take,Nat.min_eq_left (by omega)] at hul hvl
 have hU:val aD us=val aD (us.take m)+aD^m*low+aD^(m+1)*mid+aD^(m+2)*h:=by
  have:val aD us=val aD (us.take (m+2+1)):=by rw [List.take_of_length_le (by omega)]
  rw [this,aF _ _ _ k0,aF _ _ _ k1,aF _ _ _ k2,e0,e1,e2]
 have hV:val aD vs=val aD (vs.take m)+aD^m*s+aD^(m+1)*f:=by
  have:val aD vs=val aD (vs.take (m+1+1)):=by rw [List.take_of_length_le (by omega)]
  rw [this,aF _ _ _ k3,aF _ _ _ k4,e3,e4]
 have hVp:0<val aD vs:=by
  have:0<aD^(m+1)*f:=Nat.mul_pos (Nat.pow_pos bC) (by omega)
  omega
 have hqW:val aD us/val aD vs<aD:=by rw [Nat.div_lt_iff_lt_mul hVp,Nat.mul_comm];exact hlt
 have U3:val aD us=((h*aD+mid)*aD+low)*aD^m+val aD (us.take m):=by
  rw [hU,show aD^(m+2)=aD^m*aD*aD from by rw [Nat.pow_succ,Nat.pow_succ],Nat.pow_succ]
  exact u3_alg _ _ _ _ _ _
 have V2:val aD vs=(f*aD+s)*aD^m+val aD (vs.take m):=by
  rw [hV,Nat.pow_succ]
  exact v2_alg _ _ _ _ _
 have hfW:aD≤f*aD+s:=by
  have:1*aD≤f*aD:=Nat.mul_le_mul_right _ (by omega)
  omega
 unfold mS
 by_cases hc:f≤h
 ·rw [if_pos hc]
  refine ⟨by omega,?_,by omega⟩
  have hV1:val aD vs=f*aD^(m+1)+(val aD (vs.take m)+aD^m*s):=by
   rw [hV]
   generalize aD^(m+1)=P
   rw [Nat.mul_comm f P];omega
  refine guess_top (v1:=f) (vl:=val aD (vs.take m)+aD^m*s) (ul:=0) (M:=aD^(m+1)) (B:=aD) ?_ hV1 ?_ (by omega) (Nat.le_refl _)
  ·have:f*aD*aD^(m+1)≤aD^(m+2)*h:=by
    have e:aD^(m+2)*h=h*(aD*aD^(m+1)):=by rw [Nat.pow_succ aD (m+1),Nat.mul_comm,Nat.mul_comm (aD^(m+1))]
    rw [e,Nat.mul_assoc]
    exact Nat.mul_le_mul_right _ hc
   omega
  ·have:aD^m*(s+1)≤aD^m*aD:=Nat.mul_le_mul_left _ l4
   rw [Nat.mul_add,Nat.mul_one,← Nat.pow_succ] at this
   have e:m.succ=m+1:=rfl
   rw [e] at this
   omega
 ·rw [if_neg hc]
  have hp2:0<f*aD+s:=by omega
  have hle:=Nat.div_mul_le_self ((h*aD+mid)*aD+low) (f*aD+s)
  have htW:((h*aD+mid)*aD+low)/(f*aD+s)<aD:=by
   rw [Nat.div_lt_iff_lt_mul hp2]
   have a1:(h*aD+mid+1)*aD≤(f*aD)*aD:=Nat.mul_le_mul_right _ (by
    have:(h+1)*aD≤f*aD:=Nat.mul_le_mul_right _ (by omega)
    rw [Nat.add_mul,Nat.one_mul] at this
    omega)
   rw [Nat.add_mul,Nat.one_mul] at a1
   have a2:aD*(f*aD+s)=f*aD*aD+aD*s:=by rw [Nat.mul_add,Nat.mul_comm aD (f*aD)]
   omega
  refine ⟨?_,?_,htW⟩
  ·exact nW (u2:=(h*aD+mid)*aD+low) (v1:=f*aD+s) U3 V2 hul hp2
  ·exact guess_le U3 V2 hvl hle (by omega) hfW
theorem put_put {ys zs ws:List Nat} {o:Nat} (h:o+zs.length≤ys.length) (hl:ws.length=zs.length):put (put ys o zs) o ws=put ys o ws:=by
 unfold put
 rw [List.take_append_of_le_length (by simp;omega),List.take_take,Nat.min_self,hl]
 congr 2
 rw [← List.append_assoc,List.drop_append_of_le_length (by simp;omega),List.drop_of_length_le (by simp;omega)]
 rfl
theorem wY {ys zs:List Nat} {o:Nat} (h:o+zs.length≤ys.length):((put ys o zs).drop o).take zs.length=zs:=by
 unfold put
 rw [List.drop_append_of_le_length (by simp;omega),List.drop_of_length_le (by simp;omega),List.nil_append,List.take_append_of_le_length (Nat.le_refl _),List.take_of_length_le (Nat.le_refl _)]
theorem fV {ys:List Nat} {o k n:Nat} (hk:k<n):((ys.drop o).take n)[k]?=ys[o+k]?:=by
 rw [List.getElem?_take,if_pos hk,List.getElem?_drop]
theorem only_drew {w w' : World} {g:Nat} (h:w.grownBy w' (some g)):w.grownBy w'.drew (some g):=⟨h.os,h.tape,h.output,h.size,h.block⟩
set_option maxHeartbeats 4000000 in
theorem takeOut_any (g o n cP:Nat) (t:TypeId) (ys:List Nat) (A:Option Addr) (c:Nat) (vs:List Nat) (w:World) (hb:Blk w g t ys) (hys:Dig aD ys) (hn:2≤n) (hn2:n≤2199023255552) (hwin:o+n+1≤ys.length) (hcP:n+1≤cP)
 (hm63:cP≤9223372036854775807) (h:Rd w A n c vs) (hd:Dig aD vs) (ha:Away A n g) (f:Nat) (hf:vs[n-1]?=some f) (hfb:9223372036854775808≤f) (hlt:val aD ((ys.drop o).take (n+1))<val aD vs*aD) :
 Calls Tryz.prog 237 #[.slice (some ⟨g,o,none⟩) (n+1) cP,.slice A n c] w fun e w' =>
  Hid (∃ zs:List Nat,e = .returned (.int .u64 ((val aD ((ys.drop o).take (n+1))/val aD vs:Nat):Int))∧zs.length=n+1∧Dig aD zs∧val aD zs=val aD ((ys.drop o).take (n+1))%val aD vs∧zs[n]?=some 0∧Blk w' g t (put ys o zs)∧w.grownBy w' (some g)):=by
 have hW:=aJ
 obtain ⟨U,hU⟩:∃ U,U=val aD ((ys.drop o).take (n+1)):=⟨_,rfl⟩
 obtain ⟨V,hV⟩:∃ V,V=val aD vs:=⟨_,rfl⟩
 have hwl:((ys.drop o).take (n+1)).length=n+1:=by simp;omega
 obtain ⟨y0,hy0⟩:∃ y,ys[o+n]?=some y:=⟨_,List.getElem?_eq_getElem (by omega)⟩
 obtain ⟨y1,hy1⟩:∃ y,ys[o+(n-1)]?=some y:=⟨_,List.getElem?_eq_getElem (by omega)⟩
 obtain ⟨y2,hy2⟩:∃ y,ys[o+(n-2)]?=some y:=⟨_,List.getElem?_eq_getElem (by omega)⟩
 obtain ⟨ad,f',hA,hal,hf',hcf⟩:=h.at_ (k:=n-1) (by omega)
 obtain ⟨ad',s,hA',_,hs',hcs⟩:=h.at_ (k:=n-2) (by omega)
 rw [hA] at hA'
 injection hA' with hA'
 subst hA'
 subst hA
 rw [hf] at hf'
 injection hf' with hf'
 subst hf'
 have hg:=guess_ok hn hwl h.len ((hys.drop o).take _) hd (by rw [fV (by omega)];exact hy0) (by rw [fV (by omega)];exact hy1) (by rw [fV (by omega)];exact hy2) hf hs' hfb hlt
 rw [← hU,← hV] at hg
 have l1:=hys.at_ hy1
 have l2:=hys.at_ hy2
 have l3:=hd.at_ hf
 have l4:=hd.at_ hs'
 obtain ⟨q,hq⟩:∃ q,q=mS y0 y1 y2 f s:=⟨_,rfl⟩
 have cg:=Lib.hid (fun w=>guess_any y0 y1 y2 f s w l1 l2 l3 l4)
 rw [← hq] at hg cg
 obtain ⟨g1,g2,g3⟩:=hg
 have hVp:0<V:=by
  have hl:=h.len
  have:vs≠[]:=by rintro rfl;simp at hf
  rcases Nat.eq_zero_or_pos V with e|e
  ·rw [hV.symm.trans e,Nat.zero_mul] at hlt
   omega
  ·exact e
 have hVT:V≤aD^n:=by
  have:=bV hd
  rw [h.len,← hV] at this
  omega
 have hUs:U=val aD ((ys.drop o).take n)+aD^n*y0:=by
  have hk:n<(ys.drop o).length:=by simp;omega
  rw [hU,aF _ _ _ hk]
  have:(ys.drop o)[n]=y0:=by
   have:=fV (ys:=ys) (o:=o) (k:=n) (n:=n+1) (by omega)
   rw [hy0,List.getElem?_take,if_pos (by omega),List.getElem?_eq_getElem hk] at this
   injection this
  rw [this]
 have hcy0:w.cell? ⟨g,o+n,none⟩=some (.int .u64 (y0:Int)):=hb.cell hy0
 have hcy1:w.cell? ⟨g,o+(n-1),none⟩=some (.int .u64 (y1:Int)):=hb.cell hy1
 have hcy2:w.cell? ⟨g,o+(n-2),none⟩=some (.int .u64 (y2:Int)):=hb.cell hy2
 have hnc:n≤c:=h.cap
 have hcm:c≤9223372036854775807:=h.2.2.1
 have hn1:n≠0:=by omega
 have HF:=Lib.hid (And.intro hys (And.intro h (And.intro hd (And.intro ha (And.intro hb (And.intro hU (And.intro hV (And.intro g1 (And.intro g2 (And.intro g3 (And.intro hVp (And.intro hVT (And.intro hUs hy0)))))))))))))
 rw [← hU,← hV]
 clear hlt hU hV hwl hy0 hy1 hy2 hf hs' l1 l2 l3 l4 hq g1 g2 g3 hVp hVT hUs hys h hd ha hb hW hfb
 go_enter Tryz.func237,Tryz.ntmps237
 go_wp2
 go_quiet ((go_at_call 263;exact Calls.quiet_of (cg.out _)))
 have hcy0' : (w.drewN nq).cell? ⟨g,o+n,none⟩=some (.int .u64 (y0:Int)):=hcy0
 have HB:=Lib.hid (show Blk (w.drewN nq) g t ys∧Rd (w.drewN nq) (some ad) n c vs∧w.grownBy (w.drewN nq) (some g) from ⟨HF.out.2.2.2.2.1,HF.out.2.1,⟨rfl,rfl,rfl,Nat.le_refl _,fun _ _ _=>rfl⟩⟩)
 generalize w.drewN nq=w2 at *
 have ct:=Lib.hid (fun W hB hR=>lI g o n cP t ys (some ad) n c vs q W hB HF.out.1 (by omega) (Nat.le_refl _) (by omega) hm63 hR HF.out.2.2.1 HF.out.2.2.2.1 HF.out.2.2.2.2.2.2.2.2.2.1)
 clear hcy0 hcy1 hcy2 hcs hcf cg
 have hle:n≤n+1:=by omega
 go_wp2
 go_region_with ((go_at_call 261;refine (ct.out _ ?_ ?_).mono ?_;exact HB.out.1;exact HB.out.2.1;rintro e w3 ⟨zs,bor,rfl,hz⟩;have hcy3:w3.cell? ⟨g,o+n,none⟩=some (.int .u64 (y0:Int)):=hz.2.2.2.2.1.cell (by rw [oV (by rw [hz.1];exact Nat.le_refl _) (by omega)];exact HF.out.2.2.2.2.2.2.2.2.2.2.2.2.2);have HZ:=Lib.hid hz;clear hz))
 all_goals
  obtain ⟨hys,h,hd,ha,hb,hU,hV,g1,g2,g3,hVp,hVT,hUs,hy0⟩:=HF.out
  obtain ⟨hz1,hz2,hz3,hz4,hz5,hz6⟩:=HZ.out
  have hxT:=bV hz2
  rw [hz1] at hxT
  have htk:=take_ok (u:=U) (v:=V) (h:=y0) (t:=q) (bor:=bor) hUs (by rw [hV];exact hz4) hxT hVT g1 g2 hVp
  have hg3:w.grownBy w3 (some g):=by first|exact cU HB.out.2.2 hz6|exact cU (only_drew HB.out.2.2) hz6
  have hpl:(put ys o zs).length=ys.length:=cV (by omega)
  by_cases hbr:y0<bor
  ·have hbr' : (y0:Int)<bor:=by omega
   obtain ⟨k1,k2⟩:=htk.2 hbr
   have ca:=iQ g o n cP t (put ys o zs) (some ad) n c vs 1 w3 hz5 (rD hys hz2) (by rw [hpl];omega) (Nat.le_refl _) (by omega) hm63 (h.only ha hg3) hd ha eH
   simp only [Int.natCast_one] at ca
   have CA:=Lib.hid ca
   have hq0:1≤q:=by rw [k1];exact Nat.le_add_left 1 _
   have hq1:(1:Int)≤q:=by omega
   have hqW:(q:Int)≤18446744073709551615:=by have:=aJ;omega
   have HK:=Lib.hid (And.intro k1 (And.intro k2 (And.intro hg3 (And.intro hpl (And.intro hz1 hz2)))))
   clear htk k1 k2 ca hbr g1 g2 g3 hVp hVT hUs hU hV hys h hd ha hb hz1 hz2 hz3 hz4 hz5 hz6 hxT hg3 hpl hcy3 HZ hcy0' hq0
   go_wp2_with fail
   refine CA.out.mono ?_
   rintro e w4 ⟨zs2,cy,rfl,q1,q2,q3,q4,q5,q6⟩
   obtain ⟨k1,k2,hg3,hpl,hz1,hz2⟩:=HK.out
   rw [put_put (by omega) (by omega)] at q5
   obtain ⟨z,hcz⟩:∃ z:Int,w4.cell? ⟨g,o+n,none⟩=some (.int .u64 z):=⟨_,q5.cell_get (by rw [cV (by omega)];omega)⟩
   have hfz:=q5.frozen (o+n)
   have HQ:=Lib.hid (And.intro q1 (And.intro q2 (And.intro q3 (And.intro q4 (And.intro q5 q6)))))
   clear q1 q2 q3 q4 q5 q6 k1 k2 hg3 hpl hz1 hz2
   go_wp2
   go_ret
   obtain ⟨k1,k2,hg3,hpl,hz1,hz2⟩:=HK.out
   obtain ⟨q1,q2,q3,q4,q5,q6⟩:=HQ.out
   have hwin2:=wY (ys:=ys) (zs:=zs) (o:=o) (by omega)
   rw [hz1] at hwin2
   rw [hwin2,Nat.one_mul,← HF.out.2.2.2.2.2.2.1] at q4
   have hzv:=bV q2
   rw [q1] at hzv
   have hmod:val aD zs2=U%V:=by
    have hm:U%V<V:=Nat.mod_lt _ HF.out.2.2.2.2.2.2.2.2.2.2.1
    have hVT:=HF.out.2.2.2.2.2.2.2.2.2.2.2.1
    rw [← k2] at q4
    rcases Nat.lt_or_ge cy 1 with e|e
    ·have:cy=0:=by omega
     subst this
     omega
    ·have:aD^n*1≤aD^n*cy:=Nat.mul_le_mul_left _ e
     rcases Nat.lt_or_ge cy 2 with e2|e2
     ·have:cy=1:=by omega
      subst this
      omega
     ·have:aD^n*2≤aD^n*cy:=Nat.mul_le_mul_left _ e2
      omega
   have P1:(q:Int)-1=((U/V:Nat):Int):=by omega
   have P2:(zs2 ++ [0]).length=n+1:=by simp [q1]
   have P3:Dig aD (zs2 ++ [0]):=q2.app (Dig.cons bC (Dig.nil _))
   have P4:val aD (zs2 ++ [0])=U%V:=by rw [cL,hmod];simp
   have P5:(zs2 ++ [0])[n]?=some 0:=by rw [List.getElem?_append_right (by omega)];simp [q1]
   have P6:Blk (w4.setCell ⟨g,o+n,none⟩ (.int .u64 0)) g t (put ys o (zs2 ++ [0])):=by rw [← iC q1 (by omega)];exact q5.set_ _ 0
   have P7:=cU (cU hg3 q6) (eL w4 g (o+n) (.int .u64 0))
   first
    | exact ⟨zs2 ++ [0],bX P1,P2,P3,P4,P5,P6,P7⟩
    | exact ⟨bX P1,zs2 ++ [0],P2,P3,P4,P5,P6,P7⟩
  ·have hbr' : ¬ (y0:Int)<bor:=by omega
   obtain ⟨k1,k2,k3⟩:=htk.1 (by omega)
   obtain ⟨z,hcz⟩:∃ z:Int,w3.cell? ⟨g,o+n,none⟩=some (.int .u64 z):=⟨_,hz5.cell_get (by rw [hpl];omega)⟩
   have hfz:=hz5.frozen (o+n)
   have HK:=Lib.hid (And.intro k1 (And.intro k2 hg3))
   clear htk k1 k2 k3 hbr g1 g2 g3 hVp hVT hUs hU hV hys h hd ha hb hz1 hz2 hz3 hz4 hz5 hz6 hxT hg3 hpl hcy3 hcy0'
   go_wp2
   go_ret
   obtain ⟨hz1,hz2,hz3,hz4,hz5,hz6⟩:=HZ.out
   have P1:(q:Int)=((U/V:Nat):Int):=by rw [HK.out.1]
   have P2:(zs ++ [0]).length=n+1:=by simp [hz1]
   have P3:Dig aD (zs ++ [0]):=hz2.app (Dig.cons bC (Dig.nil _))
   have P4:val aD (zs ++ [0])=U%V:=by rw [cL,HK.out.2.1];simp
   have P5:(zs ++ [0])[n]?=some 0:=by rw [List.getElem?_append_right (by omega)];simp [hz1]
   have P6:Blk (w3.setCell ⟨g,o+n,none⟩ (.int .u64 0)) g t (put ys o (zs ++ [0])):=by rw [← iC hz1 (by omega)];exact hz5.set_ _ 0
   have P7:=cU HK.out.2.2 (eL w3 g (o+n) (.int .u64 0))
   first
    | exact ⟨zs ++ [0],bX P1,P2,P3,P4,P5,P6,P7⟩
    | exact ⟨bX P1,zs ++ [0],P2,P3,P4,P5,P6,P7⟩
def LongInv (V U0 n' L:Nat) (us qs:List Nat) (k:Nat):Prop :=
 Dig aD us∧us.length=L+n'∧Dig aD qs∧qs.length=L∧val aD (us.drop k)<V∧val aD (qs.drop k)*V*aD^k+val aD us=U0
theorem LongInv.window {V U0 n' L m:Nat} {us qs:List Nat} (h:LongInv V U0 n' L us qs (m+1)) (hm:m<L) (hV:V≤aD^n') :
 val aD ((us.drop m).take (n'+1))=val aD (us.drop m)∧val aD (us.drop (m+(n'+1)))=0∧val aD (us.drop m)<V*aD:=by
 obtain ⟨h1,h2,h3,h4,h5,h6⟩:=h
 have e1:=lH aD us m (by omega)
 have l1:=h1.get m (by omega)
 have hlt:val aD (us.drop m)<V*aD:=by
  have:aD*(val aD (us.drop (m+1))+1)≤aD*V:=Nat.mul_le_mul_left _ h5
  rw [Nat.mul_add,Nat.mul_one] at this
  rw [Nat.mul_comm V]
  omega
 have e2:=eA aD (us.drop m) (n'+1) (by simp;omega)
 rw [List.drop_drop] at e2
 have hz:val aD (us.drop (m+(n'+1)))=0:=by
  rcases Nat.eq_zero_or_pos (val aD (us.drop (m+(n'+1)))) with e|e
  ·exact e
  ·exfalso
   have a1:aD^(n'+1)*1≤aD^(n'+1)*val aD (us.drop (m+(n'+1))):=Nat.mul_le_mul_left _ e
   have a2:V*aD≤aD^n'*aD:=Nat.mul_le_mul_right _ hV
   rw [← Nat.pow_succ] at a2
   have:n'.succ=n'+1:=rfl
   rw [this] at a2
   omega
 rw [hz] at e2
 exact ⟨by omega,hz,hlt⟩
theorem wZ {ys zs:List Nat} {o:Nat} (h:o+zs.length≤ys.length):(put ys o zs).drop o=zs++ys.drop (o+zs.length):=by
 unfold put
 rw [List.drop_append_of_le_length (by simp;omega),List.drop_of_length_le (by simp;omega)]
 rfl
theorem tE {ys zs:List Nat} {o:Nat} (h:o+zs.length≤ys.length):(put ys o zs).take o=ys.take o:=by
 unfold put
 rw [List.take_append_of_le_length (by simp;omega),List.take_take,Nat.min_self]
theorem long_alg (q Y V P B Z r X:Nat) (h:V*q+r=X):(q+B*Y)*V*P+(Z+P*r)=Y*V*(P*B)+(Z+P*X):=by subst h;grind
theorem LongInv.step {V U0 n' L m:Nat} {us qs zs:List Nat} (h:LongInv V U0 n' L us qs (m+1)) (hm:m<L) (hV:V≤aD^n') (hV0:0<V)
 (hz:zs.length=n'+1) (hzd:Dig aD zs) (hzv:val aD zs=val aD ((us.drop m).take (n'+1))%V) :
 LongInv V U0 n' L (put us m zs) (qs.set m (val aD ((us.drop m).take (n'+1))/V)) m:=by
 obtain ⟨w1,w2,w3⟩:=h.window hm hV
 obtain ⟨h1,h2,h3,h4,h5,h6⟩:=h
 rw [w1] at hzv ⊢
 have hq:val aD (us.drop m)/V<aD:=by rw [Nat.div_lt_iff_lt_mul hV0,Nat.mul_comm];exact w3
 have hlen:m+zs.length≤us.length:=by omega
 have e1:val aD ((put us m zs).drop m)=val aD (us.drop m)%V:=by
  rw [wZ hlen,fT,hz,w2,hzv,Nat.mul_zero,Nat.add_zero]
 have e2:val aD (put us m zs)=val aD (us.take m)+aD^m*(val aD (us.drop m)%V):=by
  rw [eA aD (put us m zs) m (by rw [cV hlen];omega),tE hlen,e1]
 have e3:=eA aD us m (by omega)
 have e4:(qs.set m (val aD (us.drop m)/V)).drop m=val aD (us.drop m)/V::qs.drop (m+1):=by
  rw [List.drop_eq_getElem_cons (by simp;omega),List.getElem_set_self,List.drop_set_of_lt (by omega)]
 have hdm:=Nat.div_add_mod (val aD (us.drop m)) V
 refine ⟨rD h1 hzd,by rw [cV hlen,h2],h3.set hq,by simp [h4],by rw [e1];exact Nat.mod_lt _ hV0,?_⟩
 rw [e4,e2,← h6,e3,Nat.pow_succ]
 exact long_alg _ _ _ _ _ _ _ _ hdm
theorem LongInv.finish {V n' L d s N:Nat} {us qs:List Nat} (h:LongInv V (N*2^s) n' L us qs 0) (hV:V=d*2^s) (hd:0<d) :
 val aD qs=N/d∧val aD us/2^s=N%d:=by
 obtain ⟨_,_,_,_,h5,h6⟩:=h
 have hp:0<2^s:=Nat.pow_pos (by omega)
 have hV0:0<V:=by rw [hV];exact Nat.mul_pos hd hp
 simp only [List.drop_zero,Nat.pow_zero,Nat.mul_one] at h5 h6
 have e1:N*2^s/V=val aD qs:=by rw [← h6,Nat.add_comm,Nat.add_mul_div_right _ _ hV0,Nat.div_eq_of_lt h5];omega
 have e2:N*2^s%V=val aD us:=by rw [← h6,Nat.add_comm,Nat.add_mul_mod_self_right,Nat.mod_eq_of_lt h5]
 constructor
 ·rw [← e1,hV,Nat.mul_div_mul_right _ _ hp]
 ·rw [← e2,hV,Nat.mul_mod_mul_right,Nat.mul_div_cancel _ hp]
theorem shifted_top {ys vs:List Nat} {s y:Nat} (hy:Dig aD ys) (hl:0<ys.length) (htop:ys[ys.length-1]?=some y) (hs1:9223372036854775808≤y*2^s) (hs2:y*2^s<aD)
 (hv:Dig aD vs) (hn:Norm vs) (e:val aD vs=val aD ys*2^s) (hy0:0<y):vs.length=ys.length∧∃ f,vs[ys.length-1]?=some f∧9223372036854775808≤f:=by
 obtain ⟨m,hm⟩:∃ m,ys.length=m+1:=⟨ys.length-1,by omega⟩
 rw [hm,show m+1-1=m from by omega] at htop ⊢
 obtain ⟨k,ey⟩:=List.getElem?_eq_some_iff.1 htop
 have hp:0<2^s:=Nat.pow_pos (by omega)
 have hval:val aD ys=val aD (ys.take m)+aD^m*y:=by
  have:val aD ys=val aD (ys.take (m+1)):=by rw [List.take_of_length_le (by omega)]
  rw [this,aF _ _ _ k,ey]
 have hlow:=bV (hy.take m)
 rw [List.length_take,Nat.min_eq_left (by omega)] at hlow
 have a1:val aD vs=val aD (ys.take m)*2^s+aD^m*(y*2^s):=by rw [e,hval,Nat.add_mul,Nat.mul_assoc]
 have a2:val aD (ys.take m)*2^s<aD^m*2^s:=Nat.mul_lt_mul_of_pos_right hlow hp
 have hlt:val aD vs<aD^(m+1):=by
  have b1:aD^m*(2^s+y*2^s)≤aD^m*aD:=by
   apply Nat.mul_le_mul_left
   have hs64:s≤63:=by
    rcases Nat.lt_or_ge 63 s with h|h
    ·exfalso
     have:2^64≤2^s:=Nat.pow_le_pow_right (by omega) h
     have:1*2^s≤y*2^s:=Nat.mul_le_mul_right _ hy0
     have:=aJ
     omega
    ·exact h
   have hW:=iD (s:=s) (by omega)
   have c1:y*2^s<2^(64-s)*2^s:=by rw [← hW];exact hs2
   have c2:=Nat.lt_of_mul_lt_mul_right c1
   have c3:(y+1)*2^s≤2^(64-s)*2^s:=Nat.mul_le_mul_right _ c2
   rw [← hW,Nat.add_mul,Nat.one_mul] at c3
   omega
  rw [Nat.mul_add] at b1
  rw [Nat.pow_succ]
  omega
 have hge:aD^m≤val aD vs:=by
  have:aD^m*1≤aD^m*(y*2^s):=Nat.mul_le_mul_left _ (by omega)
  omega
 have hlen:vs.length=m+1:=by
  have l1:=aU eH hn hlt
  rcases Nat.lt_or_ge vs.length (m+1) with h|h
  ·exfalso
   have:=bV hv
   have:aD^vs.length≤aD^m:=Nat.pow_le_pow_right bC (by omega)
   omega
  ·omega
 refine ⟨by omega,?_⟩
 refine ⟨vs[m],List.getElem?_eq_getElem (by omega),?_⟩
 have hv2:val aD vs=val aD (vs.take m)+aD^m*vs[m]:=by
  have:val aD vs=val aD (vs.take (m+1)):=by rw [List.take_of_length_le (by omega)]
  rw [this,aF _ _ _ (by omega)]
 have hvl:=bV (hv.take m)
 rw [List.length_take,Nat.min_eq_left (by omega)] at hvl
 have c1:aD^m*9223372036854775808≤aD^m*(y*2^s):=Nat.mul_le_mul_left _ hs1
 have c2:aD^m*9223372036854775808<aD^m*(vs[m]+1):=by
  rw [Nat.mul_add,Nat.mul_one]
  omega
 have:=Nat.lt_of_mul_lt_mul_left c2
 omega
theorem LongInv.start {V U0 n n' : Nat} {us:List Nat} {N d s:Nat} (hu:Dig aD us) (hul:us.length=n+1) (hU:val aD us=U0) (hU0:U0=N*2^s) (hN:N<aD^n) (hV:V=d*2^s) (hd:aD^(n'-1)≤d) (hn:n'≤n) (hn0:0<n') :
 LongInv V U0 n' (n-n'+1) us (List.replicate (n-n'+1) 0) (n-n'+1):=by
 refine ⟨hu,by omega,Dig.replicate bC _,by simp,?_,?_⟩
 ·have e:=eA aD us (n-n'+1) (by omega)
  have hp:0<2^s:=Nat.pow_pos (by omega)
  have a1:N*2^s<aD^n*2^s:=Nat.mul_lt_mul_of_pos_right hN hp
  have a2:aD^n=aD^(n-n'+1)*aD^(n'-1):=by rw [← Nat.pow_add];congr 1;omega
  have a3:aD^(n-n'+1)*val aD (us.drop (n-n'+1))<aD^(n-n'+1)*(aD^(n'-1)*2^s):=by
   rw [← Nat.mul_assoc,← a2];omega
  have a4:=Nat.lt_of_mul_lt_mul_left a3
  have a5:aD^(n'-1)*2^s≤d*2^s:=Nat.mul_le_mul_right _ hd
  rw [hV];omega
 ·rw [List.drop_of_length_le (by simp)]
  simp [val,hU]
theorem xA {ys vs:List Nat} {s y k n' : Nat} (hk1:k≤vs.length) (hk2:Norm (vs.take k)) (hk3:val aD (vs.take k)=val aD vs) (hv:val aD vs=val aD ys*2^s) (hd:Dig aD vs) (hy:Dig aD ys)
 (hl:ys.length=n') (hn:2≤n') (htop:ys[n'-1]?=some y) (hy0:0<y) (hs1:9223372036854775808≤y*2^s) (hs2:y*2^s<aD):n'=k∧∃ f,(vs.take k)[n'-1]?=some f∧9223372036854775808≤f:=by
 subst hl
 obtain ⟨h1,h2⟩:=shifted_top hy (by omega) htop hs1 hs2 (hd.take k) hk2 (hk3.trans hv) hy0
 rw [List.length_take,Nat.min_eq_left hk1] at h1
 exact ⟨h1.symm,h2⟩
set_option maxHeartbeats 4000000 in
theorem xB (A:Option Addr) (n c:Nat) (xs:List Nat) (A' : Option Addr) (n' c' : Nat) (ys:List Nat) (w:World) (h:Rd w A n c xs) (h' : Rd w A' n' c' ys)
 (hd:Dig aD xs) (hd' : Dig aD ys) (hn:n≤2199023255551) (hn2:2≤n') (hle:n'≤n) (hnorm:Norm ys) :
 Calls Tryz.prog 183 #[.slice A n c,.slice A' n' c'] w fun e w' =>
  Hid (∃ v v',e = .returned (.tuple #[v,v'])∧Nt w' v (val aD xs/val aD ys)∧Nt w' v' (val aD xs%val aD ys))∧Below w.heap.size w w':=by
 have hnc:n≤c:=h.cap
 have hcm:c≤9223372036854775807:=h.2.2.1
 have hnc' : n'≤c':=h'.cap
 have hcm' : c'≤9223372036854775807:=h'.2.2.1
 obtain ⟨ad',y,hA',_,hy,hcy⟩:=h'.at_ (k:=n'-1) (by omega)
 subst hA'
 have hyl:=hd'.at_ hy
 have hy0:0<y:=by
  have hne:ys≠[]:=by rintro rfl;simp at hy
  have:=hnorm hne
  rw [List.getLast_eq_getElem] at this
  obtain ⟨k,ey⟩:=List.getElem?_eq_some_iff.1 hy
  have hl:=h'.len
  simp only [hl,ey] at this
  omega
 obtain ⟨s,hs,hbl,s1,s2⟩:=qB y hy0 hyl
 have hge:=hnorm.ge (B:=aD) (by rintro rfl;simp at hy)
 rw [h'.len] at hge
 have hdp:0<val aD ys:=by
  have:0<aD^(n'-1):=Nat.pow_pos bC
  omega
 have cl:=Lib.hid (Tryz.bits_LeadingZeros64 (y:Int) w (by omega) (by have:=aJ;omega))
 have HS:=Lib.hid hbl
 obtain ⟨i0,hi,hz0,hz1,hz2⟩:=info_parts eR
 have HI:=Lib.hid (And.intro hi (And.intro hz0 (And.intro hz1 hz2)))
 have HX:=Lib.hid (And.intro h hd)
 have HY:=Lib.hid (And.intro h' (And.intro hd' (And.intro hy (And.intro hy0 (And.intro s1 (And.intro s2 (And.intro hge hdp)))))))
 clear h h' hd hd' hi hz0 hz1 hz2 hy hy0 hyl s1 s2 hge hdp hnorm hbl
 go_enter Tryz.func183,Tryz.ntmps183
 go_wp2_with (go_at_call 232;refine (cl.out).mono ?_;rintro e w' ⟨rfl,hw⟩;rw [hw];rw [Int.toNat_natCast,HS.out])
 refine (pM A n c xs s w HX.out.1 HX.out.2 (by omega) hs).mono ?_
 rintro e w1 ⟨⟨us,rfl,hb1,hl1,hd1,hv1⟩,hbe1⟩
 have H1:=Lib.hid (And.intro hb1 (And.intro hl1 (And.intro hd1 (And.intro hv1 hbe1))))
 clear hb1 hl1 hd1 hv1 hbe1 hcy
 go_wp2_with fail
 refine (pM (some ad') n' c' ys s w1 (HY.out.1.below H1.out.2.2.2.2) HY.out.2.1 (by omega) hs).mono ?_
 rintro e w2 ⟨⟨vs,rfl,hb2,hl2,hd2,hv2⟩,hbe2⟩
 have H2:=Lib.hid (And.intro hb2 (And.intro hl2 (And.intro hd2 (And.intro hv2 hbe2))))
 clear hb2 hl2 hd2 hv2 hbe2
 go_wp2_with fail
 refine (nU _ _ _ vs w2 (by have:=H2.out.1.rd (by rw [H2.out.2.1];show n'+1≤9223372036854775807;omega);rwa [H2.out.2.1] at this)).mono ?_
 rintro e w3 ⟨⟨k,⟨hk1,hk2,hk3⟩,rfl⟩,rfl⟩
 have htk:=xA hk1 hk2 hk3 H2.out.2.2.2.1 H2.out.2.2.1 HY.out.2.1 HY.out.1.len (by omega) HY.out.2.2.1 HY.out.2.2.2.1 HY.out.2.2.2.2.1 HY.out.2.2.2.2.2.1
 obtain ⟨rfl,f,hf1,hf2⟩:=htk
 obtain ⟨ds,hds⟩:∃ ds,ds=vs.take n':=⟨_,rfl⟩
 have hrd:Rd w2 (some ⟨w1.heap.size,0,none⟩) n' (n'+1) ds:=by
  have:=H2.out.1.rd (by rw [H2.out.2.1];show n'+1≤9223372036854775807;omega)
  rw [H2.out.2.1] at this
  rw [hds]
  exact this.take (by omega)
 have hg12:w.heap.size<w1.heap.size:=H1.out.1.lt
 obtain ⟨g1,hg1⟩:∃ g1,g1=w.heap.size:=⟨_,rfl⟩
 obtain ⟨g2,hg2⟩:∃ g2,g2=w1.heap.size:=⟨_,rfl⟩
 have hbu:Blk w2 g1 154 us:=by rw [hg1];exact H1.out.1.below H2.out.2.2.2.2 hg12
 have hbe:Below w.heap.size w w2:=H1.out.2.2.2.2.trans (H2.out.2.2.2.2.mono (by omega))
 rw [← hg1] at hg12 hbe
 rw [← hg2] at hg12 hrd
 rw [← hds] at hf1 hk2 hk3
 have hdd:Dig aD ds:=by rw [hds];exact H2.out.2.2.1.take _
 have hV:val aD ds=val aD ys*2^s:=by rw [hk3];exact H2.out.2.2.2.1
 have HD:=Lib.hid (And.intro hrd (And.intro hdd (And.intro hV (And.intro hf1 (And.intro hf2 (And.intro hbu hbe))))))
 rw [← hg1,← hg2]
 have HG:=Lib.hid (And.intro hg1 hg2)
 clear hrd hdd hV hf1 hf2 hbu hbe hds hk1 hk2 hk3 hg1 hg2
 have hnk:(0:Int)≤(n:Int)-n':=by omega
 go_wp2_with (at_make;refine wpList_make_full _ rfl _ _ 94 rfl w2.heap.size 154 i0 (.int .u64 0) 1 Tryz.underlying94 HI.out.1 HI.out.2.1 HI.out.2.2.1 _ _ _ _ (n-n'+1) rfl rfl ?b0 ?b1 ?b2 ?b3 (Nat.le_refl _) ?_)
 case b0=>omega
 case b1=>omega
 case b2=>rw [HI.out.2.2.2];omega
 case b3=>show n-n'+1≤9223372036854775807;omega
 intro w4 hown hgw
 have hb4:Below w2.heap.size w2 w4:=(Below.refl _ _).grown hgw (Nat.le_refl _) (fun _ h=>by cases h)
 have hblk:=dQ hown
 obtain ⟨g3,hg3⟩:∃ g3,g3=w2.heap.size:=⟨_,rfl⟩
 rw [← hg3] at hblk ⊢
 have hg13:g1<g3:=by rw [hg3];exact HD.out.2.2.2.2.2.1.lt
 have hg23:g2<g3:=by rw [hg3,HG.out.2];exact H2.out.1.lt
 have hbu4:Blk w4 g1 154 us:=HD.out.2.2.2.2.2.1.below hb4 HD.out.2.2.2.2.2.1.lt
 have hrd4:Rd w4 (some ⟨g2,0,none⟩) n' (n'+1) ds:=HD.out.1.below hb4
 have hbe4:Below g1 w w4:=HD.out.2.2.2.2.2.2.trans (hb4.mono (by omega))
 have hst:LongInv (val aD ds) (val aD xs*2^s) n' (n-n'+1) us (List.replicate (n-n'+1) 0) (n-n'+1) :=
  LongInv.start H1.out.2.2.1 H1.out.2.1 H1.out.2.2.2.1 rfl (by have:=bV HX.out.2;rwa [HX.out.1.len] at this) HD.out.2.2.1 HY.out.2.2.2.2.2.2.1 hle (by omega)
 have HS0:=Lib.hid (And.intro hst (And.intro hblk (And.intro hbu4 (And.intro hrd4 hbe4))))
 have hVk:val aD ds≤aD^n':=by
  have:=bV HD.out.2.1
  rw [HD.out.1.len] at this
  omega
 have hVp:0<val aD ds:=by rw [HD.out.2.2.1];exact Nat.mul_pos HY.out.2.2.2.2.2.2.2 (Nat.pow_pos (by omega))
 have HV:=Lib.hid (And.intro hVk hVp)
 have hL:((n-n' : Nat):Int)=(n:Int)-n':=by omega
 have HL:=Lib.hid hL
 clear hst hblk hbu4 hrd4 hbe4 hown hgw hb4 hVk hVp hg3 hL
 obtain ⟨L,hLL⟩:∃ L,L=n-n'+1:=⟨_,rfl⟩
 have hLn:(L:Int)=(n:Int)-n'+1:=by omega
 have hLk:L+n'=n+1:=by omega
 have hL1:L≤2199023255553:=by omega
 have HLk:=Lib.hid (And.intro hLk hLn)
 rw [← hLL] at HS0 ⊢
 clear hLk hLn hLL
 go_wp2
 go_loopw [10] (fun i wr => ∃ (k:Nat) (us qs:List Nat),k≤L∧i = .int .i64 ((k:Int)-1)∧LongInv (val aD ds) (val aD xs*2^s) n' L us qs k∧Blk wr g3 154 qs∧Blk wr g1 154 us∧Rd wr (some ⟨g2,0,none⟩) n' (n'+1) ds∧Below g1 w wr) (fun i _=>(intOf i+1).toNat)
 case atStart=>exact ⟨L,us,_,Nat.le_refl _,rfl,HS0.out.1,HS0.out.2.1,HS0.out.2.2.1,HS0.out.2.2.2.1,HS0.out.2.2.2.2⟩
 case round =>
  clear H1 H2
  obtain ⟨k,us,qs,hk,rfl,hinv,hbq,hbu,hrd,hbe⟩:=hrel
  have hul:us.length=n+1:=by rw [hinv.2.1];exact HLk.out.1
  have hql:qs.length=L:=hinv.2.2.2.1
  rcases Nat.eq_zero_or_pos k with rfl|hk0
  ·obtain ⟨f1,f2⟩:=hinv.finish HD.out.2.2.1 HY.out.2.2.2.2.2.2.2
   have hrq:=hbq.rd (by rw [hql];show L≤9223372036854775807;omega)
   have hru:=hbu.rd (by rw [hul];show n+1≤9223372036854775807;omega)
   rw [hql] at hrq
   rw [hul] at hru
   have HF:=Lib.hid (And.intro f1 (And.intro f2 (And.intro hinv.1 (And.intro hinv.2.2.1 (And.intro hrq (And.intro hru hbe))))))
   clear f1 f2 hrq hru hinv hbq hbu hrd hbe hul hql
   simp only [show (((0:Nat):Int)-1) = -1 from rfl]
   go_wp2_with fail
   refine (eE _ _ _ qs wr HF.out.2.2.2.2.1 HF.out.2.2.2.1).mono ?_
   rintro e w5 ⟨⟨v,rfl,hv⟩,rfl⟩
   have HV1:=Lib.hid hv
   clear hv
   go_wp2_with fail
   refine (uZ _ _ _ us s wr HF.out.2.2.2.2.2.1 HF.out.2.2.1 (by have:=HLk.out;omega) hs).mono ?_
   rintro e w6 ⟨v',rfl,hv',hb6⟩
   have HV2:=Lib.hid (And.intro hv' hb6)
   clear hv' hb6
   go_wp2
   go_ret2
   refine ⟨⟨v,v',rfl,?_,?_⟩,?_⟩
   ·rw [← HF.out.1];exact HV1.out.below HV2.out.2
   ·rw [← HF.out.2.1];exact HV2.out.1
   ·rw [← HG.out.1]
    exact HF.out.2.2.2.2.2.2.trans (HV2.out.2.mono (by
     have h1:=HF.out.2.2.2.2.2.2.size
     have h2:=HG.out.1
     omega))
  ·obtain ⟨m,rfl⟩:∃ m,k=m+1:=⟨k-1,by omega⟩
   have hwd:=hinv.window (by omega) HV.out.1
   have ct:=takeOut_any g1 m n' (n+1-m) 154 us (some ⟨g2,0,none⟩) (n'+1) ds wr hbu hinv.1 hn2 (by omega) (by have:=HLk.out;omega) (by have:=HLk.out;omega) (by omega) hrd HD.out.2.1 (fun _ ad h=>by injection h with h;rw [← h];show g2≠g1;omega) f HD.out.2.2.2.1 HD.out.2.2.2.2.1 (by rw [hwd.1];exact hwd.2.2)
   have CT:=Lib.hid ct
   have HE:=Lib.hid (And.intro hinv (And.intro hbq (And.intro hrd (And.intro hbe (And.intro hul (And.intro hql (by omega:m<L)))))))
   have hmn:(m:Int)+n'+1≤(n:Int)+1:=by have:=HLk.out;omega
   have hmne:¬ n+1=m:=by have:=HLk.out;omega
   have hbu_lt:=hbu.lt
   clear hwd ct hinv hbq hbu hrd hbe hk0 hul hql
   simp only [Int.natCast_add,Int.natCast_one,show ((m:Int)+1-1)=m from by omega]
   go_wp2_with fail
   rw [show m+n'+1-m=n'+1 from by omega]
   refine CT.out.mono ?_
   rintro e w5 ⟨zs,rfl,q1,q2,q3,_,q5,q6⟩
   obtain ⟨hinv,hbq,hrd,hbe,hul,hql,hmL⟩:=HE.out
   have hst:=hinv.step hmL HV.out.1 HV.out.2 q1 q2 q3
   obtain ⟨q,hq⟩:∃ q,q=val aD ((us.drop m).take (n'+1))/val aD ds:=⟨_,rfl⟩
   rw [← hq] at hst ⊢
   have hbq5:Blk w5 g3 154 qs:=(q6.block g3 hbq.lt (by intro e;injection e with e;omega)).trans hbq
   have hrd5:Rd w5 (some ⟨g2,0,none⟩) n' (n'+1) ds:=hrd.only (fun _ ad h=>by injection h with h;rw [← h];show g2≠g1;omega) q6
   have hbe5:Below g1 w w5:=hbe.grown q6 (Nat.le_of_lt hbu_lt) (fun _ h=>by injection h with h;omega)
   obtain ⟨z,hcz⟩:∃ z:Int,w5.cell? ⟨g3,m,none⟩=some (.int .u64 z):=⟨_,hbq5.cell_get (by omega)⟩
   have hfz:=hbq5.frozen m
   have HQ:=Lib.hid (And.intro hst (And.intro hbq5 (And.intro q5 (And.intro hrd5 hbe5))))
   have hmi:(m:Int)≤L:=by omega
   clear hst hbq5 q5 hrd5 hbe5 hinv hbq hrd hbe hul hql q1 q2 q3 q6 hq hmL
   go_wp2
   go_roundw
   case rel =>
    obtain ⟨hst,hbq5,q5,hrd5,hbe5⟩:=HQ.out
    exact ⟨m,put us m zs,qs.set m q,by omega,rfl,hst,hbq5.set_ _ _,q5.far (by show g1≠g3;omega) _,hrd5.only (fun _ ad h=>by injection h with h;rw [← h];show g2≠g3;omega) (eL _ _ _ _),hbe5.setCell (by show g1≤g3;omega) _⟩
   case measure=>simp [intOf]
theorem Nt.zero (w:World):Nt w (.slice none 0 0) 0:=⟨none,0,0,[],rfl,Rd.nil,Dig.nil _,Norm.nil,rfl⟩
def lK (w:World) (a b:Nat) (e:Ending) (w' : World):Prop := ∃ v v',e = .returned (.tuple #[v,v'])∧Nt w' v a∧Nt w' v' b∧Below w.heap.size w w'
set_option maxHeartbeats 1000000 in
theorem divide_any (A:Option Addr) (n c:Nat) (xs:List Nat) (A' : Option Addr) (n' c' : Nat) (ys:List Nat) (w:World) (h:Rd w A n c xs) (h' : Rd w A' n' c' ys)
 (hd:Dig aD xs) (hd' : Dig aD ys) (hn:n≤2199023255551) (hx:Norm xs) (hy:Norm ys) (h0:0<n') :
 Calls Tryz.prog 117 #[.slice A n c,.slice A' n' c'] w (lK w (val aD xs/val aD ys) (val aD xs%val aD ys)):=by
 have hnc:n≤c:=h.cap
 have hcm:c≤9223372036854775807:=h.2.2.1
 have hnc' : n'≤c':=h'.cap
 have hcm' : c'≤9223372036854775807:=h'.2.2.1
 have hpos:0<val aD ys:=hy.pos bC (by rintro rfl;have:=h'.len;simp at this;omega)
 have cc:=Lib.hid (uG A n c xs A' n' c' ys w h h' hd hd' hx hy)
 have HX:=Lib.hid (And.intro h (And.intro hd hx))
 have HY:=Lib.hid (And.intro h' (And.intro hd' (And.intro hy hpos)))
 clear h h' hd hd' hx hy hpos
 by_cases hlt:val aD xs<val aD ys
 ·have hc:bS (val aD xs) (val aD ys) = -1:=by unfold bS;rw [if_pos (by omega)]
  rw [hc] at cc
  have HL:=Lib.hid hlt
  clear hc hlt
  go_enter Tryz.func117,Tryz.ntmps117
  go_wp2_with fail
  refine cc.out.mono ?_
  rintro e w1 ⟨rfl,hb⟩
  go_wp2
  go_ret2
  refine ⟨_,_,rfl,?_,?_,hb⟩
  ·rw [Nat.div_eq_of_lt HL.out];exact Nt.zero _
  ·rw [Nat.mod_eq_of_lt HL.out];exact ⟨A,n,c,xs,rfl,HX.out.1.below hb,HX.out.2.1,HX.out.2.2,rfl⟩
 ·obtain ⟨z,hz,hz0⟩:∃ z:Int,bS (val aD xs) (val aD ys)=z∧¬ z<0:=⟨_,rfl,by unfold bS;rw [if_neg (by omega)];split <;> omega⟩
  rw [hz] at cc
  have hle:n'≤n:=by
   rcases Nat.lt_or_ge n n' with h|h
   ·have:=dF eH HX.out.2.1 HY.out.2.2.1 (by rw [HX.out.1.len,HY.out.1.len];exact h)
    omega
   ·exact h
  clear hz hlt
  by_cases h1:n'=1
  ·subst h1
   obtain ⟨ad',y,hA',_,hy,hcy⟩:=HY.out.1.at_ (k:=0) (by omega)
   subst hA'
   have hyy:val aD ys=y:=by
    have hl:=HY.out.1.len
    match ys,hl,hy with
    | [a],_,hy=>simp at hy;subst hy;simp [val]
   have hyl:y<aD:=HY.out.2.1.at_ hy
   have hy0:0<y:=by rw [← hyy];exact HY.out.2.2.2
   have cd:=Lib.hid (fun w1 (hb:Below w.heap.size w w1)=>nY A n c xs y w1 (HX.out.1.below hb) HX.out.2.1 (by omega) hy0 hyl)
   have HYY:=Lib.hid (And.intro hyy hyl)
   have hm0:val aD xs%y<aD:=Nat.lt_trans (Nat.mod_lt _ hy0) hyl
   obtain ⟨r,hr⟩:∃ r,r=val aD xs%y:=⟨_,rfl⟩
   rw [← hr] at cd hm0
   have HR:=Lib.hid (And.intro hr hm0)
   clear hy hyy hyl hy0 hr hm0
   go_enter Tryz.func117,Tryz.ntmps117
   go_wp2_with fail
   refine cc.out.mono ?_
   rintro e w1 ⟨rfl,hb⟩
   have hcy1:w1.cell? ad'=some (.int .u64 (y:Int)):=(hb.cell (p:=ad') (by omega)).trans (by simpa [Addr.add] using hcy)
   have HB:=Lib.hid hb
   clear hcy hb
   go_wp2_with fail
   refine (cd.out w1 HB.out).mono ?_
   rintro e w2 ⟨⟨v,rfl,hv⟩,hb2⟩
   have HV:=Lib.hid (And.intro hv hb2)
   clear hv hb2
   go_wp2_with fail
   refine (cB r HR.out.2 w2).mono ?_
   rintro e w3 ⟨v',rfl,hv',hb3⟩
   have HV2:=Lib.hid (And.intro hv' hb3)
   clear hv' hb3
   go_wp2
   go_ret2
   refine ⟨v,v',rfl,?_,?_,HB.out.trans ((HV.out.2.mono HB.out.size).trans (HV2.out.2.mono (Nat.le_trans HB.out.size HV.out.2.size)))⟩
   ·rw [HYY.out.1];exact HV.out.1.below HV2.out.2
   ·rw [HYY.out.1,← HR.out.1];exact HV2.out.1
  ·have h2:2≤n':=by omega
   have hz1:((n' : Int)==1)=false:=by simp;omega
   have cd:=Lib.hid (fun w1 (hb:Below w.heap.size w w1)=>xB A n c xs A' n' c' ys w1 (HX.out.1.below hb) (HY.out.1.below hb) HX.out.2.1 HY.out.2.1 hn h2 hle HY.out.2.2.1)
   clear h1
   go_enter Tryz.func117,Tryz.ntmps117
   go_wp2_with fail
   refine cc.out.mono ?_
   rintro e w1 ⟨rfl,hb⟩
   have HB:=Lib.hid hb
   clear hb
   go_wp2_with fail
   refine (cd.out w1 HB.out).mono ?_
   rintro e w2 ⟨⟨v,v',rfl,hv,hv'⟩,hb2⟩
   have HV:=Lib.hid (And.intro hv (And.intro hv' hb2))
   clear hv hv' hb2
   go_wp2
   go_ret2
   exact ⟨v,v',rfl,HV.out.1,HV.out.2.1,HB.out.trans (HV.out.2.2.mono HB.out.size)⟩
end Go.Proofs.YtejbgingjeedaaaGreatDoor
