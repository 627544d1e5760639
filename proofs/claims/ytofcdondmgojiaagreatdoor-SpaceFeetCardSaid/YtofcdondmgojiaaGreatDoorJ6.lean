/- Parts of the proof, joined. -/
import Derived.Test.YtofcdondmgojiaaGreatDoorJ5
import Derived.Deep.RegionWith
import Derived.Lib.SmallJoins
import Derived.Laws.ResultCell
import Derived.WalkLawsBesides
import Derived.BigRegion
set_option linter.unusedSimpArgs false
set_option linter.unusedVariables false
namespace Go.Proofs.YtofcdondmgojiaaGreatDoor
open Go.RowKit Pl
def guessOf (high middle low first second:Nat):Nat:=if first≤high then aD-1 else ((high*aD+middle)*aD+low)/(first*aD+second)
theorem guess_le_iff {N2 low first second T word rest:Nat} (hf:0<first) (hT:T=(N2*aD+low)/(first*aD+second)) (h:word*first+rest=N2) :
 word≤T↔word*second≤rest*aD+low:=by
 have hp:0<first*aD:=Nat.mul_pos hf bD
 rw [hT,Nat.le_div_iff_mul_le (by omega)]
 subst h
 have e1:word*(first*aD+second)=word*first*aD+word*second:=by rw [Nat.mul_add,Nat.mul_assoc]
 have e2:(word*first+rest)*aD=word*first*aD+rest*aD:=Nat.add_mul _ _ _
 rw [e1,e2]
 omega
theorem guess_first {high middle low first second:Nat} (hf:high<first) (hl:low<aD):((high*aD+middle)*aD+low)/(first*aD+second)≤(high*aD+middle)/first :=
 guess_ge rfl rfl hl (by omega)
theorem lex_iff {p r l:Nat} (hl:l<aD):p≤r*aD+l↔p/aD<r∨(p/aD=r∧p%aD≤l):=by
 have:=Nat.div_add_mod p aD
 have hm:p%aD<aD:=Nat.mod_lt _ bD
 rw [Nat.mul_comm] at this
 constructor
 ·intro h
  rcases Nat.lt_trichotomy (p/aD) r with h1|h1|h1
  ·exact .inl h1
  ·exact .inr ⟨h1,by rw [h1] at this;omega⟩
  ·exfalso
   have:(r+1)*aD≤p/aD*aD:=Nat.mul_le_mul_right _ h1
   rw [Nat.add_mul,Nat.one_mul] at this
   omega
 ·rintro (h1|⟨h1,h2⟩)
  ·have:(p/aD+1)*aD≤r*aD:=Nat.mul_le_mul_right _ h1
   rw [Nat.add_mul,Nat.one_mul] at this
   omega
  ·rw [h1] at this;omega
set_option maxHeartbeats 1000000 in
theorem guess_top_any (high middle low first second:Nat) (w:World) (h:first≤high) :
 Calls Tryz.prog 259 #[.int .u64 (high:Int),.int .u64 (middle:Int),.int .u64 (low:Int),.int .u64 (first:Int),.int .u64 (second:Int)] w fun e w'=>e = .returned (.int .u64 ((aD-1:Nat):Int))∧∃ k,w'=w.drewN k:=by
 have h' : (first:Int)≤high:=by omega
 go_enter Tryz.func259,Tryz.ntmps259
 go_wp2
 go_ret
 exact ⟨rfl,0,rfl⟩
set_option maxHeartbeats 2000000 in
theorem guess_low_any (high middle low first second:Nat) (w:World) (h:high<first) (h0:middle<aD) (h1:low<aD) (h2:first<aD) (h3:second<aD) (T:Nat) (hT:T=((high*aD+middle)*aD+low)/(first*aD+second)) :
 Calls Tryz.prog 259 #[.int .u64 (high:Int),.int .u64 (middle:Int),.int .u64 (low:Int),.int .u64 (first:Int),.int .u64 (second:Int)] w fun e w'=>e = .returned (.int .u64 (T:Int))∧∃ k,w'=w.drewN k:=by
 have HW:=Lib.hid aH
 have ht:¬ ((first:Int)≤high):=by omega
 have hfm:(high*aD+middle)/first<aD:=by
  rw [Nat.div_lt_iff_lt_mul (by omega)]
  have:(high+1)*aD≤first*aD:=Nat.mul_le_mul_right _ h
  rw [Nat.add_mul,Nat.one_mul] at this
  rw [Nat.mul_comm aD first]
  omega
 have hTq:T≤(high*aD+middle)/first:=by rw [hT];exact guess_first h h1
 obtain ⟨N2,hN2⟩:∃ N2,N2=high*aD+middle:=⟨_,rfl⟩
 rw [← hN2] at hfm hTq hT
 obtain ⟨q,hq⟩:∃ q,q=N2/first:=⟨_,rfl⟩
 obtain ⟨r,hr⟩:∃ r,r=N2%first:=⟨_,rfl⟩
 have hdm:q*first+r=N2:=by rw [hq,hr,Nat.mul_comm];exact Nat.div_add_mod _ _
 have hrl:r<first:=by rw [hr];exact Nat.mod_lt _ (by omega)
 have cd:=Lib.hid (fun w=>div64_q high middle first q r w h h2 h0 (by rw [hq,hN2]) (by rw [hr,hN2]))
 rw [← hq] at hTq hfm
 have HS:=Lib.hid (And.intro hT (And.intro hdm (And.intro hrl (And.intro hTq (And.intro hfm (And.intro h1 (And.intro h2 h3)))))))
 have hf0:0<first:=by omega
 clear h0 h1 h2 h3 hT hN2 hfm hTq hq hr hdm hrl
 go_enter Tryz.func259,Tryz.ntmps259
 go_wp2_with fail
 refine (cd.out _).mono ?_
 rintro e w1 ⟨rfl,k1,hk1⟩
 have HK:=Lib.hid hk1
 clear hk1
 go_wp2
 go_loop [11,12] (fun a b => ∃ m rs:Nat,a = .int .u64 (m:Int)∧b = .int .u64 (rs:Int)∧Hid (m*first+rs=N2∧T≤m∧m<aD∧rs<aD)) (fun a _=>(intOf a).toNat)
 case atStart=>exact ⟨q,r,rfl,rfl,HS.out.2.1,HS.out.2.2.2.1,HS.out.2.2.2.2.1,by have:=HS.out;omega⟩
 case round =>
  obtain ⟨m,rs,rfl,rfl,hinv⟩:=hrel
  obtain ⟨i1,i2,i3,i4⟩:=hinv.out
  obtain ⟨hT,_,_,_,_,h1,h2,h3⟩:=HS.out
  have hiff:=guess_le_iff hf0 hT i1
  have hlex:=lex_iff (p:=m*second) (r:=rs) h1
  obtain ⟨ab,hab⟩:∃ ab,m*second/aD=ab:=⟨_,rfl⟩
  obtain ⟨bl,hbl⟩:∃ bl,m*second%aD=bl:=⟨_,rfl⟩
  have hmul:=Lib.hid (fun w=>(Tryz.bits_Mul64 m second i3 h3 w).mono (fun e w' h=>(show e = .returned (.tuple #[.int .u64 (ab:Int),.int .u64 (bl:Int)])∧w=w' from ⟨by rw [h.1,← hab,← hbl];rfl,h.2.symm⟩)))
  rw [hab,hbl] at hlex
  have hdone:(ab<rs∨(ab=rs∧bl≤low))→m=T:=by
   intro h
   have:=hiff.2 (hlex.2 h)
   omega
  have hnot:¬ (ab<rs∨(ab=rs∧bl≤low))→T<m:=by
   intro h
   rcases Nat.lt_or_ge T m with h'|h'
   ·exact h'
   ·exact absurd (hlex.1 (hiff.1 h')) h
  by_cases hex:ab<rs∨(ab=rs∧bl≤low)
  ·have HD:=Lib.hid (hdone hex)
   clear hiff hlex hdone hnot hab hbl i1 i2 i3 i4 h1 h2 h3 hT
   rcases hex with hx|⟨hx,hy⟩
   ·have hx' : (ab:Int)<rs:=by omega
    clear hx
    go_wp2_with (go_at_call 220;refine (hmul.out _).mono ?_;rintro e w' ⟨rfl,rfl⟩)
    go_ret
    exact ⟨by rw [← HD.out];rfl,_,HK.out⟩
   ·have hx' : ¬ (ab:Int)<rs:=by omega
    have hx2:((ab:Int)==rs)=true:=by simp;omega
    have hy' : (bl:Int)≤low:=by omega
    clear hx hy
    go_wp2_with (go_at_call 220;refine (hmul.out _).mono ?_;rintro e w' ⟨rfl,rfl⟩)
    go_ret
    exact ⟨by rw [← HD.out];rfl,_,HK.out⟩
  ·have hTm:=hnot hex
   obtain ⟨m,rfl⟩:∃ m',m=m'+1:=⟨m-1,by omega⟩
   have j1:m*first+(rs+first)=N2:=by rw [← i1,Nat.add_mul,Nat.one_mul];omega
   have hm1:(m:Int)+1-1=m:=by omega
   obtain ⟨r2,hr2⟩:∃ r2,(rs+first)%aD=r2:=⟨_,rfl⟩
   have hw:IntKind.u64.wrap ((rs:Int)+first)=(r2:Int):=by rw [show (rs:Int)+first=((rs+first:Nat):Int) from by simp,fT,← hr2,aH]
   have HM:=Lib.hid hmul.out
   clear hmul hiff hlex hdone hnot hab hbl i1 i2
   have hx' : ¬ (ab:Int)<rs:=fun h=>hex (.inl (by omega))
   have hmb:(m:Int)≤18446744073709551614:=by have:=HW.out;omega
   simp only [Int.natCast_add,Int.natCast_one] at HM ⊢
   by_cases hov:r2<first
   ·have hge:aD≤rs+first:=by
     rcases Nat.lt_or_ge (rs+first) aD with h|h
     ·rw [Nat.mod_eq_of_lt h] at hr2;omega
     ·exact h
    have HD:Hid (m=T):=by
     have a1:=(guess_le_iff hf0 hT j1).2 (by
      have:m*second≤aD*aD:=Nat.mul_le_mul (by omega) (by omega)
      have:aD*aD≤(rs+first)*aD:=Nat.mul_le_mul_right _ hge
      omega)
     unfold Hid
     omega
    have hov' : (r2:Int)<first:=by omega
    by_cases he:ab=rs
    ·have hx2:((ab:Int)==rs)=true:=by simp;omega
     have hy' : ¬ ((bl:Int)≤low):=fun h=>hex (.inr ⟨he,by omega⟩)
     clear he hex hge hov hr2 j1 hTm i3 i4 h1 h2 h3 hT
     go_wp2_with (go_at_call 220;refine (HM.out _).mono ?_;rintro e w' ⟨rfl,rfl⟩)
     go_ret
     exact ⟨by rw [← HD.out];rfl,_,HK.out⟩
    ·have hx2:((ab:Int)==rs)=false:=by simp;omega
     clear he hex hge hov hr2 j1 hTm i3 i4 h1 h2 h3 hT
     go_wp2_with (go_at_call 220;refine (HM.out _).mono ?_;rintro e w' ⟨rfl,rfl⟩)
     go_ret
     exact ⟨by rw [← HD.out];rfl,_,HK.out⟩
   ·have hlt:rs+first<aD:=by
     rcases Nat.lt_or_ge (rs+first) aD with h|h
     ·exact h
     ·rw [Nat.mod_eq_sub_mod h,Nat.mod_eq_of_lt (by omega)] at hr2
      omega
    have HN:Hid (m*first+r2=N2∧T≤m∧m<aD∧r2<aD):=by
     rw [Nat.mod_eq_of_lt hlt] at hr2
     refine ⟨by omega,by omega,by omega,by omega⟩
    have hov' : ¬ (r2:Int)<first:=by omega
    by_cases he:ab=rs
    ·have hx2:((ab:Int)==rs)=true:=by simp;omega
     have hy' : ¬ ((bl:Int)≤low):=fun h=>hex (.inr ⟨he,by omega⟩)
     clear he hex hlt hov hr2 j1 hTm i3 i4 h1 h2 h3 hT
     go_wp2_with (go_at_call 220;refine (HM.out _).mono ?_;rintro e w' ⟨rfl,rfl⟩)
     go_round
     case rel=>exact ⟨m,r2,by go_num,rfl,HN⟩
     case measure=>simp [intOf]
    ·have hx2:((ab:Int)==rs)=false:=by simp;omega
     clear he hex hlt hov hr2 j1 hTm i3 i4 h1 h2 h3 hT
     go_wp2_with (go_at_call 220;refine (HM.out _).mono ?_;rintro e w' ⟨rfl,rfl⟩)
     go_round
     case rel=>exact ⟨m,r2,by go_num,rfl,HN⟩
     case measure=>simp [intOf]
theorem guess_any (high middle low first second:Nat) (w:World) (h0:middle<aD) (h1:low<aD) (h2:first<aD) (h3:second<aD) :
 Calls Tryz.prog 259 #[.int .u64 (high:Int),.int .u64 (middle:Int),.int .u64 (low:Int),.int .u64 (first:Int),.int .u64 (second:Int)] w fun e w'=>e = .returned (.int .u64 (guessOf high middle low first second:Int))∧∃ k,w'=w.drewN k:=by
 unfold guessOf
 by_cases h:first≤high
 ·rw [if_pos h]
  exact guess_top_any high middle low first second w h
 ·rw [if_neg h]
  exact guess_low_any high middle low first second w (by omega) h0 h1 h2 h3 _ rfl
theorem u3_alg (A P V low mid h:Nat):A+P*low+P*V*mid+P*V*V*h=((h*V+mid)*V+low)*P+A:=by grind
theorem v2_alg (A P V s f:Nat):A+P*s+P*V*f=(f*V+s)*P+A:=by grind
theorem guess_ok {us vs:List Nat} {n h mid low f s:Nat} (hn:2≤n) (hu:us.length=n+1) (hv:vs.length=n) (du:Dig aD us) (dv:Dig aD vs)
 (g0:us[n]?=some h) (g1:us[n-1]?=some mid) (g2:us[n-2]?=some low) (g3:vs[n-1]?=some f) (g4:vs[n-2]?=some s) (hf:9223372036854775808≤f) (hlt:val aD us<val aD vs*aD) :
 val aD us/val aD vs≤guessOf h mid low f s∧guessOf h mid low f s≤val aD us/val aD vs+1∧guessOf h mid low f s<aD:=by
 have hW:=aH
 obtain ⟨m,rfl⟩:∃ m,n=m+2:=⟨n-2,by omega⟩
 simp only [show m+2-1=m+1 from by omega,show m+2-2=m from by omega] at g1 g2 g3 g4
 have l0:=du.at_ g0
 have l1:=du.at_ g1
 have l2:=du.at_ g2
 have l3:=dv.at_ g3
 have l4:=dv.at_ g4
 obtain ⟨k0,e0⟩:=List.getElem?_eq_some_iff.1 g0
 obtain ⟨k1,e1⟩:=List.getElem?_eq_some_iff.1 g1
 obtain ⟨k2,e2⟩:=List.getElem?_eq_some_iff.1 g2
 obtain ⟨k3,e3⟩:=List.getElem?_eq_some_iff.1 g3
 obtain ⟨k4,e4⟩:=List.getElem?_eq_some_iff.1 g4
 have hul:=bV (du.take m)
 have hvl:=bV (dv.take m)
 rw [List.length_take,Nat.min_eq_left (by omega)] at hul hvl
 have hU:val aD us=val aD (us.take m)+aD^m*low+aD^(m+1)*mid+aD^(m+2)*h:=by
  have:val aD us=val aD (us.take (m+2+1)):=by rw [List.take_of_length_le (by omega)]
  rw [this,aF _ _ _ k0,aF _ _ _ k1,aF _ _ _ k2,e0,e1,e2]
 have hV:val aD vs=val aD (vs.take m)+aD^m*s+aD^(m+1)*f:=by
  have:val aD vs=val aD (vs.take (m+1+1)):=by rw [List.take_of_length_le (by omega)]
  rw [this,aF _ _ _ k3,aF _ _ _ k4,e3,e4]
 have hVp:0<val aD vs:=by
  have:0<aD^(m+1)*f:=Nat.mul_pos (Nat.pow_pos bD) (by omega)
  omega
 have hqW:val aD us/val aD vs<aD:=by rw [Nat.div_lt_iff_lt_mul hVp,Nat.mul_comm];exact hlt
 have U3:val aD us=((h*aD+mid)*aD+low)*aD^m+val aD (us.take m):=by
  rw [hU,show aD^(m+2)=aD^m*aD*aD from by rw [Nat.pow_succ,Nat.pow_succ],Nat.pow_succ]
  exact u3_alg _ _ _ _ _ _
 have V2:val aD vs=(f*aD+s)*aD^m+val aD (vs.take m):=by
  rw [hV,Nat.pow_succ]
  exact v2_alg _ _ _ _ _
 have hfW:aD≤f*aD+s:=by
  have:1*aD≤f*aD:=Nat.mul_le_mul_right _ (by omega)
  omega
 unfold guessOf
 by_cases hc:f≤h
 ·rw [if_pos hc]
  refine ⟨by omega,?_,by omega⟩
  have hV1:val aD vs=f*aD^(m+1)+(val aD (vs.take m)+aD^m*s):=by
   rw [hV]
   generalize aD^(m+1)=P
   rw [Nat.mul_comm f P];omega
  refine guess_top (v1:=f) (vl:=val aD (vs.take m)+aD^m*s) (ul:=0) (M:=aD^(m+1)) (B:=aD) ?_ hV1 ?_ (by omega) (Nat.le_refl _)
  ·have:f*aD*aD^(m+1)≤aD^(m+2)*h:=by
    have e:aD^(m+2)*h=h*(aD*aD^(m+1)):=by rw [Nat.pow_succ aD (m+1),Nat.mul_comm,Nat.mul_comm (aD^(m+1))]
    rw [e,Nat.mul_assoc]
    exact Nat.mul_le_mul_right _ hc
   omega
  ·have:aD^m*(s+1)≤aD^m*aD:=Nat.mul_le_mul_left _ l4
   rw [Nat.mul_add,Nat.mul_one,← Nat.pow_succ] at this
   have e:m.succ=m+1:=rfl
   rw [e] at this
   omega
 ·rw [if_neg hc]
  have hp2:0<f*aD+s:=by omega
  have hle:=Nat.div_mul_le_self ((h*aD+mid)*aD+low) (f*aD+s)
  have htW:((h*aD+mid)*aD+low)/(f*aD+s)<aD:=by
   rw [Nat.div_lt_iff_lt_mul hp2]
   have a1:(h*aD+mid+1)*aD≤(f*aD)*aD:=Nat.mul_le_mul_right _ (by
    have:(h+1)*aD≤f*aD:=Nat.mul_le_mul_right _ (by omega)
    rw [Nat.add_mul,Nat.one_mul] at this
    omega)
   rw [Nat.add_mul,Nat.one_mul] at a1
   have a2:aD*(f*aD+s)=f*aD*aD+aD*s:=by rw [Nat.mul_add,Nat.mul_comm aD (f*aD)]
   omega
  refine ⟨?_,?_,htW⟩
  ·exact guess_ge (u2:=(h*aD+mid)*aD+low) (v1:=f*aD+s) U3 V2 hul hp2
  ·exact guess_le U3 V2 hvl hle (by omega) hfW
theorem put_put {ys zs ws:List Nat} {o:Nat} (h:o+zs.length≤ys.length) (hl:ws.length=zs.length):put (put ys o zs) o ws=put ys o ws:=by
 unfold put
 rw [List.take_append_of_le_length (by simp;omega),List.take_take,Nat.min_self,hl]
 congr 2
 rw [← List.append_assoc,List.drop_append_of_le_length (by simp;omega),List.drop_of_length_le (by simp;omega)]
 rfl
theorem put_window {ys zs:List Nat} {o:Nat} (h:o+zs.length≤ys.length):((put ys o zs).drop o).take zs.length=zs:=by
 unfold put
 rw [List.drop_append_of_le_length (by simp;omega),List.drop_of_length_le (by simp;omega),List.nil_append,List.take_append_of_le_length (Nat.le_refl _),List.take_of_length_le (Nat.le_refl _)]
theorem gE {ys:List Nat} {o k n:Nat} (hk:k<n):((ys.drop o).take n)[k]?=ys[o+k]?:=by
 rw [List.getElem?_take,if_pos hk,List.getElem?_drop]
theorem only_drew {w w' : World} {g:Nat} (h:w.grownBy w' (some g)):w.grownBy w'.drew (some g):=⟨h.os,h.tape,h.output,h.size,h.block⟩
set_option maxHeartbeats 4000000 in
theorem takeOut_any (g o n cP:Nat) (t:TypeId) (ys:List Nat) (A:Option Addr) (c:Nat) (vs:List Nat) (w:World) (hb:Blk w g t ys) (hys:Dig aD ys) (hn:2≤n) (hn2:n≤2199023255552) (hwin:o+n+1≤ys.length) (hcP:n+1≤cP)
 (hm63:cP≤9223372036854775807) (h:Rd w A n c vs) (hd:Dig aD vs) (ha:Away A n g) (f:Nat) (hf:vs[n-1]?=some f) (hfb:9223372036854775808≤f) (hlt:val aD ((ys.drop o).take (n+1))<val aD vs*aD) :
 Calls Tryz.prog 233 #[.slice (some ⟨g,o,none⟩) (n+1) cP,.slice A n c] w fun e w' =>
  Hid (∃ zs:List Nat,e = .returned (.int .u64 ((val aD ((ys.drop o).take (n+1))/val aD vs:Nat):Int))∧zs.length=n+1∧Dig aD zs∧val aD zs=val aD ((ys.drop o).take (n+1))%val aD vs∧zs[n]?=some 0∧Blk w' g t (put ys o zs)∧w.grownBy w' (some g)):=by
 have hW:=aH
 obtain ⟨U,hU⟩:∃ U,U=val aD ((ys.drop o).take (n+1)):=⟨_,rfl⟩
 obtain ⟨V,hV⟩:∃ V,V=val aD vs:=⟨_,rfl⟩
 have hwl:((ys.drop o).take (n+1)).length=n+1:=by simp;omega
 obtain ⟨y0,hy0⟩:∃ y,ys[o+n]?=some y:=⟨_,List.getElem?_eq_getElem (by omega)⟩
 obtain ⟨y1,hy1⟩:∃ y,ys[o+(n-1)]?=some y:=⟨_,List.getElem?_eq_getElem (by omega)⟩
 obtain ⟨y2,hy2⟩:∃ y,ys[o+(n-2)]?=some y:=⟨_,List.getElem?_eq_getElem (by omega)⟩
 obtain ⟨ad,f',hA,hal,hf',hcf⟩:=h.at_ (k:=n-1) (by omega)
 obtain ⟨ad',s,hA',_,hs',hcs⟩:=h.at_ (k:=n-2) (by omega)
 rw [hA] at hA'
 injection hA' with hA'
 subst hA'
 subst hA
 rw [hf] at hf'
 injection hf' with hf'
 subst hf'
 have hg:=guess_ok hn hwl h.len ((hys.drop o).take _) hd (by rw [gE (by omega)];exact hy0) (by rw [gE (by omega)];exact hy1) (by rw [gE (by omega)];exact hy2) hf hs' hfb hlt
 rw [← hU,← hV] at hg
 have l1:=hys.at_ hy1
 have l2:=hys.at_ hy2
 have l3:=hd.at_ hf
 have l4:=hd.at_ hs'
 obtain ⟨q,hq⟩:∃ q,q=guessOf y0 y1 y2 f s:=⟨_,rfl⟩
 have cg:=Lib.hid (fun w=>guess_any y0 y1 y2 f s w l1 l2 l3 l4)
 rw [← hq] at hg cg
 obtain ⟨g1,g2,g3⟩:=hg
 have hVp:0<V:=by
  have hl:=h.len
  have:vs≠[]:=by rintro rfl;simp at hf
  rcases Nat.eq_zero_or_pos V with e|e
  ·rw [hV.symm.trans e,Nat.zero_mul] at hlt
   omega
  ·exact e
 have hVT:V≤aD^n:=by
  have:=bV hd
  rw [h.len,← hV] at this
  omega
 have hUs:U=val aD ((ys.drop o).take n)+aD^n*y0:=by
  have hk:n<(ys.drop o).length:=by simp;omega
  rw [hU,aF _ _ _ hk]
  have:(ys.drop o)[n]=y0:=by
   have:=gE (ys:=ys) (o:=o) (k:=n) (n:=n+1) (by omega)
   rw [hy0,List.getElem?_take,if_pos (by omega),List.getElem?_eq_getElem hk] at this
   injection this
  rw [this]
 have hcy0:w.cell? ⟨g,o+n,none⟩=some (.int .u64 (y0:Int)):=hb.cell hy0
 have hcy1:w.cell? ⟨g,o+(n-1),none⟩=some (.int .u64 (y1:Int)):=hb.cell hy1
 have hcy2:w.cell? ⟨g,o+(n-2),none⟩=some (.int .u64 (y2:Int)):=hb.cell hy2
 have hnc:n≤c:=h.cap
 have hcm:c≤9223372036854775807:=h.2.2.1
 have hn1:n≠0:=by omega
 have HF:=Lib.hid (And.intro hys (And.intro h (And.intro hd (And.intro ha (And.intro hb (And.intro hU (And.intro hV (And.intro g1 (And.intro g2 (And.intro g3 (And.intro hVp (And.intro hVT (And.intro hUs hy0)))))))))))))
 rw [← hU,← hV]
 clear hlt hU hV hwl hy0 hy1 hy2 hf hs' l1 l2 l3 l4 hq g1 g2 g3 hVp hVT hUs hys h hd ha hb hW hfb
 go_enter Tryz.func233,Tryz.ntmps233
 go_wp2
 go_quiet ((go_at_call 259;exact Calls.quiet_of (cg.out _)))
 have hcy0' : (w.drewN nq).cell? ⟨g,o+n,none⟩=some (.int .u64 (y0:Int)):=hcy0
 have HB:=Lib.hid (show Blk (w.drewN nq) g t ys∧Rd (w.drewN nq) (some ad) n c vs∧w.grownBy (w.drewN nq) (some g) from ⟨HF.out.2.2.2.2.1,HF.out.2.1,⟨rfl,rfl,rfl,Nat.le_refl _,fun _ _ _=>rfl⟩⟩)
 generalize w.drewN nq=w2 at *
 have ct:=Lib.hid (fun W hB hR=>takeMultiple_any g o n cP t ys (some ad) n c vs q W hB HF.out.1 (by omega) (Nat.le_refl _) (by omega) hm63 hR HF.out.2.2.1 HF.out.2.2.2.1 HF.out.2.2.2.2.2.2.2.2.2.1)
 clear hcy0 hcy1 hcy2 hcs hcf cg
 have hle:n≤n+1:=by omega
 go_wp2
 go_region_with ((go_at_call 257;refine (ct.out _ ?_ ?_).mono ?_;exact HB.out.1;exact HB.out.2.1;rintro e w3 ⟨zs,bor,rfl,hz⟩;have hcy3:w3.cell? ⟨g,o+n,none⟩=some (.int .u64 (y0:Int)):=hz.2.2.2.2.1.cell (by rw [put_get (by rw [hz.1];exact Nat.le_refl _) (by omega)];exact HF.out.2.2.2.2.2.2.2.2.2.2.2.2.2);have HZ:=Lib.hid hz;clear hz))
 all_goals
  obtain ⟨hys,h,hd,ha,hb,hU,hV,g1,g2,g3,hVp,hVT,hUs,hy0⟩:=HF.out
  obtain ⟨hz1,hz2,hz3,hz4,hz5,hz6⟩:=HZ.out
  have hxT:=bV hz2
  rw [hz1] at hxT
  have htk:=take_ok (u:=U) (v:=V) (h:=y0) (t:=q) (bor:=bor) hUs (by rw [hV];exact hz4) hxT hVT g1 g2 hVp
  have hg3:w.grownBy w3 (some g):=by first|exact dB HB.out.2.2 hz6|exact dB (only_drew HB.out.2.2) hz6
  have hpl:(put ys o zs).length=ys.length:=dC (by omega)
  by_cases hbr:y0<bor
  ·have hbr' : (y0:Int)<bor:=by omega
   obtain ⟨k1,k2⟩:=htk.2 hbr
   have ca:=addMultiple_any g o n cP t (put ys o zs) (some ad) n c vs 1 w3 hz5 (put_dig hys hz2) (by rw [hpl];omega) (Nat.le_refl _) (by omega) hm63 (h.only ha hg3) hd ha eO
   simp only [Int.natCast_one] at ca
   have CA:=Lib.hid ca
   have hq0:1≤q:=by rw [k1];exact Nat.le_add_left 1 _
   have hq1:(1:Int)≤q:=by omega
   have hqW:(q:Int)≤18446744073709551615:=by have:=aH;omega
   have HK:=Lib.hid (And.intro k1 (And.intro k2 (And.intro hg3 (And.intro hpl (And.intro hz1 hz2)))))
   clear htk k1 k2 ca hbr g1 g2 g3 hVp hVT hUs hU hV hys h hd ha hb hz1 hz2 hz3 hz4 hz5 hz6 hxT hg3 hpl hcy3 HZ hcy0' hq0
   go_wp2_with fail
   refine CA.out.mono ?_
   rintro e w4 ⟨zs2,cy,rfl,q1,q2,q3,q4,q5,q6⟩
   obtain ⟨k1,k2,hg3,hpl,hz1,hz2⟩:=HK.out
   rw [put_put (by omega) (by omega)] at q5
   obtain ⟨z,hcz⟩:∃ z:Int,w4.cell? ⟨g,o+n,none⟩=some (.int .u64 z):=⟨_,q5.cell_get (by rw [dC (by omega)];omega)⟩
   have hfz:=q5.frozen (o+n)
   have HQ:=Lib.hid (And.intro q1 (And.intro q2 (And.intro q3 (And.intro q4 (And.intro q5 q6)))))
   clear q1 q2 q3 q4 q5 q6 k1 k2 hg3 hpl hz1 hz2
   go_wp2
   go_ret
   obtain ⟨k1,k2,hg3,hpl,hz1,hz2⟩:=HK.out
   obtain ⟨q1,q2,q3,q4,q5,q6⟩:=HQ.out
   have hwin2:=put_window (ys:=ys) (zs:=zs) (o:=o) (by omega)
   rw [hz1] at hwin2
   rw [hwin2,Nat.one_mul,← HF.out.2.2.2.2.2.2.1] at q4
   have hzv:=bV q2
   rw [q1] at hzv
   have hmod:val aD zs2=U%V:=by
    have hm:U%V<V:=Nat.mod_lt _ HF.out.2.2.2.2.2.2.2.2.2.2.1
    have hVT:=HF.out.2.2.2.2.2.2.2.2.2.2.2.1
    rw [← k2] at q4
    rcases Nat.lt_or_ge cy 1 with e|e
    ·have:cy=0:=by omega
     subst this
     omega
    ·have:aD^n*1≤aD^n*cy:=Nat.mul_le_mul_left _ e
     rcases Nat.lt_or_ge cy 2 with e2|e2
     ·have:cy=1:=by omega
      subst this
      omega
     ·have:aD^n*2≤aD^n*cy:=Nat.mul_le_mul_left _ e2
      omega
   have P1:(q:Int)-1=((U/V:Nat):Int):=by omega
   have P2:(zs2 ++ [0]).length=n+1:=by simp [q1]
   have P3:Dig aD (zs2 ++ [0]):=q2.app (Dig.cons bD (Dig.nil _))
   have P4:val aD (zs2 ++ [0])=U%V:=by rw [cR,hmod];simp
   have P5:(zs2 ++ [0])[n]?=some 0:=by rw [List.getElem?_append_right (by omega)];simp [q1]
   have P6:Blk (w4.setCell ⟨g,o+n,none⟩ (.int .u64 0)) g t (put ys o (zs2 ++ [0])):=by rw [← put_set q1 (by omega)];exact q5.set_ _ 0
   have P7:=dB (dB hg3 q6) (eV w4 g (o+n) (.int .u64 0))
   first
    | exact ⟨zs2 ++ [0],bY P1,P2,P3,P4,P5,P6,P7⟩
    | exact ⟨bY P1,zs2 ++ [0],P2,P3,P4,P5,P6,P7⟩
  ·have hbr' : ¬ (y0:Int)<bor:=by omega
   obtain ⟨k1,k2,k3⟩:=htk.1 (by omega)
   obtain ⟨z,hcz⟩:∃ z:Int,w3.cell? ⟨g,o+n,none⟩=some (.int .u64 z):=⟨_,hz5.cell_get (by rw [hpl];omega)⟩
   have hfz:=hz5.frozen (o+n)
   have HK:=Lib.hid (And.intro k1 (And.intro k2 hg3))
   clear htk k1 k2 k3 hbr g1 g2 g3 hVp hVT hUs hU hV hys h hd ha hb hz1 hz2 hz3 hz4 hz5 hz6 hxT hg3 hpl hcy3 hcy0'
   go_wp2
   go_ret
   obtain ⟨hz1,hz2,hz3,hz4,hz5,hz6⟩:=HZ.out
   have P1:(q:Int)=((U/V:Nat):Int):=by rw [HK.out.1]
   have P2:(zs ++ [0]).length=n+1:=by simp [hz1]
   have P3:Dig aD (zs ++ [0]):=hz2.app (Dig.cons bD (Dig.nil _))
   have P4:val aD (zs ++ [0])=U%V:=by rw [cR,HK.out.2.1];simp
   have P5:(zs ++ [0])[n]?=some 0:=by rw [List.getElem?_append_right (by omega)];simp [hz1]
   have P6:Blk (w3.setCell ⟨g,o+n,none⟩ (.int .u64 0)) g t (put ys o (zs ++ [0])):=by rw [← put_set hz1 (by omega)];exact hz5.set_ _ 0
   have P7:=dB HK.out.2.2 (eV w3 g (o+n) (.int .u64 0))
   first
    | exact ⟨zs ++ [0],bY P1,P2,P3,P4,P5,P6,P7⟩
    | exact ⟨bY P1,zs ++ [0],P2,P3,P4,P5,P6,P7⟩
def LongInv (V U0 n' L:Nat) (us qs:List Nat) (k:Nat):Prop :=
 Dig aD us∧us.length=L+n'∧Dig aD qs∧qs.length=L∧val aD (us.drop k)<V∧val aD (qs.drop k)*V*aD^k+val aD us=U0
theorem LongInv.window {V U0 n' L m:Nat} {us qs:List Nat} (h:LongInv V U0 n' L us qs (m+1)) (hm:m<L) (hV:V≤aD^n') :
 val aD ((us.drop m).take (n'+1))=val aD (us.drop m)∧val aD (us.drop (m+(n'+1)))=0∧val aD (us.drop m)<V*aD:=by
 obtain ⟨h1,h2,h3,h4,h5,h6⟩:=h
 have e1:=val_drop aD us m (by omega)
 have l1:=h1.get m (by omega)
 have hlt:val aD (us.drop m)<V*aD:=by
  have:aD*(val aD (us.drop (m+1))+1)≤aD*V:=Nat.mul_le_mul_left _ h5
  rw [Nat.mul_add,Nat.mul_one] at this
  rw [Nat.mul_comm V]
  omega
 have e2:=eG aD (us.drop m) (n'+1) (by simp;omega)
 rw [List.drop_drop] at e2
 have hz:val aD (us.drop (m+(n'+1)))=0:=by
  rcases Nat.eq_zero_or_pos (val aD (us.drop (m+(n'+1)))) with e|e
  ·exact e
  ·exfalso
   have a1:aD^(n'+1)*1≤aD^(n'+1)*val aD (us.drop (m+(n'+1))):=Nat.mul_le_mul_left _ e
   have a2:V*aD≤aD^n'*aD:=Nat.mul_le_mul_right _ hV
   rw [← Nat.pow_succ] at a2
   have:n'.succ=n'+1:=rfl
   rw [this] at a2
   omega
 rw [hz] at e2
 exact ⟨by omega,hz,hlt⟩
theorem put_drop {ys zs:List Nat} {o:Nat} (h:o+zs.length≤ys.length):(put ys o zs).drop o=zs++ys.drop (o+zs.length):=by
 unfold put
 rw [List.drop_append_of_le_length (by simp;omega),List.drop_of_length_le (by simp;omega)]
 rfl
theorem put_take0 {ys zs:List Nat} {o:Nat} (h:o+zs.length≤ys.length):(put ys o zs).take o=ys.take o:=by
 unfold put
 rw [List.take_append_of_le_length (by simp;omega),List.take_take,Nat.min_self]
theorem long_alg (q Y V P B Z r X:Nat) (h:V*q+r=X):(q+B*Y)*V*P+(Z+P*r)=Y*V*(P*B)+(Z+P*X):=by subst h;grind
theorem LongInv.step {V U0 n' L m:Nat} {us qs zs:List Nat} (h:LongInv V U0 n' L us qs (m+1)) (hm:m<L) (hV:V≤aD^n') (hV0:0<V)
 (hz:zs.length=n'+1) (hzd:Dig aD zs) (hzv:val aD zs=val aD ((us.drop m).take (n'+1))%V) :
 LongInv V U0 n' L (put us m zs) (qs.set m (val aD ((us.drop m).take (n'+1))/V)) m:=by
 obtain ⟨w1,w2,w3⟩:=h.window hm hV
 obtain ⟨h1,h2,h3,h4,h5,h6⟩:=h
 rw [w1] at hzv ⊢
 have hq:val aD (us.drop m)/V<aD:=by rw [Nat.div_lt_iff_lt_mul hV0,Nat.mul_comm];exact w3
 have hlen:m+zs.length≤us.length:=by omega
 have e1:val aD ((put us m zs).drop m)=val aD (us.drop m)%V:=by
  rw [put_drop hlen,gB,hz,w2,hzv,Nat.mul_zero,Nat.add_zero]
 have e2:val aD (put us m zs)=val aD (us.take m)+aD^m*(val aD (us.drop m)%V):=by
  rw [eG aD (put us m zs) m (by rw [dC hlen];omega),put_take0 hlen,e1]
 have e3:=eG aD us m (by omega)
 have e4:(qs.set m (val aD (us.drop m)/V)).drop m=val aD (us.drop m)/V::qs.drop (m+1):=by
  rw [List.drop_eq_getElem_cons (by simp;omega),List.getElem_set_self,List.drop_set_of_lt (by omega)]
 have hdm:=Nat.div_add_mod (val aD (us.drop m)) V
 refine ⟨put_dig h1 hzd,by rw [dC hlen,h2],h3.set hq,by simp [h4],by rw [e1];exact Nat.mod_lt _ hV0,?_⟩
 rw [e4,e2,← h6,e3,Nat.pow_succ]
 exact long_alg _ _ _ _ _ _ _ _ hdm
theorem LongInv.finish {V n' L d s N:Nat} {us qs:List Nat} (h:LongInv V (N*2^s) n' L us qs 0) (hV:V=d*2^s) (hd:0<d) :
 val aD qs=N/d∧val aD us/2^s=N%d:=by
 obtain ⟨_,_,_,_,h5,h6⟩:=h
 have hp:0<2^s:=Nat.pow_pos (by omega)
 have hV0:0<V:=by rw [hV];exact Nat.mul_pos hd hp
 simp only [List.drop_zero,Nat.pow_zero,Nat.mul_one] at h5 h6
 have e1:N*2^s/V=val aD qs:=by rw [← h6,Nat.add_comm,Nat.add_mul_div_right _ _ hV0,Nat.div_eq_of_lt h5];omega
 have e2:N*2^s%V=val aD us:=by rw [← h6,Nat.add_comm,Nat.add_mul_mod_self_right,Nat.mod_eq_of_lt h5]
 constructor
 ·rw [← e1,hV,Nat.mul_div_mul_right _ _ hp]
 ·rw [← e2,hV,Nat.mul_mod_mul_right,Nat.mul_div_cancel _ hp]
theorem shifted_top {ys vs:List Nat} {s y:Nat} (hy:Dig aD ys) (hl:0<ys.length) (htop:ys[ys.length-1]?=some y) (hs1:9223372036854775808≤y*2^s) (hs2:y*2^s<aD)
 (hv:Dig aD vs) (hn:Norm vs) (e:val aD vs=val aD ys*2^s) (hy0:0<y):vs.length=ys.length∧∃ f,vs[ys.length-1]?=some f∧9223372036854775808≤f:=by
 obtain ⟨m,hm⟩:∃ m,ys.length=m+1:=⟨ys.length-1,by omega⟩
 rw [hm,show m+1-1=m from by omega] at htop ⊢
 obtain ⟨k,ey⟩:=List.getElem?_eq_some_iff.1 htop
 have hp:0<2^s:=Nat.pow_pos (by omega)
 have hval:val aD ys=val aD (ys.take m)+aD^m*y:=by
  have:val aD ys=val aD (ys.take (m+1)):=by rw [List.take_of_length_le (by omega)]
  rw [this,aF _ _ _ k,ey]
 have hlow:=bV (hy.take m)
 rw [List.length_take,Nat.min_eq_left (by omega)] at hlow
 have a1:val aD vs=val aD (ys.take m)*2^s+aD^m*(y*2^s):=by rw [e,hval,Nat.add_mul,Nat.mul_assoc]
 have a2:val aD (ys.take m)*2^s<aD^m*2^s:=Nat.mul_lt_mul_of_pos_right hlow hp
 have hlt:val aD vs<aD^(m+1):=by
  have b1:aD^m*(2^s+y*2^s)≤aD^m*aD:=by
   apply Nat.mul_le_mul_left
   have hs64:s≤63:=by
    rcases Nat.lt_or_ge 63 s with h|h
    ·exfalso
     have:2^64≤2^s:=Nat.pow_le_pow_right (by omega) h
     have:1*2^s≤y*2^s:=Nat.mul_le_mul_right _ hy0
     have:=aH
     omega
    ·exact h
   have hW:=W64_pow (s:=s) (by omega)
   have c1:y*2^s<2^(64-s)*2^s:=by rw [← hW];exact hs2
   have c2:=Nat.lt_of_mul_lt_mul_right c1
   have c3:(y+1)*2^s≤2^(64-s)*2^s:=Nat.mul_le_mul_right _ c2
   rw [← hW,Nat.add_mul,Nat.one_mul] at c3
   omega
  rw [Nat.mul_add] at b1
  rw [Nat.pow_succ]
  omega
 have hge:aD^m≤val aD vs:=by
  have:aD^m*1≤aD^m*(y*2^s):=Nat.mul_le_mul_left _ (by omega)
  omega
 have hlen:vs.length=m+1:=by
  have l1:=aV eO hn hlt
  rcases Nat.lt_or_ge vs.length (m+1) with h|h
  ·exfalso
   have:=bV hv
   have:aD^vs.length≤aD^m:=Nat.pow_le_pow_right bD (by omega)
   omega
  ·omega
 refine ⟨by omega,?_⟩
 refine ⟨vs[m],List.getElem?_eq_getElem (by omega),?_⟩
 have hv2:val aD vs=val aD (vs.take m)+aD^m*vs[m]:=by
  have:val aD vs=val aD (vs.take (m+1)):=by rw [List.take_of_length_le (by omega)]
  rw [this,aF _ _ _ (by omega)]
 have hvl:=bV (hv.take m)
 rw [List.length_take,Nat.min_eq_left (by omega)] at hvl
 have c1:aD^m*9223372036854775808≤aD^m*(y*2^s):=Nat.mul_le_mul_left _ hs1
 have c2:aD^m*9223372036854775808<aD^m*(vs[m]+1):=by
  rw [Nat.mul_add,Nat.mul_one]
  omega
 have:=Nat.lt_of_mul_lt_mul_left c2
 omega
theorem LongInv.start {V U0 n n' : Nat} {us:List Nat} {N d s:Nat} (hu:Dig aD us) (hul:us.length=n+1) (hU:val aD us=U0) (hU0:U0=N*2^s) (hN:N<aD^n) (hV:V=d*2^s) (hd:aD^(n'-1)≤d) (hn:n'≤n) (hn0:0<n') :
 LongInv V U0 n' (n-n'+1) us (List.replicate (n-n'+1) 0) (n-n'+1):=by
 refine ⟨hu,by omega,Dig.replicate bD _,by simp,?_,?_⟩
 ·have e:=eG aD us (n-n'+1) (by omega)
  have hp:0<2^s:=Nat.pow_pos (by omega)
  have a1:N*2^s<aD^n*2^s:=Nat.mul_lt_mul_of_pos_right hN hp
  have a2:aD^n=aD^(n-n'+1)*aD^(n'-1):=by rw [← Nat.pow_add];congr 1;omega
  have a3:aD^(n-n'+1)*val aD (us.drop (n-n'+1))<aD^(n-n'+1)*(aD^(n'-1)*2^s):=by
   rw [← Nat.mul_assoc,← a2];omega
  have a4:=Nat.lt_of_mul_lt_mul_left a3
  have a5:aD^(n'-1)*2^s≤d*2^s:=Nat.mul_le_mul_right _ hd
  rw [hV];omega
 ·rw [List.drop_of_length_le (by simp)]
  simp [val,hU]
theorem take_len_facts {ys vs:List Nat} {s y k n' : Nat} (hk1:k≤vs.length) (hk2:Norm (vs.take k)) (hk3:val aD (vs.take k)=val aD vs) (hv:val aD vs=val aD ys*2^s) (hd:Dig aD vs) (hy:Dig aD ys)
 (hl:ys.length=n') (hn:2≤n') (htop:ys[n'-1]?=some y) (hy0:0<y) (hs1:9223372036854775808≤y*2^s) (hs2:y*2^s<aD):n'=k∧∃ f,(vs.take k)[n'-1]?=some f∧9223372036854775808≤f:=by
 subst hl
 obtain ⟨h1,h2⟩:=shifted_top hy (by omega) htop hs1 hs2 (hd.take k) hk2 (hk3.trans hv) hy0
 rw [List.length_take,Nat.min_eq_left hk1] at h1
 exact ⟨h1.symm,h2⟩
set_option maxHeartbeats 4000000 in
theorem divideLong_any (A:Option Addr) (n c:Nat) (xs:List Nat) (A' : Option Addr) (n' c' : Nat) (ys:List Nat) (w:World) (h:Rd w A n c xs) (h' : Rd w A' n' c' ys)
 (hd:Dig aD xs) (hd' : Dig aD ys) (hn:n≤2199023255551) (hn2:2≤n') (hle:n'≤n) (hnorm:Norm ys) :
 Calls Tryz.prog 194 #[.slice A n c,.slice A' n' c'] w fun e w' =>
  Hid (∃ v v',e = .returned (.tuple #[v,v'])∧Nt w' v (val aD xs/val aD ys)∧Nt w' v' (val aD xs%val aD ys))∧Below w.heap.size w w':=by
 have hnc:n≤c:=h.cap
 have hcm:c≤9223372036854775807:=h.2.2.1
 have hnc' : n'≤c':=h'.cap
 have hcm' : c'≤9223372036854775807:=h'.2.2.1
 obtain ⟨ad',y,hA',_,hy,hcy⟩:=h'.at_ (k:=n'-1) (by omega)
 subst hA'
 have hyl:=hd'.at_ hy
 have hy0:0<y:=by
  have hne:ys≠[]:=by rintro rfl;simp at hy
  have:=hnorm hne
  rw [List.getLast_eq_getElem] at this
  obtain ⟨k,ey⟩:=List.getElem?_eq_some_iff.1 hy
  have hl:=h'.len
  simp only [hl,ey] at this
  omega
 obtain ⟨s,hs,hbl,s1,s2⟩:=norm_shift y hy0 hyl
 have hge:=hnorm.ge (B:=aD) (by rintro rfl;simp at hy)
 rw [h'.len] at hge
 have hdp:0<val aD ys:=by
  have:0<aD^(n'-1):=Nat.pow_pos bD
  omega
 have cl:=Lib.hid (Tryz.bits_LeadingZeros64 (y:Int) w (by omega) (by have:=aH;omega))
 have HS:=Lib.hid hbl
 obtain ⟨i0,hi,hz0,hz1,hz2⟩:=info_parts eY
 have HI:=Lib.hid (And.intro hi (And.intro hz0 (And.intro hz1 hz2)))
 have HX:=Lib.hid (And.intro h hd)
 have HY:=Lib.hid (And.intro h' (And.intro hd' (And.intro hy (And.intro hy0 (And.intro s1 (And.intro s2 (And.intro hge hdp)))))))
 clear h h' hd hd' hi hz0 hz1 hz2 hy hy0 hyl s1 s2 hge hdp hnorm hbl
 go_enter Tryz.func194,Tryz.ntmps194
 go_wp2_with (go_at_call 228;refine (cl.out).mono ?_;rintro e w' ⟨rfl,hw⟩;rw [hw];rw [Int.toNat_natCast,HS.out])
 refine (shiftedUp_any A n c xs s w HX.out.1 HX.out.2 (by omega) hs).mono ?_
 rintro e w1 ⟨⟨us,rfl,hb1,hl1,hd1,hv1⟩,hbe1⟩
 have H1:=Lib.hid (And.intro hb1 (And.intro hl1 (And.intro hd1 (And.intro hv1 hbe1))))
 clear hb1 hl1 hd1 hv1 hbe1 hcy
 go_wp2_with fail
 refine (shiftedUp_any (some ad') n' c' ys s w1 (HY.out.1.below H1.out.2.2.2.2) HY.out.2.1 (by omega) hs).mono ?_
 rintro e w2 ⟨⟨vs,rfl,hb2,hl2,hd2,hv2⟩,hbe2⟩
 have H2:=Lib.hid (And.intro hb2 (And.intro hl2 (And.intro hd2 (And.intro hv2 hbe2))))
 clear hb2 hl2 hd2 hv2 hbe2
 go_wp2_with fail
 refine (trimmed_raw _ _ _ vs w2 (by have:=H2.out.1.rd (by rw [H2.out.2.1];show n'+1≤9223372036854775807;omega);rwa [H2.out.2.1] at this)).mono ?_
 rintro e w3 ⟨⟨k,⟨hk1,hk2,hk3⟩,rfl⟩,rfl⟩
 have htk:=take_len_facts hk1 hk2 hk3 H2.out.2.2.2.1 H2.out.2.2.1 HY.out.2.1 HY.out.1.len (by omega) HY.out.2.2.1 HY.out.2.2.2.1 HY.out.2.2.2.2.1 HY.out.2.2.2.2.2.1
 obtain ⟨rfl,f,hf1,hf2⟩:=htk
 obtain ⟨ds,hds⟩:∃ ds,ds=vs.take n':=⟨_,rfl⟩
 have hrd:Rd w2 (some ⟨w1.heap.size,0,none⟩) n' (n'+1) ds:=by
  have:=H2.out.1.rd (by rw [H2.out.2.1];show n'+1≤9223372036854775807;omega)
  rw [H2.out.2.1] at this
  rw [hds]
  exact this.take (by omega)
 have hg12:w.heap.size<w1.heap.size:=H1.out.1.lt
 obtain ⟨g1,hg1⟩:∃ g1,g1=w.heap.size:=⟨_,rfl⟩
 obtain ⟨g2,hg2⟩:∃ g2,g2=w1.heap.size:=⟨_,rfl⟩
 have hbu:Blk w2 g1 151 us:=by rw [hg1];exact H1.out.1.below H2.out.2.2.2.2 hg12
 have hbe:Below w.heap.size w w2:=H1.out.2.2.2.2.trans (H2.out.2.2.2.2.mono (by omega))
 rw [← hg1] at hg12 hbe
 rw [← hg2] at hg12 hrd
 rw [← hds] at hf1 hk2 hk3
 have hdd:Dig aD ds:=by rw [hds];exact H2.out.2.2.1.take _
 have hV:val aD ds=val aD ys*2^s:=by rw [hk3];exact H2.out.2.2.2.1
 have HD:=Lib.hid (And.intro hrd (And.intro hdd (And.intro hV (And.intro hf1 (And.intro hf2 (And.intro hbu hbe))))))
 rw [← hg1,← hg2]
 have HG:=Lib.hid (And.intro hg1 hg2)
 clear hrd hdd hV hf1 hf2 hbu hbe hds hk1 hk2 hk3 hg1 hg2
 have hnk:(0:Int)≤(n:Int)-n':=by omega
 go_wp2_with (at_make;refine wpList_make_full _ rfl _ _ 102 rfl w2.heap.size 151 i0 (.int .u64 0) 1 Tryz.underlying102 HI.out.1 HI.out.2.1 HI.out.2.2.1 _ _ _ _ (n-n'+1) rfl rfl ?b0 ?b1 ?b2 ?b3 (Nat.le_refl _) ?_)
 case b0=>omega
 case b1=>omega
 case b2=>rw [HI.out.2.2.2];omega
 case b3=>show n-n'+1≤9223372036854775807;omega
 intro w4 hown hgw
 have hb4:Below w2.heap.size w2 w4:=(Below.refl _ _).grown hgw (Nat.le_refl _) (fun _ h=>by cases h)
 have hblk:=dV hown
 obtain ⟨g3,hg3⟩:∃ g3,g3=w2.heap.size:=⟨_,rfl⟩
 rw [← hg3] at hblk ⊢
 have hg13:g1<g3:=by rw [hg3];exact HD.out.2.2.2.2.2.1.lt
 have hg23:g2<g3:=by rw [hg3,HG.out.2];exact H2.out.1.lt
 have hbu4:Blk w4 g1 151 us:=HD.out.2.2.2.2.2.1.below hb4 HD.out.2.2.2.2.2.1.lt
 have hrd4:Rd w4 (some ⟨g2,0,none⟩) n' (n'+1) ds:=HD.out.1.below hb4
 have hbe4:Below g1 w w4:=HD.out.2.2.2.2.2.2.trans (hb4.mono (by omega))
 have hst:LongInv (val aD ds) (val aD xs*2^s) n' (n-n'+1) us (List.replicate (n-n'+1) 0) (n-n'+1) :=
  LongInv.start H1.out.2.2.1 H1.out.2.1 H1.out.2.2.2.1 rfl (by have:=bV HX.out.2;rwa [HX.out.1.len] at this) HD.out.2.2.1 HY.out.2.2.2.2.2.2.1 hle (by omega)
 have HS0:=Lib.hid (And.intro hst (And.intro hblk (And.intro hbu4 (And.intro hrd4 hbe4))))
 have hVk:val aD ds≤aD^n':=by
  have:=bV HD.out.2.1
  rw [HD.out.1.len] at this
  omega
 have hVp:0<val aD ds:=by rw [HD.out.2.2.1];exact Nat.mul_pos HY.out.2.2.2.2.2.2.2 (Nat.pow_pos (by omega))
 have HV:=Lib.hid (And.intro hVk hVp)
 have hL:((n-n' : Nat):Int)=(n:Int)-n':=by omega
 have HL:=Lib.hid hL
 clear hst hblk hbu4 hrd4 hbe4 hown hgw hb4 hVk hVp hg3 hL
 obtain ⟨L,hLL⟩:∃ L,L=n-n'+1:=⟨_,rfl⟩
 have hLn:(L:Int)=(n:Int)-n'+1:=by omega
 have hLk:L+n'=n+1:=by omega
 have hL1:L≤2199023255553:=by omega
 have HLk:=Lib.hid (And.intro hLk hLn)
 rw [← hLL] at HS0 ⊢
 clear hLk hLn hLL
 go_wp2
 go_loopw [10] (fun i wr => ∃ (k:Nat) (us qs:List Nat),k≤L∧i = .int .i64 ((k:Int)-1)∧LongInv (val aD ds) (val aD xs*2^s) n' L us qs k∧Blk wr g3 151 qs∧Blk wr g1 151 us∧Rd wr (some ⟨g2,0,none⟩) n' (n'+1) ds∧Below g1 w wr) (fun i _=>(intOf i+1).toNat)
 case atStart=>exact ⟨L,us,_,Nat.le_refl _,rfl,HS0.out.1,HS0.out.2.1,HS0.out.2.2.1,HS0.out.2.2.2.1,HS0.out.2.2.2.2⟩
 case round =>
  clear H1 H2
  obtain ⟨k,us,qs,hk,rfl,hinv,hbq,hbu,hrd,hbe⟩:=hrel
  have hul:us.length=n+1:=by rw [hinv.2.1];exact HLk.out.1
  have hql:qs.length=L:=hinv.2.2.2.1
  rcases Nat.eq_zero_or_pos k with rfl|hk0
  ·obtain ⟨f1,f2⟩:=hinv.finish HD.out.2.2.1 HY.out.2.2.2.2.2.2.2
   have hrq:=hbq.rd (by rw [hql];show L≤9223372036854775807;omega)
   have hru:=hbu.rd (by rw [hul];show n+1≤9223372036854775807;omega)
   rw [hql] at hrq
   rw [hul] at hru
   have HF:=Lib.hid (And.intro f1 (And.intro f2 (And.intro hinv.1 (And.intro hinv.2.2.1 (And.intro hrq (And.intro hru hbe))))))
   clear f1 f2 hrq hru hinv hbq hbu hrd hbe hul hql
   simp only [show (((0:Nat):Int)-1) = -1 from rfl]
   go_wp2_with fail
   refine (eJ _ _ _ qs wr HF.out.2.2.2.2.1 HF.out.2.2.2.1).mono ?_
   rintro e w5 ⟨⟨v,rfl,hv⟩,rfl⟩
   have HV1:=Lib.hid hv
   clear hv
   go_wp2_with fail
   refine (shiftedDown_any _ _ _ us s wr HF.out.2.2.2.2.2.1 HF.out.2.2.1 (by have:=HLk.out;omega) hs).mono ?_
   rintro e w6 ⟨v',rfl,hv',hb6⟩
   have HV2:=Lib.hid (And.intro hv' hb6)
   clear hv' hb6
   go_wp2
   go_ret2
   refine ⟨⟨v,v',rfl,?_,?_⟩,?_⟩
   ·rw [← HF.out.1];exact HV1.out.below HV2.out.2
   ·rw [← HF.out.2.1];exact HV2.out.1
   ·rw [← HG.out.1]
    exact HF.out.2.2.2.2.2.2.trans (HV2.out.2.mono (by
     have h1:=HF.out.2.2.2.2.2.2.size
     have h2:=HG.out.1
     omega))
  ·obtain ⟨m,rfl⟩:∃ m,k=m+1:=⟨k-1,by omega⟩
   have hwd:=hinv.window (by omega) HV.out.1
   have ct:=takeOut_any g1 m n' (n+1-m) 151 us (some ⟨g2,0,none⟩) (n'+1) ds wr hbu hinv.1 hn2 (by omega) (by have:=HLk.out;omega) (by have:=HLk.out;omega) (by omega) hrd HD.out.2.1 (fun _ ad h=>by injection h with h;rw [← h];show g2≠g1;omega) f HD.out.2.2.2.1 HD.out.2.2.2.2.1 (by rw [hwd.1];exact hwd.2.2)
   have CT:=Lib.hid ct
   have HE:=Lib.hid (And.intro hinv (And.intro hbq (And.intro hrd (And.intro hbe (And.intro hul (And.intro hql (by omega:m<L)))))))
   have hmn:(m:Int)+n'+1≤(n:Int)+1:=by have:=HLk.out;omega
   have hmne:¬ n+1=m:=by have:=HLk.out;omega
   have hbu_lt:=hbu.lt
   clear hwd ct hinv hbq hbu hrd hbe hk0 hul hql
   simp only [Int.natCast_add,Int.natCast_one,show ((m:Int)+1-1)=m from by omega]
   go_wp2_with fail
   rw [show m+n'+1-m=n'+1 from by omega]
   refine CT.out.mono ?_
   rintro e w5 ⟨zs,rfl,q1,q2,q3,_,q5,q6⟩
   obtain ⟨hinv,hbq,hrd,hbe,hul,hql,hmL⟩:=HE.out
   have hst:=hinv.step hmL HV.out.1 HV.out.2 q1 q2 q3
   obtain ⟨q,hq⟩:∃ q,q=val aD ((us.drop m).take (n'+1))/val aD ds:=⟨_,rfl⟩
   rw [← hq] at hst ⊢
   have hbq5:Blk w5 g3 151 qs:=(q6.block g3 hbq.lt (by intro e;injection e with e;omega)).trans hbq
   have hrd5:Rd w5 (some ⟨g2,0,none⟩) n' (n'+1) ds:=hrd.only (fun _ ad h=>by injection h with h;rw [← h];show g2≠g1;omega) q6
   have hbe5:Below g1 w w5:=hbe.grown q6 (Nat.le_of_lt hbu_lt) (fun _ h=>by injection h with h;omega)
   obtain ⟨z,hcz⟩:∃ z:Int,w5.cell? ⟨g3,m,none⟩=some (.int .u64 z):=⟨_,hbq5.cell_get (by omega)⟩
   have hfz:=hbq5.frozen m
   have HQ:=Lib.hid (And.intro hst (And.intro hbq5 (And.intro q5 (And.intro hrd5 hbe5))))
   have hmi:(m:Int)≤L:=by omega
   clear hst hbq5 q5 hrd5 hbe5 hinv hbq hrd hbe hul hql q1 q2 q3 q6 hq hmL
   go_wp2
   go_roundw
   case rel =>
    obtain ⟨hst,hbq5,q5,hrd5,hbe5⟩:=HQ.out
    exact ⟨m,put us m zs,qs.set m q,by omega,rfl,hst,hbq5.set_ _ _,q5.far (by show g1≠g3;omega) _,hrd5.only (fun _ ad h=>by injection h with h;rw [← h];show g2≠g3;omega) (eV _ _ _ _),hbe5.setCell (by show g1≤g3;omega) _⟩
   case measure=>simp [intOf]
theorem Nt.zero (w:World):Nt w (.slice none 0 0) 0:=⟨none,0,0,[],rfl,Rd.nil,Dig.nil _,Norm.nil,rfl⟩
def GivesTwo (w:World) (a b:Nat) (e:Ending) (w' : World):Prop := ∃ v v',e = .returned (.tuple #[v,v'])∧Nt w' v a∧Nt w' v' b∧Below w.heap.size w w'
set_option maxHeartbeats 1000000 in
theorem divide_any (A:Option Addr) (n c:Nat) (xs:List Nat) (A' : Option Addr) (n' c' : Nat) (ys:List Nat) (w:World) (h:Rd w A n c xs) (h' : Rd w A' n' c' ys)
 (hd:Dig aD xs) (hd' : Dig aD ys) (hn:n≤2199023255551) (hx:Norm xs) (hy:Norm ys) (h0:0<n') :
 Calls Tryz.prog 129 #[.slice A n c,.slice A' n' c'] w (GivesTwo w (val aD xs/val aD ys) (val aD xs%val aD ys)):=by
 have hnc:n≤c:=h.cap
 have hcm:c≤9223372036854775807:=h.2.2.1
 have hnc' : n'≤c':=h'.cap
 have hcm' : c'≤9223372036854775807:=h'.2.2.1
 have hpos:0<val aD ys:=hy.pos bD (by rintro rfl;have:=h'.len;simp at this;omega)
 have cc:=Lib.hid (compare_any A n c xs A' n' c' ys w h h' hd hd' hx hy)
 have HX:=Lib.hid (And.intro h (And.intro hd hx))
 have HY:=Lib.hid (And.intro h' (And.intro hd' (And.intro hy hpos)))
 clear h h' hd hd' hx hy hpos
 by_cases hlt:val aD xs<val aD ys
 ·have hc:bZ (val aD xs) (val aD ys) = -1:=by unfold bZ;rw [if_pos (by omega)]
  rw [hc] at cc
  have HL:=Lib.hid hlt
  clear hc hlt
  go_enter Tryz.func129,Tryz.ntmps129
  go_wp2_with fail
  refine cc.out.mono ?_
  rintro e w1 ⟨rfl,hb⟩
  go_wp2
  go_ret2
  refine ⟨_,_,rfl,?_,?_,hb⟩
  ·rw [Nat.div_eq_of_lt HL.out];exact Nt.zero _
  ·rw [Nat.mod_eq_of_lt HL.out];exact ⟨A,n,c,xs,rfl,HX.out.1.below hb,HX.out.2.1,HX.out.2.2,rfl⟩
 ·obtain ⟨z,hz,hz0⟩:∃ z:Int,bZ (val aD xs) (val aD ys)=z∧¬ z<0:=⟨_,rfl,by unfold bZ;rw [if_neg (by omega)];split <;> omega⟩
  rw [hz] at cc
  have hle:n'≤n:=by
   rcases Nat.lt_or_ge n n' with h|h
   ·have:=dI eO HX.out.2.1 HY.out.2.2.1 (by rw [HX.out.1.len,HY.out.1.len];exact h)
    omega
   ·exact h
  clear hz hlt
  by_cases h1:n'=1
  ·subst h1
   obtain ⟨ad',y,hA',_,hy,hcy⟩:=HY.out.1.at_ (k:=0) (by omega)
   subst hA'
   have hyy:val aD ys=y:=by
    have hl:=HY.out.1.len
    match ys,hl,hy with
    | [a],_,hy=>simp at hy;subst hy;simp [val]
   have hyl:y<aD:=HY.out.2.1.at_ hy
   have hy0:0<y:=by rw [← hyy];exact HY.out.2.2.2
   have cd:=Lib.hid (fun w1 (hb:Below w.heap.size w w1)=>divideWord_any A n c xs y w1 (HX.out.1.below hb) HX.out.2.1 (by omega) hy0 hyl)
   have HYY:=Lib.hid (And.intro hyy hyl)
   have hm0:val aD xs%y<aD:=Nat.lt_trans (Nat.mod_lt _ hy0) hyl
   obtain ⟨r,hr⟩:∃ r,r=val aD xs%y:=⟨_,rfl⟩
   rw [← hr] at cd hm0
   have HR:=Lib.hid (And.intro hr hm0)
   clear hy hyy hyl hy0 hr hm0
   go_enter Tryz.func129,Tryz.ntmps129
   go_wp2_with fail
   refine cc.out.mono ?_
   rintro e w1 ⟨rfl,hb⟩
   have hcy1:w1.cell? ad'=some (.int .u64 (y:Int)):=(hb.cell (p:=ad') (by omega)).trans (by simpa [Addr.add] using hcy)
   have HB:=Lib.hid hb
   clear hcy hb
   go_wp2_with fail
   refine (cd.out w1 HB.out).mono ?_
   rintro e w2 ⟨⟨v,rfl,hv⟩,hb2⟩
   have HV:=Lib.hid (And.intro hv hb2)
   clear hv hb2
   go_wp2_with fail
   refine (cB r HR.out.2 w2).mono ?_
   rintro e w3 ⟨v',rfl,hv',hb3⟩
   have HV2:=Lib.hid (And.intro hv' hb3)
   clear hv' hb3
   go_wp2
   go_ret2
   refine ⟨v,v',rfl,?_,?_,HB.out.trans ((HV.out.2.mono HB.out.size).trans (HV2.out.2.mono (Nat.le_trans HB.out.size HV.out.2.size)))⟩
   ·rw [HYY.out.1];exact HV.out.1.below HV2.out.2
   ·rw [HYY.out.1,← HR.out.1];exact HV2.out.1
  ·have h2:2≤n':=by omega
   have hz1:((n' : Int)==1)=false:=by simp;omega
   have cd:=Lib.hid (fun w1 (hb:Below w.heap.size w w1)=>divideLong_any A n c xs A' n' c' ys w1 (HX.out.1.below hb) (HY.out.1.below hb) HX.out.2.1 HY.out.2.1 hn h2 hle HY.out.2.2.1)
   clear h1
   go_enter Tryz.func129,Tryz.ntmps129
   go_wp2_with fail
   refine cc.out.mono ?_
   rintro e w1 ⟨rfl,hb⟩
   have HB:=Lib.hid hb
   clear hb
   go_wp2_with fail
   refine (cd.out w1 HB.out).mono ?_
   rintro e w2 ⟨⟨v,v',rfl,hv,hv'⟩,hb2⟩
   have HV:=Lib.hid (And.intro hv (And.intro hv' hb2))
   clear hv hv' hb2
   go_wp2
   go_ret2
   exact ⟨v,v',rfl,HV.out.1,HV.out.2.1,HB.out.trans (HV.out.2.2.mono HB.out.size)⟩
set_option maxHeartbeats 1000000 in
theorem gcdWords_any (a b:Nat) (w:World) (ha:a<aD) (hb:b<aD) :
 Calls Tryz.prog 151 #[.int .u64 (a:Int),.int .u64 (b:Int)] w (Gives w (.int .u64 ((Nat.gcd a b:Nat):Int))):=by
 have HA:=Lib.hid (And.intro ha hb)
 clear ha hb
 go_enter Tryz.func151,Tryz.ntmps151
 go_wp2
 go_loopw [0,1] (fun x y wr => ∃ p q:Nat,x = .int .u64 (p:Int)∧y = .int .u64 (q:Int)∧Hid (Nat.gcd p q=Nat.gcd a b∧p<aD∧q<aD)∧Below w.heap.size w wr) (fun _ y _=>(intOf y).toNat)
 case atStart=>exact ⟨a,b,rfl,rfl,⟨rfl,HA.out.1,HA.out.2⟩,Below.refl _ _⟩
 case round =>
  obtain ⟨p,q,rfl,rfl,hpq,hbe⟩:=hrel
  rcases Nat.eq_zero_or_pos q with rfl|hq
  ·have ht:(((0:Nat):Int) != 0)=false:=by simp
   simp only [Int.natCast_zero] at ht ⊢
   go_wp2
   go_ret
   refine ⟨bY ?_,hbe⟩
   rw [← hpq.out.1,Nat.gcd_zero_right]
  ·have ht:((q:Int) != 0)=true:=by simp;omega
   obtain ⟨r,hr⟩:∃ r:Nat,r=p%q:=⟨_,rfl⟩
   have hrq:r<q:=by rw [hr];exact Nat.mod_lt _ hq
   have e2:(p:Int).tmod q=r:=by rw [hr,Int.tmod_eq_emod_of_nonneg (by omega),Int.natCast_emod]
   have e4:(p:Int)%q=r:=by rw [hr,Int.natCast_emod]
   have hbd:(r:Int)≤18446744073709551615:=by have:=hpq.out;have:=aH;omega
   have hne:¬ ((q:Int)=0):=by omega
   have HH:Hid (Nat.gcd q r=Nat.gcd a b∧q<aD∧r<aD):=by
    have:=hpq.out
    refine ⟨?_,this.2.2,by omega⟩
    rw [← this.1,hr,Nat.gcd_comm p q,Nat.gcd_rec q p,Nat.gcd_comm]
   clear hr
   go_wp2
   go_quiet (fail)
   go_wp2
   go_roundw
   case rel=>exact ⟨q,r,rfl,rfl,HH,cA hbe _⟩
   case measure=>simp [intOf];omega
def eucV (oa ob na nb s:Nat):Value := .agg #[.int .u64 (oa:Int),.int .u64 (ob:Int),.int .u64 (na:Int),.int .u64 (nb:Int),.int .i64 (s:Int)]
set_option maxHeartbeats 1000000 in
theorem next_any (oa ob na nb s q oa2 ob2:Nat) (w:World) (h1:oa+q*na=oa2) (h2:ob+q*nb=ob2) (b1:oa2<aD) (b2:ob2<aD) (hs:s<4294967296) :
 Calls Tryz.prog 229 #[.agg #[.int .u64 (oa:Int),.int .u64 (ob:Int),.int .u64 (na:Int),.int .u64 (nb:Int),.int .i64 (s:Int)],.int .u64 (q:Int)] w fun e w' =>
  e = .returned (.agg #[.int .u64 (na:Int),.int .u64 (nb:Int),.int .u64 (oa2:Int),.int .u64 (ob2:Int),.int .i64 ((s:Int)+1)])∧Below w.heap.size w w':=by
 obtain ⟨p1,hp1⟩:∃ p1:Nat,(q:Int)*na=p1:=⟨q*na,by simp⟩
 obtain ⟨p2,hp2⟩:∃ p2:Nat,(q:Int)*nb=p2:=⟨q*nb,by simp⟩
 have k1:(oa:Int)+p1=oa2:=by rw [← hp1,← h1];simp
 have k2:(ob:Int)+p2=ob2:=by rw [← hp2,← h2];simp
 have c1:(oa2:Int)≤18446744073709551615:=by have:=aH;omega
 have c2:(ob2:Int)≤18446744073709551615:=by have:=aH;omega
 have c3:(p1:Int)≤18446744073709551615:=by omega
 have c4:(p2:Int)≤18446744073709551615:=by omega
 clear h1 h2 b1 b2
 go_enter Tryz.func229,Tryz.ntmps229
 go_wp2
 exact bodyPost_ret (v := .agg #[.int .u64 (na:Int),.int .u64 (nb:Int),.int .u64 (oa2:Int),.int .u64 (ob2:Int),.int .i64 ((s:Int)+1)]) (by simp [results,Tryz.results229,go_sem]) rfl ⟨rfl,((Below.refl _ _).alloc (Nat.le_refl _) _).alloc (by simp) _⟩
def LowInv (us zs:List Nat) (Y i bw:Nat):Prop :=
 Dig aD zs∧zs.length=us.length∧bw<aD∧val aD (zs.take i)+Y=val aD (us.take i)+aD^i*bw∧zs.drop i=us.drop i
theorem low_alg (A Y B P bw W r q u:Nat) (h:A+Y=B+P*bw) (h2:r+bw=u+W*q):A+P*r+Y=B+P*u+P*W*q:=by grind
theorem LowInv.step {us zs:List Nat} {Y i bw u:Nat} (h:LowInv us zs Y i bw) (hu:zs[i]?=some u) :
 LowInv us (zs.set i ((u+aD-bw-0)%aD)) Y (i+1) (if u<bw+0 then 1 else 0):=by
 obtain ⟨h1,h2,h3,h4,h5⟩:=h
 obtain ⟨hi,eu⟩:=List.getElem?_eq_some_iff.1 hu
 have ul:=h1.at_ hu
 have eus:us[i]'(by omega)=u:=by
  have e1:=List.drop_eq_getElem_cons hi
  have e2:=List.drop_eq_getElem_cons (l:=us) (i:=i) (by omega)
  rw [h5] at e1
  rw [e1] at e2
  injection e2 with e2
  rw [← e2,eu]
 have hr:(u+aD-bw-0)%aD<aD:=Nat.mod_lt _ bD
 have hdm:(u+aD-bw-0)%aD+bw=u+aD*(if u<bw+0 then 1 else 0):=by
  have:=aH
  rw [this] at ul h3 ⊢
  split <;> omega
 refine ⟨h1.set hr,by simp [h2],by split <;> (have:=eO;omega),?_,?_⟩
 ·rw [aF _ _ _ (by simp;omega),List.take_set_of_le (Nat.le_refl _),List.getElem_set_self,aF _ _ _ (by omega),eus,Nat.pow_succ]
  generalize (if u<bw+0 then 1 else 0)=q at *
  generalize (u+aD-bw-0)%aD=r at *
  exact low_alg _ _ _ _ _ _ _ _ _ h4 hdm
 ·rw [List.drop_set_of_lt (by omega)]
  have e1:=List.drop_eq_getElem_cons hi
  have e2:=List.drop_eq_getElem_cons (l:=us) (i:=i) (by omega)
  rw [h5,e2] at e1
  injection e1 with _ e1
  exact e1.symm
theorem LowInv.finish {us zs:List Nat} {Y bw:Nat} (h:LowInv us zs Y us.length bw) (hY:Y≤val aD us):val aD zs=val aD us-Y:=by
 obtain ⟨h1,h2,h3,h4,h5⟩:=h
 rw [List.take_of_length_le (by omega),List.take_of_length_le (Nat.le_refl _)] at h4
 have hz:=bV h1
 rw [h2] at hz
 rcases Nat.eq_zero_or_pos bw with e|e
 ·subst e
  rw [Nat.mul_zero] at h4
  omega
 ·have:aD^us.length*1≤aD^us.length*bw:=Nat.mul_le_mul_left _ e
  omega
theorem first_part {zs:List Nat} {n L cy X:Nat} (hl:zs.length=n) (hd:Dig aD zs) (hc:cy<aD) (hn:n<L) (hv:val aD zs+aD^n*cy=val aD (((List.replicate L 0).drop 0).take n)+X) :
 Dig aD ((put (List.replicate L 0) 0 zs).set n cy)∧((put (List.replicate L 0) 0 zs).set n cy).length=L∧val aD ((put (List.replicate L 0) 0 zs).set n cy)=X:=by
 subst hl
 have hlen:(put (List.replicate L 0) 0 zs).length=L:=by rw [dC (by simp;omega)];simp
 have e1:(put (List.replicate L 0) 0 zs).set (0+zs.length) cy=put (List.replicate L 0) 0 (zs ++ [cy]):=put_set rfl (by simp;omega)
 rw [Nat.zero_add] at e1
 refine ⟨(put_dig (Dig.replicate bD _) hd).set hc,by rw [List.length_set,hlen],?_⟩
 rw [e1]
 unfold put
 rw [List.take_zero,List.nil_append,gB,cR,List.drop_replicate,val_zeros,Nat.mul_zero,Nat.add_zero,hv]
 rw [List.drop_zero,List.take_replicate,val_zeros,Nat.zero_add]
theorem second_part {us zs:List Nat} {n' bor Y:Nat} (hl:zs.length=n') (hd:Dig aD zs) (hu:Dig aD us) (hc:bor<aD) (hn:n'≤us.length) (hv:val aD zs+Y=val aD ((us.drop 0).take n')+aD^n'*bor) :
 LowInv us (put us 0 zs) Y n' bor:=by
 subst hl
 have hlen:(put us 0 zs).length=us.length:=dC (by omega)
 refine ⟨put_dig hu hd,hlen,hc,?_,?_⟩
 ·have e:(put us 0 zs).take zs.length=zs:=by
   unfold put
   rw [List.take_zero,List.nil_append,List.take_append_of_le_length (Nat.le_refl _),List.take_of_length_le (Nat.le_refl _)]
  rw [e,hv,List.drop_zero]
 ·unfold put
  rw [List.take_zero,List.nil_append,List.drop_append_of_le_length (Nat.le_refl _),List.drop_of_length_le (Nat.le_refl _),List.nil_append,Nat.zero_add]
set_option maxHeartbeats 2000000 in
theorem difference_any (x:Nat) (A:Option Addr) (n c:Nat) (xs:List Nat) (y:Nat) (A' : Option Addr) (n' c' : Nat) (ys:List Nat) (w:World) (h:Rd w A n c xs) (h' : Rd w A' n' c' ys)
 (hd:Dig aD xs) (hd' : Dig aD ys) (hx:x<aD) (hy:y<aD) (hn:n≤2199023255551) (hn' : n'≤2199023255551) (hge:y*val aD ys≤x*val aD xs) :
 Calls Tryz.prog 230 #[.int .u64 (x:Int),.slice A n c,.int .u64 (y:Int),.slice A' n' c'] w (GivesNt w (x*val aD xs-y*val aD ys)):=by
 have HX:=Lib.hid (And.intro h (And.intro hd hx))
 have HY:=Lib.hid (And.intro h' (And.intro hd' (And.intro hy hge)))
 have hnc:n≤c:=h.cap
 have hcm:c≤9223372036854775807:=h.2.2.1
 have hnc' : n'≤c':=h'.cap
 have hcm' : c'≤9223372036854775807:=h'.2.2.1
 obtain ⟨i0,hi,hz0,hz1,hz2⟩:=info_parts eY
 have HI:=Lib.hid (And.intro hi (And.intro hz0 (And.intro hz1 hz2)))
 clear h h' hd hd' hi hz0 hz1 hz2 hx hy hge
 obtain ⟨M,hM,hM1,hM2,hM3⟩:∃ M:Nat,max (n:Int) n'=M∧n≤M∧n'≤M∧M≤2199023255551:=⟨max n n',by omega,by omega,by omega,by omega⟩
 go_enter Tryz.func230,Tryz.ntmps230
 go_wp2_with (at_make;refine wpList_make_full _ rfl _ _ 102 rfl w.heap.size 151 i0 (.int .u64 0) 1 Tryz.underlying102 HI.out.1 HI.out.2.1 HI.out.2.2.1 _ _ _ _ (M+1) rfl rfl ?b0 ?b1 ?b2 ?b3 (Nat.le_refl _) ?_)
 case b0=>omega
 case b1=>omega
 case b2=>rw [HI.out.2.2.2];omega
 case b3=>show M+1≤9223372036854775807;omega
 intro w1 hown hg1
 have hb1:Below w.heap.size w w1:=(Below.refl _ _).grown hg1 (Nat.le_refl _) (fun _ h=>by cases h)
 have hblk:=dV hown
 obtain ⟨g,hg⟩:∃ g,g=w.heap.size:=⟨_,rfl⟩
 rw [← hg] at hblk ⊢
 have HG:=Lib.hid hg
 have ca:=addMultiple_any g 0 n (M+1) 151 (List.replicate (M+1) 0) A n c xs x w1 hblk (Dig.replicate bD _) (by simp;omega) (Nat.le_refl _) (by omega) (by omega) (HX.out.1.below hb1) HX.out.2.1 (HX.out.1.away (by omega)) HX.out.2.2
 have CA:=Lib.hid ca
 have HM:=Lib.hid hM
 obtain ⟨L,hL⟩:∃ L,L=M+1:=⟨_,rfl⟩
 have hLi:(M:Int)+1=L:=by omega
 rw [← hL] at CA ⊢
 have hL1:n<L:=by omega
 have hL2:n'<L:=by omega
 have hL3:L≤2199023255552:=by omega
 clear hown hg1 hblk ca hg hM hM1 hM2 hM3 hL
 go_wp2_with fail
 refine CA.out.mono ?_
 rintro e w2 ⟨zs,cy,rfl,q1,q2,q3,q4,q5,q6⟩
 obtain ⟨f1,f2,f3⟩:=first_part q1 q2 q3 hL1 q4
 have hb2:Below w.heap.size w w2:=hb1.grown q6 hb1.size (fun _ h=>by injection h with h;rw [← h,HG.out];exact Nat.le_refl _)
 obtain ⟨z,hcz⟩:∃ z:Int,w2.cell? ⟨g,n,none⟩=some (.int .u64 z):=⟨_,q5.cell_get (by rw [dC (by simp;omega)];simp;omega)⟩
 have hfz:=q5.frozen n
 obtain ⟨us,hus⟩:∃ us,us=(put (List.replicate L 0) 0 zs).set n cy:=⟨_,rfl⟩
 rw [← hus] at f1 f2 f3
 have hblk3:Blk (w2.setCell ⟨g,n,none⟩ (.int .u64 (cy:Int))) g 151 us:=by rw [hus];exact q5.set_ _ _
 have hb3:Below w.heap.size w (w2.setCell ⟨g,n,none⟩ (.int .u64 (cy:Int))):=hb2.setCell (by rw [HG.out];exact Nat.le_refl _) _
 have hw3:=Lib.hid (And.intro hblk3 (And.intro hb3 (And.intro f1 (And.intro f2 f3))))
 clear hblk3 hb3 f1 f2 f3 hus q1 q2 q3 q4 q5 q6 hb2 hb1 CA
 go_wp2_with fail
 generalize w2.setCell ⟨g,n,none⟩ (.int .u64 (cy:Int))=w3 at *
 obtain ⟨hblk3,hb3,f1,f2,f3⟩:=hw3.out
 refine (takeMultiple_any g 0 n' L 151 us A' n' c' ys y w3 hblk3 f1 (by omega) (Nat.le_refl _) (by omega) (by omega) (HY.out.1.below hb3) HY.out.2.1 (HY.out.1.away (by rw [HG.out];exact Nat.le_refl _)) HY.out.2.2.1).mono ?_
 rintro e w4 ⟨zs2,bor,rfl,q1,q2,q3,q4,q5,q6⟩
 have hb4:Below w.heap.size w w4:=hb3.grown q6 hb3.size (fun _ h=>by injection h with h;rw [← h,HG.out];exact Nat.le_refl _)
 have hlow:=second_part q1 q2 f1 q3 (by omega) q4
 have H4:=Lib.hid (And.intro hlow (And.intro q5 (And.intro hb4 (And.intro f2 f3))))
 clear hblk3 hb3 f1 f2 f3 q1 q2 q3 q4 q5 q6 hb4 hlow hw3 hcz hfz
 go_wp2
 go_loopw [10,11] (fun b i wr => ∃ (k bw:Nat) (qs:List Nat),n'≤k∧k≤L∧i = .int .i64 (k:Int)∧b = .int .u64 (bw:Int)∧LowInv us qs (y*val aD ys) k bw∧Blk wr g 151 qs∧Below w.heap.size w wr) (fun _ i _=>L-(intOf i).toNat)
 case atStart=>exact ⟨n',bor,_,Nat.le_refl _,by omega,rfl,rfl,H4.out.1,H4.out.2.1,H4.out.2.2.1⟩
 case round =>
  obtain ⟨k,bw,qs,hk1,hk2,rfl,rfl,hinv,hblk,hb⟩:=hrel
  have hql:qs.length=L:=by rw [hinv.2.1];exact H4.out.2.2.2.1
  by_cases hlt:k<L
  ·obtain ⟨u,hu⟩:∃ u,qs[k]?=some u:=⟨_,List.getElem?_eq_getElem (by omega)⟩
   have hcz:=hblk.cell hu
   have hfz:=hblk.frozen k
   have hst:=hinv.step hu
   obtain ⟨q,hq⟩:∃ q:Nat,q=if u<bw+0 then 1 else 0:=⟨_,rfl⟩
   obtain ⟨r,hr⟩:∃ r:Nat,r=(u+aD-bw-0)%aD:=⟨_,rfl⟩
   have hsub:∀ w,(callFunc 258 #[.int .u64 (u:Int),.int .u64 (bw:Int),.int .u64 0]).run Tryz.prog w = .ok (.value (.tuple #[.int .u64 (r:Int),.int .u64 (q:Int)])) w:=by
    intro w
    have:=run_sub64' u bw 0 (by omega) w
    rw [← hq,← hr] at this
    exact this
   rw [← hq,← hr] at hst
   have HE:=Lib.hid (And.intro hst hblk)
   clear hst hblk hinv hu hql hq hr
   go_wp2
   go_roundw
   case rel=>exact ⟨k+1,q,qs.set k r,by omega,by omega,by go_num,rfl,HE.out.1,HE.out.2.set_ _ _,hb.setCell (by rw [HG.out];exact Nat.le_refl _) _⟩
   case measure=>simp [intOf];omega
  ·obtain rfl:k=L:=by omega
   have hrd:=hblk.rd (by rw [hql];show k≤9223372036854775807;omega)
   rw [hql] at hrd
   have hfin:val aD qs=x*val aD xs-y*val aD ys:=by
    have h2:=H4.out.2.2.2
    have hi2:=hinv
    rw [← h2.1] at hi2
    rw [hi2.finish (by rw [h2.2];exact HY.out.2.2.2),h2.2]
   have HF:=Lib.hid (And.intro hinv.1 (And.intro hfin hrd))
   clear hrd hfin hinv hblk hql hlt
   go_wp2_with (go_at_call 158;refine (eJ _ _ _ qs _ HF.out.2.2 HF.out.1).mono ?_;rintro e w' ⟨⟨v,rfl,hv⟩,rfl⟩)
   go_ret
   exact ⟨v,rfl,by rw [← HF.out.2.1];exact hv,hb⟩
theorem lead_alg (Z P T S W a1 a2 q r:Nat) (hW:W=T*S) (h:T*q+r=a2):Z+P*a2+P*W*a1=(a1*S+q)*(T*P)+(r*P+Z):=by subst hW;subst h;grind
theorem lead_bits {xs:List Nat} {n s a1 a2:Nat} (hd:Dig aD xs) (hl:xs.length≤n) (hn:2≤n) (hs:s≤63) (h1:xs.getD (n-1) 0=a1) (h2:xs.getD (n-2) 0=a2) (hb:a1*2^s<aD) :
 a2/2^(64-s)<2^s∧a1*2^s+a2/2^(64-s)<aD∧∃ α,val aD xs=(a1*2^s+a2/2^(64-s))*(2^(64-s)*aD^(n-2))+α∧α<2^(64-s)*aD^(n-2):=by
 have l2:a2<aD:=by rw [← h2];exact hd.get0 bD _
 have hlt:=hi_lt (s:=s) (by omega) l2
 have hW:=W64_pow (s:=s) (by omega)
 have hpT:0<2^(64-s):=Nat.pow_pos (by omega)
 have htop:a1*2^s+a2/2^(64-s)<aD:=by
  have c1:a1*2^s<2^(64-s)*2^s:=by rw [← hW];exact hb
  have c2:=Nat.lt_of_mul_lt_mul_right c1
  have c3:(a1+1)*2^s≤2^(64-s)*2^s:=Nat.mul_le_mul_right _ c2
  rw [← hW,Nat.add_mul,Nat.one_mul] at c3
  omega
 refine ⟨hlt,htop,?_⟩
 obtain ⟨m,rfl⟩:∃ m,n=m+2:=⟨n-2,by omega⟩
 rw [show m+2-1=m+1 from by omega] at h1
 rw [show m+2-2=m from by omega] at h2 ⊢
 have hval:val aD xs=val aD (xs.take m)+aD^m*a2+aD^(m+1)*a1:=by
  have e:∀ k,val aD (xs.take (k+1))=val aD (xs.take k)+aD^k*xs.getD k 0:=by
   intro k
   rcases Nat.lt_or_ge k xs.length with h|h
   ·rw [aF _ _ _ h,List.getD,List.getElem?_eq_getElem h];rfl
   ·rw [List.take_of_length_le (by omega),List.take_of_length_le h,List.getD,List.getElem?_eq_none h]
    show _=_+aD^k*0
    rw [Nat.mul_zero,Nat.add_zero]
  have:val aD xs=val aD (xs.take (m+1+1)):=by rw [List.take_of_length_le (by omega)]
  rw [this,e,e,h1,h2]
 have hlow:val aD (xs.take m)<aD^m:=by
  have:=bV (hd.take m)
  have h3:aD^(xs.take m).length≤aD^m:=Nat.pow_le_pow_right bD (by rw [List.length_take];omega)
  omega
 have hdm:=Nat.div_add_mod a2 (2^(64-s))
 have hmt:a2%2^(64-s)<2^(64-s):=Nat.mod_lt _ hpT
 refine ⟨a2%2^(64-s)*aD^m+val aD (xs.take m),?_,?_⟩
 ·rw [hval,Nat.pow_succ]
  generalize val aD (xs.take m)=Z at *
  generalize a2/2^(64-s)=q at *
  generalize a2%2^(64-s)=r at *
  generalize aD^m=P at *
  exact lead_alg _ _ _ _ _ _ _ _ _ hW hdm
 ·have:(a2%2^(64-s)+1)*aD^m≤2^(64-s)*aD^m:=Nat.mul_le_mul_right _ hmt
  rw [Nat.add_mul,Nat.one_mul] at this
  omega
def SimOk (a b oa ob na nb s:Nat):Prop :=
 s < 4294967296∧(0<s→oa<aD∧ob<aD∧na<aD∧nb<aD∧∃ a' b',a=nb*a'+ob*b'∧b=na*a'+oa*b'∧b'<a'∧b'<b ∧
   (s%2=0→oa*a=a'+ob*b∧nb*b=b'+na*a)∧(s%2=1→ob*b=a'+oa*a∧na*a=b'+nb*b))
theorem SimOk.zero (a b oa ob na nb:Nat):SimOk a b oa ob na nb 0:=⟨by omega,fun h=>absurd h (by omega)⟩
def Taken (x y ob nb s:Nat):Prop:=0<s→nb≤y∧ob+nb≤x-y
theorem SimOk.of_steps {x0 y0 x y oa ob na nb s K α β a b:Nat} (h:Pl.Steps x0 y0 x y oa ob na nb s) (ht:Taken x y ob nb s) (hx0:x0<aD) (hy0:y0≤x0)
 (ha:a=x0*K+α) (hb:b=y0*K+β) (hα:α<K) (hβ:β<K):SimOk a b oa ob na nb s:=by
 rcases Nat.eq_zero_or_pos s with rfl|hs
 ·exact SimOk.zero _ _ _ _ _ _
 ·obtain ⟨c1,c2⟩:=ht hs
  have hyp:0<y:=Nat.lt_of_lt_of_le h.nb1 c1
  have hxp:0<x:=Nat.lt_of_lt_of_le hyp h.lt
  have hnb:=h.nb_le hxp
  have hna:=h.na_le hxp
  have hsum:=h.sum_le hyp
  obtain ⟨o1,o2,o3,o4⟩:=h.ord hs
  have hsb:s<4294967296:=by
   rcases Nat.lt_or_ge s 4294967296 with e|e
   ·exact e
   ·exfalso
    have hsn:=h.sb
    have b1:4294967296≤nb:=Nat.le_trans e hsn
    have b2:4294967296≤x:=Nat.le_trans b1 (Nat.le_trans c1 h.lt)
    have b3:4294967296*4294967296≤nb*x:=Nat.mul_le_mul b1 b2
    have:=h.i1
    have:=aH
    omega
  refine ⟨hsb,fun _=>⟨by omega,by omega,by omega,by omega,?_⟩⟩
  obtain ⟨a',b',e1,e2,e3,e4,e5⟩:=h.lift hs c1 c2 ha hb hα hβ
  refine ⟨a',b',e1,e2,e3,?_,e4,e5⟩
  have:1*a'≤na*a':=Nat.mul_le_mul_right _ o3
  rw [Nat.one_mul] at this
  omega
def fD:Obj := .cells #[.int .u64 0,.int .u64 0,.int .u64 0,.int .u64 0,.int .i64 0] 229
def eucO (oa ob na nb s:Nat):Obj := .cells #[.int .u64 (oa:Int),.int .u64 (ob:Int),.int .u64 (na:Int),.int .u64 (nb:Int),.int .i64 (s:Int)] 229
theorem bL {W:World} {g oa ob na nb s:Nat} (h:W.heap[g]?=some (eucO oa ob na nb s)) :
 W.cell? ⟨g,0,none⟩=some (.int .u64 (oa:Int))∧W.cell? ⟨g,1,none⟩=some (.int .u64 (ob:Int))∧W.cell? ⟨g,2,none⟩=some (.int .u64 (na:Int))∧W.cell? ⟨g,3,none⟩=some (.int .u64 (nb:Int))∧W.cell? ⟨g,4,none⟩=some (.int .i64 (s:Int)) ∧
  W.frozen? ⟨g,0,none⟩=false∧W.frozen? ⟨g,1,none⟩=false∧W.frozen? ⟨g,2,none⟩=false∧W.frozen? ⟨g,3,none⟩=false∧W.frozen? ⟨g,4,none⟩=false:=by
 unfold eucO at h
 simp [World.cell?,World.frozen?,h]
theorem dM:fD=eucO 0 0 0 0 0:=rfl
theorem fP {W:World} {g oa ob na nb s oa' ob' na' nb' s' : Nat} (h:W.heap[g]?=some (eucO oa ob na nb s)) :
 (((((W.setCell ⟨g,0,none⟩ (.int .u64 (oa' : Int))).setCell ⟨g,1,none⟩ (.int .u64 (ob' : Int))).setCell ⟨g,2,none⟩ (.int .u64 (na' : Int))).setCell ⟨g,3,none⟩ (.int .u64 (nb' : Int))).setCell ⟨g,4,none⟩ (.int .i64 (s' : Int))).heap[g]?=some (eucO oa' ob' na' nb' s'):=by
 unfold eucO at h ⊢
 simp [World.setCell,Array.getElem?_modify,h]
theorem fU {W:World} {g k:Nat} (hk:k≠g) (a b c d e:Value) :
 (((((W.setCell ⟨g,0,none⟩ a).setCell ⟨g,1,none⟩ b).setCell ⟨g,2,none⟩ c).setCell ⟨g,3,none⟩ d).setCell ⟨g,4,none⟩ e).heap[k]?=W.heap[k]?:=by
 rw [Below.heap_setCell _ _ _ _ hk,Below.heap_setCell _ _ _ _ hk,Below.heap_setCell _ _ _ _ hk,Below.heap_setCell _ _ _ _ hk,Below.heap_setCell _ _ _ _ hk]
theorem bO {W0 W:World} {B g:Nat} (h:Below B W0 W) (hg:B≤g) (a b c d e:Value) :
 Below B W0 (((((W.setCell ⟨g,0,none⟩ a).setCell ⟨g,1,none⟩ b).setCell ⟨g,2,none⟩ c).setCell ⟨g,3,none⟩ d).setCell ⟨g,4,none⟩ e) :=
 ((((h.setCell hg _).setCell hg _).setCell hg _).setCell hg _).setCell hg _
theorem dW {W:World} {g oa ob na nb s:Nat} (fr:Array Value) (h:W.heap[g]?=some (eucO oa ob na nb s)) (hf:fr.getD 4 undef = .pointer (some ⟨g,0,none⟩)) :
 (results Tryz.f191 fr).run Tryz.prog W = .ok (eucV oa ob na nb s) W:=by
 obtain ⟨c0,c1,c2,c3,c4,z0,z1,z2,z3,z4⟩:=bL h
 rw [Array.getD_eq_getD_getElem?] at hf
 simp [results,Tryz.results191,hf,go_sem,c0,c1,c2,c3,c4,eucV]
theorem kept_alloc_drew {W W5:World} (h:Below (W.alloc fD).drew.heap.size (W.alloc fD).drew W5):W5.heap[W.heap.size]?=some (eucO 0 0 0 0 0):=(h.block W.heap.size (by simp [World.drew])).trans (heap_alloc_new W _)
def Behind (W0 W:World) (gr gs gn oa ob na nb s na2 nb2 oa2 ob2 s2:Nat):Prop :=
 W.heap[gn]?=some (eucO oa2 ob2 na2 nb2 s2)∧W.heap[gs]?=some (eucO oa ob na nb s)∧W.heap[gr]?=some fD∧Below gr W0 W∧gn≠gs∧gn≠gr
theorem Behind.fresh {W0 wr X w5:World} {gr gs oa ob na nb s oa2 ob2:Nat} (hX:Below wr.heap.size wr X) (hb5:Below X.heap.size X w5) (hs:wr.heap[gs]?=some (eucO oa ob na nb s)) (hr:wr.heap[gr]?=some fD) (hb:Below gr W0 wr) :
 Behind W0 (w5.alloc (.cells #[.int .u64 (na:Int),.int .u64 (nb:Int),.int .u64 (oa2:Int),.int .u64 (ob2:Int),.int .i64 ((s:Int)+1)] 229)) gr gs w5.heap.size oa ob na nb s oa2 ob2 na nb (s+1):=by
 have h1:gs<wr.heap.size:=(Array.getElem?_eq_some_iff.1 hs).1
 have h2:gr<wr.heap.size:=(Array.getElem?_eq_some_iff.1 hr).1
 have h3:=hX.size
 have h4:=hb5.size
 refine ⟨?_,?_,?_,?_,by omega,by omega⟩
 ·have:=heap_alloc_new w5 (.cells #[.int .u64 (na:Int),.int .u64 (nb:Int),.int .u64 (oa2:Int),.int .u64 (ob2:Int),.int .i64 ((s:Int)+1)] 229)
  unfold eucO
  rw [Int.natCast_add,Int.natCast_one]
  exact this
 ·rw [Below.heap_alloc _ _ _ (by omega),hb5.block _ (by omega),hX.block _ h1];exact hs
 ·rw [Below.heap_alloc _ _ _ (by omega),hb5.block _ (by omega),hX.block _ h2];exact hr
 ·exact (hb.trans ((hX.mono (by omega)).trans (hb5.mono (by omega)))).alloc (by omega) _
theorem Behind.laid {W0 wr X w5:World} {gr gs oa ob na nb s oa2 ob2:Nat} (hX:Below wr.heap.size wr X) (hb5:Below X.heap.size X w5) (hk:w5.heap[wr.heap.size]?=some (eucO 0 0 0 0 0)) (hs:wr.heap[gs]?=some (eucO oa ob na nb s)) (hr:wr.heap[gr]?=some fD) (hb:Below gr W0 wr) :
 Behind W0 (((((w5.setCell ⟨wr.heap.size,0,none⟩ (.int .u64 (na:Int))).setCell ⟨wr.heap.size,1,none⟩ (.int .u64 (nb:Int))).setCell ⟨wr.heap.size,2,none⟩ (.int .u64 (oa2:Int))).setCell ⟨wr.heap.size,3,none⟩ (.int .u64 (ob2:Int))).setCell ⟨wr.heap.size,4,none⟩ (.int .i64 ((s:Int)+1)))
  gr gs wr.heap.size oa ob na nb s oa2 ob2 na nb (s+1):=by
 have h1:gs<wr.heap.size:=(Array.getElem?_eq_some_iff.1 hs).1
 have h2:gr<wr.heap.size:=(Array.getElem?_eq_some_iff.1 hr).1
 have h3:=hX.size
 have h4:=hb5.size
 refine ⟨?_,?_,?_,?_,by omega,by omega⟩
 ·have:=fP (oa':=na) (ob':=nb) (na':=oa2) (nb':=ob2) (s':=s+1) hk
  rw [Int.natCast_add,Int.natCast_one] at this
  exact this
 ·rw [fU (by omega),hb5.block _ (by omega),hX.block _ h1];exact hs
 ·rw [fU (by omega),hb5.block _ (by omega),hX.block _ h2];exact hr
 ·exact bO (hb.trans ((hX.mono (by omega)).trans (hb5.mono (by omega)))) (by omega) _ _ _ _ _
def SimRes (x0 y0:Nat) (e:Ending):Prop := ∃ oa ob na nb s x y:Nat,e = .returned (eucV oa ob na nb s)∧Pl.Steps x0 y0 x y oa ob na nb s∧Taken x y ob nb s
def SimB (x0 x y s:Nat):Prop:=x0<aD∧x≤x0∧y≤x∧s<4294967296
set_option maxHeartbeats 4000000 in
set_option maxRecDepth 100000 in
theorem simulate_eq (A:Option Addr) (n c:Nat) (xs:List Nat) (A' : Option Addr) (n' c' : Nat) (ys:List Nat) (sh x0 y0:Nat) (w:World) (h:Rd w A n c xs) (h' : Rd w A' n' c' ys)
 (hd:Dig aD xs) (hd' : Dig aD ys) (hn:2≤n) (hn' : 2≤n') (hle:n'≤n) (hnn:n'=n) (a1 a2 b1 b2 ah bh:Nat) (hs:sh≤63) (hbl:Hid ((64:Int)-Lib.bitLen a1=sh))
 (g1:xs[n-1]?=some a1) (g2:xs[n-2]?=some a2) (k1:n'=n→ys[n-1]?=some b1) (k2:n-1≤n'→ys[n-2]?=some b2)
 (e1:IntKind.u64.wrap ((a1:Int)*2^sh)=(ah:Int)) (e2:bits .or .u64 (ah:Int) ((a2:Int)/2^(64-sh))=(x0:Int))
 (e3:IntKind.u64.wrap ((b1:Int)*2^sh)=(bh:Int)) (e4:n'=n→bits .or .u64 (bh:Int) ((b2:Int)/2^(64-sh))=(y0:Int)) (e5:n'=n-1→(b2:Int)/2^(64-sh)=(y0:Int)) (e6:n'<n-1→y0=0)
 (hx0:x0<aD) (hy0:y0≤x0) :
 Calls Tryz.prog 191 #[.slice A n c,.slice A' n' c'] w fun e w' =>
  SimRes x0 y0 e∧Below w.heap.size w w':=by
 have hnc:n≤c:=h.cap
 have hcm:c≤9223372036854775807:=h.2.2.1
 have hnc' : n'≤c':=h'.cap
 have hcm' : c'≤9223372036854775807:=h'.2.2.1
 obtain ⟨ad,a1',hA,hal,ha1,hc1⟩:=h.at_ (k:=n-1) (by omega)
 obtain ⟨ad2,a2',hA2,_,ha2,hc2⟩:=h.at_ (k:=n-2) (by omega)
 obtain ⟨ad',hA',hal',hcb⟩:=h'.2.2.2 (by omega)
 subst hA
 injection hA2 with hA2
 subst hA2
 rw [g1] at ha1
 injection ha1 with ha1
 subst ha1
 rw [g2] at ha2
 injection ha2 with ha2
 subst ha2
 subst hA'
 have hab:a1≤18446744073709551615:=by have:=hd.at_ g1;have:=aH;omega
 have cl:=Lib.hid (fun w=>Tryz.bits_LeadingZeros64 (a1:Int) w (by omega) (by omega))
 have HX:=Lib.hid (And.intro hd hd')
 have HC:=Lib.hid hcb
 have hx0' : (x0:Int)≤18446744073709551615:=by have:=aH;omega
 have hq1:(ad.add (n-1)).block<w.heap.size:=by rw [bN];exact hal
 have hq2:(ad.add (n-2)).block<w.heap.size:=by rw [bN];exact hal
 have hq3:(ad'.add (n-1)).block<w.heap.size:=by rw [bN];exact hal'
 have hq4:(ad'.add (n-2)).block<w.heap.size:=by rw [bN];exact hal'
 clear h h' hd hd' hcb g1 g2 hab
 subst hnn
 have e4':=e4 rfl
 have hc3:=HC.out (n'-1) b1 (k1 rfl)
 have hc4:=HC.out (n'-2) b2 (k2 (by omega))
 have hb:y0≤x0:=hy0
 have HK:=Lib.hid (And.intro e6 (And.intro hx0 hy0))
 clear e4 e5 e6 k1 k2 hx0 hb hy0
 go_enter Tryz.func191,Tryz.ntmps191
 go_wp2_with (go_at_call 228;refine (cl.out _).mono ?_;rintro e w' ⟨rfl,hw⟩;rw [hw];rw [Int.toNat_natCast,hbl.out])
 go_quiet (fail)
 have hbW:Below w.heap.size w ((w.alloc fD).drewN nq):=cA ((Below.refl _ _).alloc (Nat.le_refl _) _) _
 have hrW:((w.alloc fD).drewN nq).heap[w.heap.size]?=some fD:=heap_alloc_new w _
 unfold fD at hbW hrW
 have hc3':=(hbW.cell (p:=ad'.add (n'-1)) hq3).trans hc3
 have hc4':=(hbW.cell (p:=ad'.add (n'-2)) hq4).trans hc4
 have HW:=Lib.hid (And.intro hbW hrW)
 clear hbW hrW hc1 hc2 hc3 hc4 hq1 hq2 hq3 hq4
 generalize (w.alloc (.cells #[.int .u64 0,.int .u64 0,.int .u64 0,.int .u64 0,.int .i64 0] 229)).drewN nq=W2 at *
 go_wp2
 go_quiet (fail)
 have HW2:=Lib.hid (show Below w.heap.size w (W2.drewN nq)∧(W2.drewN nq).heap[w.heap.size]?=_ from ⟨cA HW.out.1 _,HW.out.2⟩)
 clear HW hc3' hc4'
 generalize W2.drewN nq=W3 at *
 go_wp2
 obtain ⟨gr,hgr⟩:∃ gr,gr=w.heap.size:=⟨_,rfl⟩
 obtain ⟨gs,hgs⟩:∃ gs,gs=W3.heap.size:=⟨_,rfl⟩
 have hlt:gr<gs:=by rw [hgr,hgs];exact (Array.getElem?_eq_some_iff.1 HW2.out.2).1
 have hW4b:Below gr w (W3.alloc (.cells #[.int .u64 1,.int .u64 0,.int .u64 0,.int .u64 1,.int .i64 0] 229)):=by rw [hgr];exact HW2.out.1.alloc HW2.out.1.size _
 have hW4s:(W3.alloc (.cells #[.int .u64 1,.int .u64 0,.int .u64 0,.int .u64 1,.int .i64 0] 229)).heap[gs]?=some (.cells #[.int .u64 1,.int .u64 0,.int .u64 0,.int .u64 1,.int .i64 0] 229):=by rw [hgs];exact heap_alloc_new _ _
 have hW4r:(W3.alloc (.cells #[.int .u64 1,.int .u64 0,.int .u64 0,.int .u64 1,.int .i64 0] 229)).heap[gr]?=some fD:=by rw [hgr];exact (Below.heap_alloc W3 _ _ (by rw [← hgr,← hgs];exact hlt)).trans HW2.out.2
 have HW4:=Lib.hid (And.intro hW4b (And.intro hW4s hW4r))
 rw [← hgr,← hgs]
 clear hW4b hW4s hW4r HW2 hgs
 have HGR:=Lib.hid hgr
 clear hgr
 generalize W3.alloc (.cells #[.int .u64 1,.int .u64 0,.int .u64 0,.int .u64 1,.int .i64 0] 229)=W4 at *
 go_loopw [7,8] (fun p q wr => ∃ x y oa ob na nb s:Nat,p = .int .u64 (x:Int)∧q = .int .u64 (y:Int)∧Hid (Pl.Steps x0 y0 x y oa ob na nb s∧Taken x y ob nb s)∧SimB x0 x y s∧wr.heap[gs]?=some (eucO oa ob na nb s)∧wr.heap[gr]?=some fD∧Below gr w wr) (fun _ q _=>(intOf q).toNat)
 case atStart=>exact ⟨x0,y0,1,0,0,1,0,rfl,rfl,⟨Pl.Steps.start _ _ HK.out.2.2,fun h=>absurd h (by omega)⟩,⟨HK.out.2.1,Nat.le_refl _,HK.out.2.2,by omega⟩,HW4.out.2.1,HW4.out.2.2,HW4.out.1⟩
 case round =>
  obtain ⟨x,y,oa,ob,na,nb,s,rfl,rfl,hst,hsb,hbs,hbr,hbe⟩:=hrel
  obtain ⟨m1,m2,m3,m4⟩:=hsb
  obtain ⟨c0,c1,c2,c3,c4,z0,z1,z2,z3,z4⟩:=bL hbs
  obtain ⟨d0,d1,d2,d3,d4,w0,w1,w2,w3,w4⟩:=bL (dM▸hbr)
  have hne:¬ gs=gr:=by omega
  have hne' : ¬ gr=gs:=by omega
  have hgsl:gs<wr.heap.size:=(Array.getElem?_eq_some_iff.1 hbs).1
  have hgrl:gr<wr.heap.size:=(Array.getElem?_eq_some_iff.1 hbr).1
  have HB:=Lib.hid (And.intro hbs (And.intro hbr hbe))
  clear hbs hbr hbe
  rcases Nat.eq_zero_or_pos y with rfl|hy
  ·simp only [Int.natCast_zero]
   go_wp2
   exact bodyPost_ret (v:=eucV oa ob na nb s) (dW _ (fP (dM▸HB.out.2.1)) rfl) rfl ⟨⟨oa,ob,na,nb,s,x,0,rfl,hst.out.1,hst.out.2⟩,by rw [← HGR.out];exact bO HB.out.2.2 (Nat.le_refl _) _ _ _ _ _⟩
  ·have hs1:=hst.out.1.next hy
   obtain ⟨q,hq⟩:∃ q:Nat,q=x/y:=⟨_,rfl⟩
   obtain ⟨r,hr⟩:∃ r:Nat,r=x%y:=⟨_,rfl⟩
   rw [← hq,← hr] at hs1
   have f1:(x:Int).tdiv y=q:=by rw [hq,Int.tdiv_eq_ediv_of_nonneg (by omega),Int.natCast_ediv]
   have f2:(x:Int)/y=q:=by rw [hq,Int.natCast_ediv]
   have f3:(x:Int).tmod y=r:=by rw [hr,Int.tmod_eq_emod_of_nonneg (by omega),Int.natCast_emod]
   have f4:(x:Int)%y=r:=by rw [hr,Int.natCast_emod]
   have hry:r<y:=by rw [hr];exact Nat.mod_lt _ hy
   have hqx:q≤x:=by rw [hq];exact Nat.div_le_self _ _
   obtain ⟨oa2,hoa2⟩:∃ k:Nat,oa+q*na=k:=⟨_,rfl⟩
   obtain ⟨ob2,hob2⟩:∃ k:Nat,ob+q*nb=k:=⟨_,rfl⟩
   rw [hoa2,hob2] at hs1
   have l1:=hs1.na_le hy
   have l2:=hs1.nb_le hy
   have hy0x:=HK.out.2.2
   have cn:=Lib.hid (fun w=>next_any oa ob na nb s q oa2 ob2 w hoa2 hob2 (by omega) (by omega) m4)
   have HS1:=Lib.hid (And.intro hs1 (And.intro l1 l2))
   have hxi:(x:Int)≤18446744073709551615:=by omega
   have hyn:¬ ((y:Int)=0):=by omega
   have hy' : (0:Int)<y:=by omega
   have hqi:(q:Int)≤18446744073709551615:=by omega
   have hri:(r:Int)≤18446744073709551615:=by omega
   have HM:=Lib.hid (And.intro m1 (And.intro m2 (And.intro m3 m4)))
   clear hs1 l1 l2 hq hr hoa2 hob2 hy m1 m2 m3 m4 hy0x d0 d1 d2 d3 d4 w0 w1 w2 w3 w4 z0 z1 z2 z3 z4 hqx
   go_wp2
   go_region_with ((go_at_call 229;refine (cn.out _).mono ?_;rintro e w5 ⟨rfl,hb5⟩;first|(have hk0:=kept_alloc_drew hb5;obtain ⟨v0,v1,v2,v3,v4,x0',x1',x2',x3',x4'⟩:=bL hk0)|(have hk0:=kept_alloc hb5;obtain ⟨v0,v1,v2,v3,v4,x0',x1',x2',x3',x4'⟩:=bL hk0)|skip))
   all_goals first
    | (have hW:=Behind.fresh (W0:=w) (gr:=gr) (gs:=gs) (na:=na) (nb:=nb) (oa2:=oa2) (ob2:=ob2) (Below.refl _ _) hb5 HB.out.1 HB.out.2.1 HB.out.2.2
       have HW6:=Lib.hid hW
       generalize w5.alloc (.cells #[.int .u64 (na:Int),.int .u64 (nb:Int),.int .u64 (oa2:Int),.int .u64 (ob2:Int),.int .i64 ((s:Int)+1)] 229)=W6 at HW6 ⊢
       generalize w5.heap.size=gn at HW6 ⊢)
    | (have hW:=Behind.fresh (W0:=w) (gr:=gr) (gs:=gs) (na:=na) (nb:=nb) (oa2:=oa2) (ob2:=ob2) (Below.refl _ _).drew hb5 HB.out.1 HB.out.2.1 HB.out.2.2
       have HW6:=Lib.hid hW
       generalize w5.alloc (.cells #[.int .u64 (na:Int),.int .u64 (nb:Int),.int .u64 (oa2:Int),.int .u64 (ob2:Int),.int .i64 ((s:Int)+1)] 229)=W6 at HW6 ⊢
       generalize w5.heap.size=gn at HW6 ⊢)
    | (have hW:=Behind.laid (W0:=w) (gr:=gr) (gs:=gs) (na:=na) (nb:=nb) (oa2:=oa2) (ob2:=ob2) ((Below.refl _ _).alloc (Nat.le_refl _) _) hb5 hk0 HB.out.1 HB.out.2.1 HB.out.2.2
       have HW6:=Lib.hid hW
       generalize (((((w5.setCell ⟨wr.heap.size,0,none⟩ (.int .u64 (na:Int))).setCell ⟨wr.heap.size,1,none⟩ (.int .u64 (nb:Int))).setCell ⟨wr.heap.size,2,none⟩ (.int .u64 (oa2:Int))).setCell ⟨wr.heap.size,3,none⟩ (.int .u64 (ob2:Int))).setCell ⟨wr.heap.size,4,none⟩ (.int .i64 ((s:Int)+1)))=W6 at HW6 ⊢
       generalize wr.heap.size=gn at HW6 ⊢)
    | (have hW:=Behind.laid (W0:=w) (gr:=gr) (gs:=gs) (na:=na) (nb:=nb) (oa2:=oa2) (ob2:=ob2) ((Below.refl _ _).alloc (Nat.le_refl _) _).drew hb5 hk0 HB.out.1 HB.out.2.1 HB.out.2.2
       have HW6:=Lib.hid hW
       generalize (((((w5.setCell ⟨wr.heap.size,0,none⟩ (.int .u64 (na:Int))).setCell ⟨wr.heap.size,1,none⟩ (.int .u64 (nb:Int))).setCell ⟨wr.heap.size,2,none⟩ (.int .u64 (oa2:Int))).setCell ⟨wr.heap.size,3,none⟩ (.int .u64 (ob2:Int))).setCell ⟨wr.heap.size,4,none⟩ (.int .i64 ((s:Int)+1)))=W6 at HW6 ⊢
       generalize wr.heap.size=gn at HW6 ⊢)
   all_goals clear cn c0 c1 c2 c3 c4 hgsl hgrl hb5
   all_goals try clear hk0
   all_goals try clear v0 v1 v2 v3 v4 x0' x1' x2' x3' x4'
   all_goals
    go_wp2
    go_quiet (fail)
    have HW7:=Lib.hid (show Behind w (W6.drewN nq) gr gs gn oa ob na nb s oa2 ob2 na nb (s+1) from ⟨HW6.out.1,HW6.out.2.1,HW6.out.2.2.1,cA HW6.out.2.2.2.1 _,HW6.out.2.2.2.2⟩)
    clear HW6
    generalize W6.drewN nq=W7 at HW7 ⊢
    obtain ⟨n0,n1,n2,n3,n4,p0,p1,p2,p3,p4⟩:=bL HW7.out.1
    obtain ⟨c0,c1,c2,c3,c4,z0,z1,z2,z3,z4⟩:=bL HW7.out.2.1
    obtain ⟨d0,d1,d2,d3,d4,w0,w1,w2,w3,w4⟩:=bL (dM▸HW7.out.2.2.1)
    have q1:¬ gn=gs:=HW7.out.2.2.2.2.1
    have q2:¬ gn=gr:=HW7.out.2.2.2.2.2
    have q3:¬ gs=gn:=fun h=>q1 h.symm
    have q4:¬ gr=gn:=fun h=>q2 h.symm
    have hsum:(nb:Int)+ob2≤18446744073709551615∨r<ob2:=by
     rcases Nat.lt_or_ge r ob2 with h|h
     ·exact .inr h
     ·have hrp:0<r:=Nat.lt_of_lt_of_le HS1.out.1.nb1 h
      have:=HS1.out.1.sum_le hrp
      have:=HM.out.1
      have:=aH
      exact .inl (by omega)
    have hyr:(0:Int)≤(y:Int)-r:=by omega
    have hwr:IntKind.u64.wrap ((y:Int)-r)=(y:Int)-r:=by rw [IntKind.wrap_u64];have:=HM.out;have:=aH;omega
    by_cases t1:r<ob2
    ·have t1' : (r:Int)<ob2:=by omega
     clear hsum t1
     go_wp2
     exact bodyPost_ret (v:=eucV oa ob na nb s) (dW _ (fP (dM▸HW7.out.2.2.1)) rfl) rfl ⟨⟨oa,ob,na,nb,s,x,y,rfl,hst.out.1,hst.out.2⟩,by rw [← HGR.out];exact bO HW7.out.2.2.2.1 (Nat.le_refl _) _ _ _ _ _⟩
    ·have t1' : ¬ (r:Int)<ob2:=by omega
     have hsum' : (nb:Int)+ob2≤18446744073709551615:=by omega
     by_cases t2:(y:Int)-r<(nb:Int)+ob2
     ·clear hsum t1
      go_wp2
      exact bodyPost_ret (v:=eucV oa ob na nb s) (dW _ (fP (dM▸HW7.out.2.2.1)) rfl) rfl ⟨⟨oa,ob,na,nb,s,x,y,rfl,hst.out.1,hst.out.2⟩,by rw [← HGR.out];exact bO HW7.out.2.2.2.1 (Nat.le_refl _) _ _ _ _ _⟩
     ·have htk:Taken y r nb ob2 (s+1):=fun _=>⟨by omega,by omega⟩
      have hsm:SimB x0 y r (s+1):=⟨HM.out.1,by have:=HM.out;omega,by omega,(SimOk.of_steps HS1.out.1 htk HM.out.1 HK.out.2.2 (K:=1) (α:=0) (β:=0) rfl rfl (by omega) (by omega)).1⟩
      have HT:=Lib.hid (And.intro htk hsm)
      have t3:decide ((y:Int)-r<(nb:Int)+ob2)=false:=by simp;omega
      have t4:(nb:Int)+ob2≤(y:Int)-r:=by omega
      clear hsum t1 htk hsm t2
      go_wp2
      go_roundw
      case rel=>exact ⟨y,r,na,nb,oa2,ob2,s+1,rfl,rfl,⟨HS1.out.1,HT.out.1⟩,HT.out.2,fP HW7.out.2.1,(fU hne' _ _ _ _ _).trans HW7.out.2.2.1,bO HW7.out.2.2.2.1 (Nat.le_of_lt hlt) _ _ _ _ _⟩
      case measure=>simp [intOf];omega
end Go.Proofs.YtofcdondmgojiaaGreatDoor
