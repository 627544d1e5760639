/- Parts of the proof, joined. -/
import Derived.Test.YtklnecajplnboaaGreatDoorShelf
import Derived.Lib.Walk
import Derived.Lib.ItoaMem
import Derived.WalkKit
import Derived.BigCall
import Derived.BigGuard
import Derived.Lib.Hide
import Derived.Test.YtklnecajplnboaaGreatDoorJ0
import Derived.Laws.Bits64
import Derived.Laws.Shifts
import Derived.WalkSpells
import Derived.BigQuiet
import Derived.Deep.QuietTactic
import Derived.Lib.ItoaNum
import Derived.Deep.RegionWith
import Derived.Lib.SmallJoins
import Derived.Laws.ResultCell
import Derived.WalkLawsBesides
import Derived.BigRegion
set_option maxHeartbeats 4000000
set_option linter.unusedSimpArgs false
set_option linter.unusedVariables false
set_option linter.constructorNameAsVariable false
namespace Go.Proofs.YtklnecajplnboaaGreatDoor
end Go.Proofs.YtklnecajplnboaaGreatDoor
namespace Go.Proofs
open Go.Shelf
def BldRen:Shelf.Ren:=⟨fun|166=>195|240=>231|276=>256|n=>n,fun|0=>0|3=>3|4=>4|5=>5|9=>9|20=>20|37=>229|70=>228|72=>231|75=>184|80=>235|164=>280|n=>n,fun|n=>n⟩
theorem BldLays:Go.Proofs.Lays.n166 Tryz.prog BldRen := {
 mixed:=by kernel_rfl
 f166:=Tryz.func195.trans (congrArg some (by kernel_rfl))
 f240:=Tryz.func231.trans (congrArg some (by kernel_rfl))
 f276:=Tryz.func256.trans (congrArg some (by kernel_rfl))
 t0:=Tryz.underlying0
 a0:=Tryz.isAgg0
 z0:=Tryz.sizeOf0
 v0:=Tryz.zeroValue0
 t3:=Tryz.underlying3
 a3:=Tryz.isAgg3
 z3:=Tryz.sizeOf3
 v3:=Tryz.zeroValue3
 t4:=Tryz.underlying4
 a4:=Tryz.isAgg4
 z4:=Tryz.sizeOf4
 v4:=Tryz.zeroValue4
 t9:=Tryz.underlying9
 a9:=Tryz.isAgg9
 z9:=Tryz.sizeOf9
 v9:=Tryz.zeroValue9
 t20:=Tryz.underlying20
 a20:=Tryz.isAgg20
 z20:=Tryz.sizeOf20
 v20:=Tryz.zeroValue20
 t37:=Tryz.underlying229
 a37:=Tryz.isAgg229
 z37:=Tryz.sizeOf229
 v37:=Tryz.zeroValue229
 t70:=Tryz.underlying228
 a70:=Tryz.isAgg228
 z70:=Tryz.sizeOf228
 v70:=Tryz.zeroValue228
 t72:=Tryz.underlying231
 a72:=Tryz.isAgg231
 z72:=Tryz.sizeOf231
 v72:=Tryz.zeroValue231
 t75:=Tryz.underlying184
 a75:=Tryz.isAgg184
 z75:=Tryz.sizeOf184
 v75:=Tryz.zeroValue184
 t164:=Tryz.underlying280
 a164:=Tryz.isAgg280
 z164:=Tryz.sizeOf280
 v164:=Tryz.zeroValue280
}
theorem BldExtra:Builder.Extra Tryz.prog BldRen := {
 sizeBuilder:=by kernel_rfl
 liesBuilder:=by kernel_rfl
 t5:=Tryz.underlying5
 a5:=Tryz.isAgg5
 z5:=Tryz.sizeOf5
 v5:=Tryz.zeroValue5
 infoByte:=by kernel_rfl
 cellsByte:=by kernel_rfl
 sizeByte:=by kernel_rfl
 neB5:=by decide
}
open Go.RowKit in
theorem mX (B b:Nat) (bs:List Value) (s:ByteArray) (w:World) (h:Lib.IsBuilder 231 5 B b bs w) (hl:bs.length+s.size≤140737488355328) (hB:B≤w.heap.size) :
 Calls Tryz.prog 195 #[.pointer (some ⟨b,0,none⟩),.string s] w fun e w'=>e = .returned (.tuple #[.int .i64 s.size,.nilIface])∧Lib.BuilderAt 231 5 B b (.pointer (some ⟨b,0,none⟩)) (bs++Lib.strCells s) w'∧Below B w w' :=
 Any.Builder_WriteString BldLays BldExtra B b bs s w h hl hB
end Go.Proofs
namespace Go.Proofs.YtklnecajplnboaaGreatDoor
section
open Go.RowKit Go.Sort Go.Lib
def Laid (w:World):Prop:=TabIs Tryz.prog w "internal/strconv.uint64pow10" .u64 pow10Tab
theorem Laid.below {w w' : World} (h:Laid w) (hb:Below w.heap.size w w'):Laid w':=by
 unfold Laid TabIs World.var? at *
 cases hg:Tryz.prog.globalNamed "internal/strconv.uint64pow10" with
 | none=>simp [hg] at h
 | some g =>
   simp only [hg,Option.bind_some] at h ⊢
   have hlt:g<w.heap.size:=by
    rcases Nat.lt_or_ge g w.heap.size with h'|h'
    ·exact h'
    ·rw [Array.getElem?_eq_none h'] at h;simp at h
   rw [hb.block g hlt]
   exact h
theorem yB (w:World) (os:Array Obj):Below w.heap.size w (grow w os) :=
 ⟨rfl,rfl,rfl,by simp [grow],fun k hk=>by simp only [grow];rw [Array.getElem?_append_left hk]⟩
theorem oE (w:World) (k:Nat):Below w.heap.size w (w.drewN k):=⟨rfl,rfl,rfl,aR _,fun _ _=>rfl⟩
theorem fin_zero (w:World) (o:Obj) (dk:Array UInt8) (k:Nat):∃ os,(putRow (fun (b:UInt8)=>Value.int .u8 (b.toNat:Int)) (w.alloc o) w.heap.size 0 dk).drewN k=grow (w.drewN k) os:=by
 rw [alloc_eq_grow]
 obtain ⟨os',_,e⟩:=putRow_grow_new (fun (b:UInt8)=>Value.int .u8 (b.toNat:Int)) w #[o] w.heap.size 0 dk (aR _)
 exact ⟨os',by rw [e];rfl⟩
theorem holds_zero0 (w:World) (T:TypeId) (nd:Nat) (hs:nd≤24):Holds (fun (b:UInt8)=>Value.int .u8 (b.toNat:Int)) (w.alloc (.cells zeros24 T)) w.heap.size 0 (Array.replicate nd (0:UInt8)):=fun j hj=>by
 have hj' : j<nd:=by simpa using hj
 refine ⟨?_,World.frozen?_alloc_new _ _ _ _⟩
 rw [World.cell?_alloc_new,zeros24_at _ (by omega),getElem!_pos _ j hj]
 simp
set_option maxHeartbeats 6400000 in
set_option maxRecDepth 100000 in
theorem uB (u:Nat) (hu64:u<18446744073709551616) (w:World) (htab:Laid w) :
 Calls Tryz.prog 276 #[.int .u64 (u:Int),.int .i64 10] w fun e w'=>e = .returned (.string ⟨(decDigits u).toArray⟩)∧Below w.heap.size w w':=by
 by_cases hs:u<100
 ·go_enter Tryz.func276,Tryz.ntmps276
  go_wp2_with (go_at_call 269;refine (Tryz.internal_strconv_small u hs _).mono ?_;rintro e w' ⟨rfl,rfl⟩)
  go_ret
  exact ⟨rfl,aB _ _⟩
 ·have hu1:1≤u:=by omega
  have hnd20:nDigits u≤20:=by have:=numDigits_eq u hu1 hu64;split at this <;> omega
  have hal:Tryz.prog.arrayLen 291=24:=by simp [Program.arrayLen,Tryz.underlying291]
  have hsl1:∀ W,(Instr.sliceAt 291 (.pointer (some ⟨w.heap.size,0,none⟩)) none (some (.int .i64 (nDigits u:Int))) none).run Tryz.prog W = .ok (.slice (some ⟨w.heap.size,0,none⟩) (nDigits u) 24) W:=fun W=>by
   rw [run_sliceAt_array_h W 291 ⟨w.heap.size,0,none⟩ (by simp [Program.arrayLen,Program.elem,Tryz.underlying291]) .i64 (nDigits u:Int) (by omega) (by rw [hal];omega)]
   go_simp
  have hH0:=holds_zero0 w 291 (nDigits u) (by omega)
  have hfmt:=Tryz.internal_strconv_formatBase10 w.heap.size 0 24 u (Array.replicate (nDigits u) 0) (w.alloc (.cells zeros24 291)) hH0 (by rw [Array.size_replicate];exact lt_pow_nDigits u) hu64 (by rw [Array.size_replicate];omega)
  rw [Array.size_replicate] at hfmt
  have HH0:=aH hH0
  clear hH0 hal
  go_enter Tryz.func276,Tryz.ntmps276
  go_wp2_with (first
   | (go_at_call 270;refine (Tryz.internal_strconv_numDigits u hu1 hu64 _ (tabIs_alloc htab _)).mono ?_;rintro e w' ⟨rfl,rfl⟩))
  refine hfmt.mono ?_
  rintro e w' ⟨rfl,k,v',dk,rfl,hF⟩
  have hcv:(convert 229 9 (.slice (some ⟨w.heap.size,0,none⟩) (nDigits u) 24)).run Tryz.prog ((putRow (fun (b:UInt8)=>Value.int .u8 (b.toNat:Int)) (w.alloc (.cells zeros24 291)) w.heap.size 0 dk).drewN k) = .ok (.string ⟨(decDigits u).toArray⟩) ((putRow (fun (b:UInt8)=>Value.int .u8 (b.toNat:Int)) (w.alloc (.cells zeros24 291)) w.heap.size 0 dk).drewN k):=by
   have h:=run_convert_bytes_back (P:=Tryz.prog) ((putRow (fun (b:UInt8)=>Value.int .u8 (b.toNat:Int)) (w.alloc (.cells zeros24 291)) w.heap.size 0 dk).drewN k) 229 9 5 ⟨w.heap.size,0,none⟩ 24 (decDigits u) Tryz.underlying229 Tryz.underlying5 Tryz.underlying9 (fun j hj=>by
    rw [row_is_numeral hF j hj,add_plain,World.cell?_drewN]
    exact cell?_putRow (fun (b:UInt8)=>Value.int .u8 (b.toNat:Int)) _ w.heap.size 0 _ dk HH0.out (by rw [hF.size,Array.size_replicate]) j (by rw [hF.size];rw [decDigits_length] at hj;exact hj))
   rw [decDigits_length] at h
   exact h
  go_wp2
  go_ret
  obtain ⟨os,eo⟩:=fin_zero w (.cells zeros24 291) dk k
  refine ⟨rfl,?_⟩
  rw [eo]
  exact (oE w k).trans (yB (w.drewN k) os)
theorem oF (u:Nat) (hu64:u<18446744073709551616) (w:World) (htab:Laid w) :
 Calls Tryz.prog 268 #[.int .u64 (u:Int),.int .i64 10] w fun e w'=>e = .returned (.string ⟨(decDigits u).toArray⟩)∧Below w.heap.size w w':=by
 have H:=aH htab
 clear htab
 go_enter Tryz.func268,Tryz.ntmps268
 go_wp2_with (go_at_call 276;refine (uB u hu64 _ H.out).mono ?_;rintro e w' ⟨rfl,hb⟩)
 go_ret
 exact ⟨rfl,hb⟩
end
namespace Pl
structure Steps (x0 y0 x y oa ob na nb s:Nat):Prop where
 i1:nb*x+ob*y=x0
 i2:na*x+oa*y=y0
 det:(s%2=0→oa*nb=ob*na+1)∧(s%2=1→ob*na=oa*nb+1)
 zero:s=0→oa=1∧ob=0∧na=0∧nb=1
 ord:0<s→oa≤ob∧na≤nb∧0<na∧0<ob
 nb1:0<nb
 sb:s≤nb
 lt:y≤x
theorem Steps.start (x0 y0:Nat) (h:y0≤x0):Steps x0 y0 x0 y0 1 0 0 1 0 :=
 ⟨by simp,by simp,by simp,by simp,by omega,by omega,by omega,h⟩
theorem Steps.next {x0 y0 x y oa ob na nb s:Nat} (h:Steps x0 y0 x y oa ob na nb s) (hy:0<y) :
 Steps x0 y0 y (x%y) na nb (oa+x/y*na) (ob+x/y*nb) (s+1):=by
 have hx:y*(x/y)+x%y=x:=Nat.div_add_mod x y
 have hq:1≤x/y:=(Nat.one_le_div_iff hy).2 h.lt
 have hm:x%y<y:=Nat.mod_lt _ hy
 generalize x/y=q at *
 generalize x%y=r at *
 have hb:nb≤q*nb:=Nat.le_mul_of_pos_left _ hq
 have ha:na≤q*na:=Nat.le_mul_of_pos_left _ hq
 have n1:=h.nb1
 have sb:=h.sb
 refine ⟨?_,?_,⟨?_,?_⟩,by omega,?_,?_,?_,by omega⟩
 ·rw [← h.i1,← hx];grind
 ·rw [← h.i2,← hx];grind
 ·intro e
  have:=h.det.2 (by omega)
  grind
 ·intro e
  have:=h.det.1 (by omega)
  grind
 ·intro _
  rcases Nat.eq_zero_or_pos s with e|hs
  ·obtain ⟨rfl,rfl,rfl,rfl⟩:=h.zero e
   simp;omega
  ·obtain ⟨o1,o2,o3,o4⟩:=h.ord hs
   have:=Nat.mul_le_mul_left q o2
   refine ⟨o2,by omega,by omega,n1⟩
 ·omega
 ·rcases Nat.eq_zero_or_pos s with e|hs
  ·omega
  ·have:=(h.ord hs).2.2.2;omega
theorem Steps.nb_le {x0 y0 x y oa ob na nb s:Nat} (h:Steps x0 y0 x y oa ob na nb s) (hx:0<x):nb≤x0:=by
 have:=Nat.le_mul_of_pos_right nb hx
 have:=h.i1
 omega
theorem Steps.na_le {x0 y0 x y oa ob na nb s:Nat} (h:Steps x0 y0 x y oa ob na nb s) (hx:0<x):na≤y0:=by
 have:=Nat.le_mul_of_pos_right na hx
 have:=h.i2
 omega
theorem Steps.sum_le {x0 y0 x y oa ob na nb s:Nat} (h:Steps x0 y0 x y oa ob na nb s) (hy:0<y):ob+nb≤x0:=by
 have hx:0<x:=Nat.lt_of_lt_of_le hy h.lt
 have:=Nat.le_mul_of_pos_right nb hx
 have:=Nat.le_mul_of_pos_right ob hy
 have:=h.i1
 omega
theorem Steps.lift {x0 y0 x y oa ob na nb s:Nat} (h:Steps x0 y0 x y oa ob na nb s) (hs:0<s) (c1:nb≤y) (c2:ob+nb≤x-y)
 {K α β a b:Nat} (ha:a=x0*K+α) (hb:b=y0*K+β) (hα:α<K) (hβ:β<K) :
 ∃ a' b',a=nb*a'+ob*b'∧b=na*a'+oa*b'∧b'<a' ∧
   (s%2=0→oa*a=a'+ob*b∧nb*b=b'+na*a)∧(s%2=1→ob*b=a'+oa*a∧na*a=b'+nb*b):=by
 obtain ⟨o1,o2,o3,o4⟩:=h.ord hs
 have hlt:=h.lt
 have k1:na*α≤nb*K:=Nat.mul_le_mul o2 (Nat.le_of_lt hα)
 have k2:nb*β≤nb*K:=Nat.mul_le_mul_left _ (Nat.le_of_lt hβ)
 have k3:oa*α≤ob*K:=Nat.mul_le_mul o1 (Nat.le_of_lt hα)
 have k4:ob*β≤ob*K:=Nat.mul_le_mul_left _ (Nat.le_of_lt hβ)
 have k5:nb*K≤y*K:=Nat.mul_le_mul_right _ c1
 have k6:(ob+nb)*K+y*K≤x*K:=by rw [← Nat.add_mul];exact Nat.mul_le_mul_right _ (by omega)
 rw [Nat.add_mul] at k6
 have k7:nb*β<nb*K:=Nat.mul_lt_mul_of_pos_left hβ h.nb1
 have k8:na*α<na*K:=Nat.mul_lt_mul_of_pos_left hα o3
 have k9:na*K≤nb*K:=Nat.mul_le_mul_right _ o2
 have e1:=h.i1
 have e2:=h.i2
 rcases Nat.mod_two_eq_zero_or_one s with e|e
 ·have d:=h.det.1 e
  have x1:oa*x0=x+ob*y0:=by rw [← e1,← e2];grind
  have y1:nb*y0=y+na*x0:=by rw [← e1,← e2];grind
  refine ⟨x*K+oa*α-ob*β,y*K+nb*β-na*α,?_,?_,by omega,fun _=>⟨?_,?_⟩,by omega⟩
  ·have p:ob*β≤x*K+oa*α:=by omega
   have p2:na*α≤y*K+nb*β:=by omega
   obtain ⟨u,hu⟩:=Nat.exists_eq_add_of_le p
   obtain ⟨v,hv⟩:=Nat.exists_eq_add_of_le p2
   rw [hu,hv,Nat.add_sub_cancel_left,Nat.add_sub_cancel_left,ha,← e1]
   grind
  ·have p:ob*β≤x*K+oa*α:=by omega
   have p2:na*α≤y*K+nb*β:=by omega
   obtain ⟨u,hu⟩:=Nat.exists_eq_add_of_le p
   obtain ⟨v,hv⟩:=Nat.exists_eq_add_of_le p2
   rw [hu,hv,Nat.add_sub_cancel_left,Nat.add_sub_cancel_left,hb,← e2]
   grind
  ·have p:ob*β≤x*K+oa*α:=by omega
   obtain ⟨u,hu⟩:=Nat.exists_eq_add_of_le p
   rw [hu,Nat.add_sub_cancel_left,ha,hb]
   grind
  ·have p2:na*α≤y*K+nb*β:=by omega
   obtain ⟨v,hv⟩:=Nat.exists_eq_add_of_le p2
   rw [hv,Nat.add_sub_cancel_left,ha,hb]
   grind
 ·have d:=h.det.2 e
  have x1:ob*y0=x+oa*x0:=by rw [← e1,← e2];grind
  have y1:na*x0=y+nb*y0:=by rw [← e1,← e2];grind
  refine ⟨x*K+ob*β-oa*α,y*K+na*α-nb*β,?_,?_,by omega,by omega,fun _=>⟨?_,?_⟩⟩
  ·have p:oa*α≤x*K+ob*β:=by omega
   have p2:nb*β≤y*K+na*α:=by omega
   obtain ⟨u,hu⟩:=Nat.exists_eq_add_of_le p
   obtain ⟨v,hv⟩:=Nat.exists_eq_add_of_le p2
   rw [hu,hv,Nat.add_sub_cancel_left,Nat.add_sub_cancel_left,ha,← e1]
   grind
  ·have p:oa*α≤x*K+ob*β:=by omega
   have p2:nb*β≤y*K+na*α:=by omega
   obtain ⟨u,hu⟩:=Nat.exists_eq_add_of_le p
   obtain ⟨v,hv⟩:=Nat.exists_eq_add_of_le p2
   rw [hu,hv,Nat.add_sub_cancel_left,Nat.add_sub_cancel_left,hb,← e2]
   grind
  ·have p:oa*α≤x*K+ob*β:=by omega
   obtain ⟨u,hu⟩:=Nat.exists_eq_add_of_le p
   rw [hu,Nat.add_sub_cancel_left,ha,hb]
   grind
  ·have p2:nb*β≤y*K+na*α:=by omega
   obtain ⟨v,hv⟩:=Nat.exists_eq_add_of_le p2
   rw [hv,Nat.add_sub_cancel_left,ha,hb]
   grind
theorem vQ {a b a' b' oa ob na nb s:Nat} (e1:a=nb*a'+ob*b') (e2:b=na*a'+oa*b')
 (h0:s%2=0→oa*a=a'+ob*b∧nb*b=b'+na*a) (h1:s%2=1→ob*b=a'+oa*a∧na*a=b'+nb*b):Nat.gcd a' b'=Nat.gcd a b:=by
 apply Nat.dvd_antisymm
 ·apply Nat.dvd_gcd
  ·rw [e1];exact Nat.dvd_add (Nat.dvd_mul_left_of_dvd (Nat.gcd_dvd_left _ _) _) (Nat.dvd_mul_left_of_dvd (Nat.gcd_dvd_right _ _) _)
  ·rw [e2];exact Nat.dvd_add (Nat.dvd_mul_left_of_dvd (Nat.gcd_dvd_left _ _) _) (Nat.dvd_mul_left_of_dvd (Nat.gcd_dvd_right _ _) _)
 ·have da:∀ k,Nat.gcd a b ∣ k*a:=fun k=>Nat.dvd_mul_left_of_dvd (Nat.gcd_dvd_left _ _) _
  have db:∀ k,Nat.gcd a b ∣ k*b:=fun k=>Nat.dvd_mul_left_of_dvd (Nat.gcd_dvd_right _ _) _
  rcases Nat.mod_two_eq_zero_or_one s with e|e
  ·obtain ⟨p,q⟩:=h0 e
   apply Nat.dvd_gcd
   ·exact (Nat.dvd_add_left (db ob)).1 (p▸da oa)
   ·exact (Nat.dvd_add_left (da na)).1 (q▸db nb)
  ·obtain ⟨p,q⟩:=h1 e
   apply Nat.dvd_gcd
   ·exact (Nat.dvd_add_left (da oa)).1 (p▸db ob)
   ·exact (Nat.dvd_add_left (db nb)).1 (q▸da na)
end Pl
section
open Go.RowKit Pl
def Away (A:Option Addr) (n g:Nat):Prop:=0<n→∀ ad,A=some ad→ad.block≠g
theorem Rd.away {w:World} {A:Option Addr} {n c:Nat} {xs:List Nat} (h:Rd w A n c xs) {g:Nat} (hg:w.heap.size≤g):Away A n g:=by
 intro hn ad hA
 obtain ⟨ad',hA',hl,_⟩:=h.2.2.2 hn
 rw [hA] at hA'
 injection hA' with e
 subst e
 omega
theorem Rd.only {w w' : World} {A:Option Addr} {n c g:Nat} {xs:List Nat} (h:Rd w A n c xs) (ha:Away A n g) (hg:w.grownBy w' (some g)):Rd w' A n c xs:=by
 refine ⟨h.1,h.2.1,h.2.2.1,fun hn=>?_⟩
 obtain ⟨ad,e,hl,hc⟩:=h.2.2.2 hn
 have hne:=ha hn ad e
 have:=hg.size
 exact ⟨ad,e,by omega,fun j x hx=>hg.cell (hc j x hx) (by rw [bK];intro e2;injection e2 with e2;exact hne e2)⟩
theorem uC (w:World) (g:Nat):w.grownBy w (some g):=⟨rfl,rfl,rfl,aR _,fun _ _ _=>rfl⟩
theorem cU {w w' w'' : World} {g:Nat} (h:w.grownBy w' (some g)) (h' : w'.grownBy w'' (some g)):w.grownBy w'' (some g) :=
 ⟨h'.os.trans h.os,h'.tape.trans h.tape,h'.output.trans h.output,Nat.le_trans h.size h'.size,fun k hk hne=>(h'.block k (Nat.lt_of_lt_of_le hk h.size) hne).trans (h.block k hk hne)⟩
theorem eH (w:World) (g i:Nat) (u:Value):w.grownBy (w.setCell ⟨g,i,none⟩ u) (some g) :=
 ⟨rfl,rfl,rfl,by simp [World.setCell],fun k _ hne=>Below.heap_setCell w _ u k (fun e=>hne (by rw [e]))⟩
def put (ys:List Nat) (o:Nat) (zs:List Nat):List Nat:=ys.take o++(zs++ys.drop (o+zs.length))
theorem wU (ys:List Nat) (o:Nat):put ys o []=ys:=by simp [put]
theorem cV {ys:List Nat} {o:Nat} {zs:List Nat} (h:o+zs.length≤ys.length):(put ys o zs).length=ys.length:=by
 simp only [put,List.length_append,List.length_take,List.length_drop];omega
theorem pN {ys:List Nat} {o k:Nat} {zs:List Nat} (hz:zs.length≤k) (h:o+k<ys.length):(put ys o zs)[o+k]?=ys[o+k]?:=by
 unfold put
 rw [List.getElem?_append_right (by simp;omega),List.getElem?_append_right (by simp;omega),List.getElem?_drop]
 congr 1
 simp only [List.length_take]
 omega
theorem gZ {ys:List Nat} {o k:Nat} {zs:List Nat} {z:Nat} (hz:zs.length=k) (h:o+k<ys.length):(put ys o zs).set (o+k) z=put ys o (zs ++ [z]):=by
 subst hz
 unfold put
 rw [List.set_append_right _ _ (by simp;omega),List.set_append_right _ _ (by simp;omega)]
 have e:o+zs.length-(ys.take o).length-zs.length=0:=by simp;omega
 rw [e,List.drop_eq_getElem_cons h]
 simp [Nat.add_assoc]
theorem mul_step {x m cv y:Nat} (hx:x<aD) (hm:m<aD) (hc:cv<aD) (hy:y<aD) :
 ∃ hi lo s1 c1 r c2:Nat,x*m/aD=hi∧x*m%aD=lo∧(lo+cv+0)%aD=s1∧(lo+cv+0)/aD=c1∧(y+s1+0)%aD=r∧(y+s1+0)/aD=c2 ∧
   hi+c1<aD∧hi+c1+c2<aD∧r<aD∧r+aD*(hi+c1+c2)=y+x*m+cv:=by
 refine ⟨_,_,_,_,_,_,rfl,rfl,rfl,rfl,rfl,rfl,?_⟩
 have h1:=Nat.div_add_mod (x*m) aD
 have hp:x*m≤18446744073709551615*18446744073709551615:=Nat.mul_le_mul (by have:=aL;omega) (by have:=aL;omega)
 generalize x*m=p at *
 simp only [aL] at *
 omega
theorem iO (g o n cS:Nat) (t:TypeId) (ys:List Nat) (A:Option Addr) (n' c:Nat) (xs:List Nat) (m:Nat) (w:World) (hb:Blk w g t ys) (hys:Dig aD ys) (hwin:o+n'≤ys.length) (hn:n'≤n) (hcS:n≤cS)
 (hm63:cS≤9223372036854775807) (h:Rd w A n' c xs) (hd:Dig aD xs) (ha:Away A n' g) (hm:m<aD) :
 Calls Tryz.prog 211 #[.slice (some ⟨g,o,none⟩) n cS,.slice A n' c,.int .u64 (m:Int)] w fun e w' =>
  Hid (∃ (zs:List Nat) (cy:Nat),e = .returned (.int .u64 (cy:Int))∧zs.length=n'∧Dig aD zs∧cy<aD∧val aD zs+aD^n'*cy=val aD ((ys.drop o).take n')+m*val aD xs∧Blk w' g t (put ys o zs)∧w.grownBy w' (some g)):=by
 have HX:=aH (aI h (aI hd (aI hys ha)))
 have HB:=aH hb
 have hnc:n'≤c:=h.cap
 have hcm:c≤9223372036854775807:=h.2.2.1
 clear h hd hys ha hb
 go_enter Tryz.func211,Tryz.ntmps211
 go_wp2
 go_loopw [7,14] (fun cy i wr => ∃ (k cv:Nat) (zs:List Nat),k≤n'∧i = .int .i64 (k:Int)∧cy = .int .u64 (cv:Int)∧cv<aD∧zs.length=k∧Dig aD zs ∧
  val aD zs+aD^k*cv=val aD ((ys.drop o).take k)+m*val aD (xs.take k)∧Blk wr g t (put ys o zs)∧w.grownBy wr (some g)) (fun _ i _=>n'-(intOf i).toNat)
 case atStart=>exact ⟨0,0,[],Nat.zero_le _,rfl,rfl,bF,rfl,Dig.nil _,by simp [val],by rw [wU];exact HB.out,uC _ _⟩
 case round =>
  obtain ⟨k,cv,zs,hk,rfl,rfl,hcv,hzl,hzd,hval,hblk,hg⟩:=hrel
  by_cases hlt:k<n'
  ·obtain ⟨ad,x,hA,_,hx,hcx⟩:=(HX.out.1.only HX.out.2.2.2 hg).at_ (k:=k) hlt
   subst hA
   obtain ⟨y,hy⟩:∃ y,ys[o+k]?=some y:=⟨_,List.getElem?_eq_getElem (by omega)⟩
   have hcy:wr.cell? ⟨g,o+k,none⟩=some (.int .u64 (y:Int)):=hblk.cell (by rw [pN (by omega) (by omega)];exact hy)
   have hfz:=hblk.frozen (o+k)
   obtain ⟨hi,lo,s1,c1,r,c2,e1,e2,e3,e4,e5,e6,b1,b2,b3,e7⟩:=mul_step (HX.out.2.1.at_ hx) hm hcv (HX.out.2.2.1.at_ hy)
   have hmul:=aH (fun w=>(Tryz.bits_Mul64 x m (HX.out.2.1.at_ hx) hm w).mono (fun e w' h=>(show e = .returned (.tuple #[.int .u64 (hi:Int),.int .u64 (lo:Int)])∧w=w' from ⟨by rw [h.1,← e1,← e2];rfl,h.2.symm⟩)))
   have ha1:=fun w=>fO lo cv 0 (by omega) w
   have ha2:=fun w=>fO y s1 0 (by omega) w
   rw [e3,e4] at ha1
   rw [e5,e6] at ha2
   simp only [Int.natCast_zero] at ha1 ha2
   have HE:=aH (aI hx (aI hy (aI hblk (aI e7 (aI hval (aI hzl hzd))))))
   have B1:(hi:Int)+c1≤18446744073709551615:=by have:=aL;omega
   have B2:(hi:Int)+c1+c2≤18446744073709551615:=by have:=aL;omega
   have HB3:=aH (aI b2 b3)
   clear hx hy hblk e1 e2 e3 e4 e5 e6 e7 hval hzl hzd b1 b2 b3 hcv
   go_wp2_with (go_at_call 219;refine (hmul.out _).mono ?_;rintro e w' ⟨rfl,rfl⟩)
   go_roundw
   case rel =>
    obtain ⟨hx,hy,hblk,e7,hval,hzl,hzd⟩:=HE.out
    refine ⟨k+1,hi+c1+c2,zs ++ [r],by omega,by go_num,by go_num,HB3.out.1,by simp [hzl],hzd.app (Dig.cons HB3.out.2 (Dig.nil _)),?_,?_,cU hg (eH _ _ _ _)⟩
    ·obtain ⟨h1,ex⟩:=List.getElem?_eq_some_iff.1 hx
     have hyd:(ys.drop o)[k]?=some y:=by rw [List.getElem?_drop];exact hy
     obtain ⟨h2,ey⟩:=List.getElem?_eq_some_iff.1 hyd
     rw [cM,aF _ _ _ h1,aF _ _ _ h2,ex,ey,hzl,Nat.pow_succ]
     generalize aD^k=P at *
     generalize aD=V at *
     grind
    ·rw [← gZ hzl (by omega)]
     exact hblk.set_ _ _
   case measure=>simp [intOf];omega
  ·obtain rfl:k=n':=by omega
   have HE:=aH (aI hblk (aI hval (aI hzl (aI hzd hcv))))
   clear hblk hval hzl hzd hcv
   go_wp2
   go_ret
   refine ⟨zs,cv,rfl,HE.out.2.2.1,HE.out.2.2.2.1,HE.out.2.2.2.2,?_,HE.out.1,hg⟩
   have:=HE.out.2.1
   rwa [List.take_of_length_le (l:=xs) (by rw [HX.out.1.len];omega)] at this
theorem mul_take {x m cv y:Nat} (hx:x<aD) (hm:m<aD) (hc:cv<aD) (hy:y<aD) :
 ∃ hi lo s1 c1 r c2:Nat,x*m/aD=hi∧x*m%aD=lo∧(lo+cv+0)%aD=s1∧(lo+cv+0)/aD=c1∧(y+aD-s1-0)%aD=r∧(if y<s1+0 then 1 else 0)=c2 ∧
   hi+c1<aD∧hi+c1+c2<aD∧r<aD∧r+x*m+cv=y+aD*(hi+c1+c2):=by
 refine ⟨_,_,_,_,_,_,rfl,rfl,rfl,rfl,rfl,rfl,?_⟩
 have h1:=Nat.div_add_mod (x*m) aD
 have hp:x*m≤18446744073709551615*18446744073709551615:=Nat.mul_le_mul (by have:=aL;omega) (by have:=aL;omega)
 generalize x*m=p at *
 have hA:=Nat.div_add_mod (p%aD+cv+0) aD
 have hA2:(p%aD+cv+0)%aD<aD:=Nat.mod_lt _ bF
 generalize (p%aD+cv+0)%aD=s1 at *
 generalize (p%aD+cv+0)/aD=c1 at *
 rcases Nat.lt_or_ge y s1 with hlt|hlt
 ·rw [if_pos (by omega)]
  simp only [aL] at *
  omega
 ·rw [if_neg (by omega)]
  simp only [aL] at *
  omega
theorem lR (g o n cS:Nat) (t:TypeId) (ys:List Nat) (A:Option Addr) (n' c:Nat) (xs:List Nat) (m:Nat) (w:World) (hb:Blk w g t ys) (hys:Dig aD ys) (hwin:o+n'≤ys.length) (hn:n'≤n) (hcS:n≤cS)
 (hm63:cS≤9223372036854775807) (h:Rd w A n' c xs) (hd:Dig aD xs) (ha:Away A n' g) (hm:m<aD) :
 Calls Tryz.prog 263 #[.slice (some ⟨g,o,none⟩) n cS,.slice A n' c,.int .u64 (m:Int)] w fun e w' =>
  Hid (∃ (zs:List Nat) (cy:Nat),e = .returned (.int .u64 (cy:Int))∧zs.length=n'∧Dig aD zs∧cy<aD∧val aD zs+m*val aD xs=val aD ((ys.drop o).take n')+aD^n'*cy∧Blk w' g t (put ys o zs)∧w.grownBy w' (some g)):=by
 have HX:=aH (aI h (aI hd (aI hys ha)))
 have HB:=aH hb
 have hnc:n'≤c:=h.cap
 have hcm:c≤9223372036854775807:=h.2.2.1
 clear h hd hys ha hb
 go_enter Tryz.func263,Tryz.ntmps263
 go_wp2
 go_loopw [7,14] (fun cy i wr => ∃ (k cv:Nat) (zs:List Nat),k≤n'∧i = .int .i64 (k:Int)∧cy = .int .u64 (cv:Int)∧cv<aD∧zs.length=k∧Dig aD zs ∧
  val aD zs+m*val aD (xs.take k)=val aD ((ys.drop o).take k)+aD^k*cv∧Blk wr g t (put ys o zs)∧w.grownBy wr (some g)) (fun _ i _=>n'-(intOf i).toNat)
 case atStart=>exact ⟨0,0,[],Nat.zero_le _,rfl,rfl,bF,rfl,Dig.nil _,by simp [val],by rw [wU];exact HB.out,uC _ _⟩
 case round =>
  obtain ⟨k,cv,zs,hk,rfl,rfl,hcv,hzl,hzd,hval,hblk,hg⟩:=hrel
  by_cases hlt:k<n'
  ·obtain ⟨ad,x,hA,_,hx,hcx⟩:=(HX.out.1.only HX.out.2.2.2 hg).at_ (k:=k) hlt
   subst hA
   obtain ⟨y,hy⟩:∃ y,ys[o+k]?=some y:=⟨_,List.getElem?_eq_getElem (by omega)⟩
   have hcy:wr.cell? ⟨g,o+k,none⟩=some (.int .u64 (y:Int)):=hblk.cell (by rw [pN (by omega) (by omega)];exact hy)
   have hfz:=hblk.frozen (o+k)
   obtain ⟨hi,lo,s1,c1,r,c2,e1,e2,e3,e4,e5,e6,b1,b2,b3,e7⟩:=mul_take (HX.out.2.1.at_ hx) hm hcv (HX.out.2.2.1.at_ hy)
   have hmul:=aH (fun w=>(Tryz.bits_Mul64 x m (HX.out.2.1.at_ hx) hm w).mono (fun e w' h=>(show e = .returned (.tuple #[.int .u64 (hi:Int),.int .u64 (lo:Int)])∧w=w' from ⟨by rw [h.1,← e1,← e2];rfl,h.2.symm⟩)))
   have ha1:=fun w=>fO lo cv 0 (by omega) w
   have ha2:=fun w=>mP y s1 0 (by omega) w
   rw [e3,e4] at ha1
   rw [e5,e6] at ha2
   simp only [Int.natCast_zero] at ha1 ha2
   have HE:=aH (aI hx (aI hy (aI hblk (aI e7 (aI hval (aI hzl hzd))))))
   have B1:(hi:Int)+c1≤18446744073709551615:=by have:=aL;omega
   have B2:(hi:Int)+c1+c2≤18446744073709551615:=by have:=aL;omega
   have HB3:=aH (aI b2 b3)
   clear hx hy hblk e1 e2 e3 e4 e5 e6 e7 hval hzl hzd b1 b2 b3 hcv
   go_wp2_with (go_at_call 219;refine (hmul.out _).mono ?_;rintro e w' ⟨rfl,rfl⟩)
   go_roundw
   case rel =>
    obtain ⟨hx,hy,hblk,e7,hval,hzl,hzd⟩:=HE.out
    refine ⟨k+1,hi+c1+c2,zs ++ [r],by omega,by go_num,by go_num,HB3.out.1,by simp [hzl],hzd.app (Dig.cons HB3.out.2 (Dig.nil _)),?_,?_,cU hg (eH _ _ _ _)⟩
    ·obtain ⟨h1,ex⟩:=List.getElem?_eq_some_iff.1 hx
     have hyd:(ys.drop o)[k]?=some y:=by rw [List.getElem?_drop];exact hy
     obtain ⟨h2,ey⟩:=List.getElem?_eq_some_iff.1 hyd
     rw [cM,aF _ _ _ h1,aF _ _ _ h2,ex,ey,hzl,Nat.pow_succ]
     generalize aD^k=P at *
     generalize aD=V at *
     grind
    ·rw [← gZ hzl (by omega)]
     exact hblk.set_ _ _
   case measure=>simp [intOf];omega
  ·obtain rfl:k=n':=by omega
   have HE:=aH (aI hblk (aI hval (aI hzl (aI hzd hcv))))
   clear hblk hval hzl hzd hcv
   go_wp2
   go_ret
   refine ⟨zs,cv,rfl,HE.out.2.2.1,HE.out.2.2.2.1,HE.out.2.2.2.2,?_,HE.out.1,hg⟩
   have:=HE.out.2.1
   rwa [List.take_of_length_le (l:=xs) (by rw [HX.out.1.len];omega)] at this
def MulInv (xs ys zs:List Nat) (k:Nat):Prop :=
 Dig aD zs∧zs.length=xs.length+ys.length∧val aD (zs.take (k+xs.length))=val aD xs*val aD (ys.take k)
theorem MulInv.start (xs ys:List Nat):MulInv xs ys (List.replicate (xs.length+ys.length) 0) 0:=by
 refine ⟨Dig.replicate bF _,by simp,?_⟩
 rw [List.take_replicate,lI]
 simp [val]
theorem put_take {ys zs:List Nat} {o:Nat} (h:o+zs.length≤ys.length):val aD ((put ys o zs).take (o+zs.length))=val aD (ys.take o)+aD^o*val aD zs:=by
 have e:(put ys o zs).take (o+zs.length)=ys.take o++zs:=by
  unfold put
  rw [← List.append_assoc,List.take_append_of_le_length (by simp;omega),List.take_of_length_le (by simp;omega)]
 rw [e,fN,List.length_take,Nat.min_eq_left (by omega)]
theorem sE {ys zs:List Nat} {o:Nat} (hy:Dig aD ys) (hz:Dig aD zs):Dig aD (put ys o zs):=(hy.take _).app (hz.app (hy.drop _))
theorem take_window (zs:List Nat) (o n:Nat) (h:o+n≤zs.length):val aD (zs.take (o+n))=val aD (zs.take o)+aD^o*val aD ((zs.drop o).take n):=by
 rw [List.take_add,fN,List.length_take,Nat.min_eq_left (by omega)]
theorem MulInv.step {xs ys zs ws:List Nat} {k m cy:Nat} (h:MulInv xs ys zs k) (hm:ys[k]?=some m) (hw:ws.length=xs.length) (hwd:Dig aD ws) (hcy:cy<aD)
 (hv:val aD ws+aD^xs.length*cy=val aD ((zs.drop k).take xs.length)+m*val aD xs):MulInv xs ys ((put zs k ws).set (k+xs.length) cy) (k+1):=by
 obtain ⟨h1,h2,h3⟩:=h
 obtain ⟨hk,em⟩:=List.getElem?_eq_some_iff.1 hm
 have hl:(put zs k ws).length=zs.length:=cV (by omega)
 refine ⟨(sE h1 hwd).set hcy,by rw [List.length_set,hl,h2],?_⟩
 rw [show k+1+xs.length=k+xs.length+1 from by omega,aF _ _ _ (by rw [List.length_set,hl];omega),List.take_set_of_le (aR _),List.getElem_set_self,
  show k+xs.length=k+ws.length from by omega,put_take (by omega),aF _ _ _ hk,em]
 rw [take_window zs k _ (by omega)] at h3
 rw [hw,Nat.pow_add]
 generalize aD^k=P at *
 generalize aD^xs.length=R at *
 grind
theorem MulInv.finish {xs ys zs:List Nat} (h:MulInv xs ys zs ys.length):val aD zs=val aD xs*val aD ys:=by
 obtain ⟨_,h2,h3⟩:=h
 rwa [List.take_of_length_le (by omega),List.take_of_length_le (aR _)] at h3
theorem times_any (A:Option Addr) (n c:Nat) (xs:List Nat) (A' : Option Addr) (n' c' : Nat) (ys:List Nat) (w:World) (h:Rd w A n c xs) (h' : Rd w A' n' c' ys)
 (hd:Dig aD xs) (hd' : Dig aD ys) (hn:n≤2199023255552) (hn' : n'≤2199023255552) :
 Calls Tryz.prog 145 #[.slice A n c,.slice A' n' c'] w (GivesNt w (val aD xs*val aD ys)):=by
 have HX:=aH (aI h hd)
 have HY:=aH (aI h' hd')
 have hnc:n≤c:=h.cap
 have hcm:c≤9223372036854775807:=h.2.2.1
 have hnc' : n'≤c':=h'.cap
 have hcm' : c'≤9223372036854775807:=h'.2.2.1
 obtain ⟨i0,hi,hz0,hz1,hz2⟩:=info_parts eK
 have HI:=aH (aI hi (aI hz0 (aI hz1 hz2)))
 clear h h' hd hd' hi hz0 hz1 hz2
 go_enter Tryz.func145,Tryz.ntmps145
 go_wp2_with (at_make;refine wpList_make_full _ rfl _ _ 100 rfl w.heap.size 151 i0 (.int .u64 0) 1 Tryz.underlying100 HI.out.1 HI.out.2.1 HI.out.2.2.1 _ _ _ _ (n+n') rfl rfl ?b0 ?b1 ?b2 ?b3 (aR _) ?_)
 case b0=>omega
 case b1=>omega
 case b2=>rw [HI.out.2.2.2];omega
 case b3=>show n+n'≤9223372036854775807;omega
 intro w1 hown hg1
 have hb1:Below w.heap.size w w1:=(aB _ _).grown hg1 (aR _) (fun k h=>by cases h)
 have hblk:=dR hown
 have e0:MulInv xs ys (List.replicate (n+n') 0) 0:=by
  have:=MulInv.start xs ys
  rwa [HX.out.1.len,HY.out.1.len] at this
 have HB:=aH hblk
 have H0:=aH e0
 clear hown hg1 hblk e0
 obtain ⟨g,hg⟩:∃ g,g=w.heap.size:=⟨_,rfl⟩
 rw [← hg] at HB ⊢
 have HG:=aH hg
 clear hg
 go_wp2
 go_loopw [16] (fun i wr => ∃ (k:Nat) (zs:List Nat),k≤n'∧i = .int .i64 (k:Int)∧MulInv xs ys zs k∧Blk wr g 151 zs∧Below w.heap.size w wr) (fun i _=>n'-(intOf i).toNat)
 case atStart=>exact ⟨0,_,Nat.zero_le _,rfl,H0.out,HB.out,hb1⟩
 case round =>
  obtain ⟨k,zs,hk,rfl,hinv,hblk,hb⟩:=hrel
  have hzn:zs.length=n+n':=by rw [hinv.2.1,HX.out.1.len,HY.out.1.len]
  have HV:=aH hinv
  by_cases hlt:k<n'
  ·obtain ⟨ad',y,hA',_,hy,hcy⟩:=(HY.out.1.below hb).at_ (k:=k) hlt
   subst hA'
   have hncap:¬ n+n'=k:=by omega
   have hadd:=aH (iO g k n (n+n'-k) 151 zs A n c xs y wr hblk hinv.1 (by omega) (aR _) (by omega) (by omega) (HX.out.1.below hb) HX.out.2 (HX.out.1.away (by rw [HG.out];exact aR _)) (HY.out.2.at_ hy))
   have HE:=aH (aI hy hzn)
   clear hy hblk hinv hzn
   go_wp2_with fail
   refine (hadd.out).mono ?_
   rintro e w2 ⟨ws,cy,rfl,hwl,hwd,hcyb,hwv,hblk2,hg2⟩
   have hb2:Below w.heap.size w w2:=hb.grown hg2 hb.size (fun k h=>by injection h with h;rw [← h,HG.out];exact aR _)
   have hzn:=HE.out.2
   obtain ⟨z,hcz⟩:∃ z:Int,w2.cell? ⟨g,k+n,none⟩=some (.int .u64 z):=⟨_,hblk2.cell_get (by rw [cV (by omega)];omega)⟩
   have hfz:=hblk2.frozen (k+n)
   have HE2:=aH (aI hwl (aI hwd (aI hcyb (aI hwv hblk2))))
   clear hwl hwd hcyb hwv hblk2 hzn hcy hadd hb
   go_wp2
   go_roundw
   case rel =>
    obtain ⟨hwl,hwd,hcyb,hwv,hblk2⟩:=HE2.out
    have hs:=HV.out.step HE.out.1 (by rw [hwl,HX.out.1.len]) hwd hcyb (by rw [HX.out.1.len];exact hwv)
    rw [HX.out.1.len] at hs
    exact ⟨k+1,(put zs k ws).set (k+n) cy,by omega,by go_num,hs,hblk2.set_ _ _,hb2.setCell (by rw [HG.out];exact aR _) _⟩
   case measure=>simp [intOf];omega
  ·obtain rfl:k=n':=by omega
   have hrd:=hblk.rd (by rw [hzn];show n+k≤9223372036854775807;omega)
   rw [hzn] at hrd
   have hfin:=hinv
   rw [← HY.out.1.len] at hfin
   have HF:=aH (aI hinv.1 (aI hfin.finish hrd))
   clear hinv hblk hzn hrd hfin hlt
   go_wp2_with (go_at_call 212;refine (eA _ _ _ zs _ HF.out.2.2 HF.out.1).mono ?_;rintro e w' ⟨⟨v,rfl,hv⟩,rfl⟩)
   go_ret
   exact ⟨v,rfl,by rw [← HF.out.2.1];exact hv,hb⟩
end
namespace Pl
theorem guess_le {u v u3 v2 ul vl M t B:Nat} (hu:u=u3*M+ul) (hv:v=v2*M+vl) (hvl:vl<M) (ht:t*v2≤u3) (htB:t≤B) (hv2:B≤v2):t≤u/v+1:=by
 have hM:0<M:=by omega
 have hBM:B*M≤v2*M:=Nat.mul_le_mul_right _ hv2
 rcases Nat.eq_zero_or_pos t with rfl|ht0
 ·exact Nat.zero_le _
 have hB0:0<B:=by omega
 have hvp:0<v:=by
  have:0<v2*M:=Nat.mul_pos (by omega) hM
  omega
 have h1:(t-1)*v≤u:=by
  have e:t*v=t*v2*M+t*vl:=by rw [hv];grind
  have e1:t*v2*M≤u3*M:=Nat.mul_le_mul_right _ ht
  have e2:t*vl≤B*M:=Nat.mul_le_mul htB (Nat.le_of_lt hvl)
  have e3:(t-1)*v=t*v-v:=by rw [Nat.sub_mul,Nat.one_mul]
  omega
 have:=(Nat.le_div_iff_mul_le hvp).2 h1
 omega
theorem oG {u v u2 v1 ul vl M:Nat} (hu:u=u2*M+ul) (hv:v=v1*M+vl) (hul:ul<M) (hv1:0<v1):u/v≤u2/v1:=by
 have hM:0<M:=by omega
 have hv0:0<v:=by
  have:0<v1*M:=Nat.mul_pos hv1 hM
  omega
 rw [Nat.le_div_iff_mul_le hv1]
 have h:=Nat.div_mul_le_self u v
 have h1:u/v*v=u/v*v1*M+u/v*vl:=by rw [hv];grind
 have h2:u/v*v1*M<(u2+1)*M:=by rw [Nat.add_mul,Nat.one_mul];omega
 have:=Nat.lt_of_mul_lt_mul_right h2
 omega
theorem guess_top {u v v1 ul vl M B:Nat} (hu:v1*B*M≤u) (hv:v=v1*M+vl) (hvl:vl<M) (hb:B≤2*v1) (_hul:0≤ul):B-1≤u/v+1:=by
 have hM:0<M:=by omega
 rcases Nat.lt_or_ge B 2 with h|h
 ·exact Nat.le_trans (by omega:B-1≤1) (Nat.le_add_left 1 _)
 have hv0:0<v:=by
  have:0<v1*M:=Nat.mul_pos (by omega) hM
  omega
 have h1:(B-2)*v≤u:=by
  obtain ⟨c,rfl⟩:=Nat.exists_eq_add_of_le h
  have e : (2 + c - 2) * v = c * v1 * M + c * vl := by rw [hv];have:2+c-2=c:=by omega
                                                       rw [this];grind
  have e2:c*vl≤2*v1*M:=Nat.mul_le_mul (by omega) (Nat.le_of_lt hvl)
  have e3:v1*(2+c)*M=2*v1*M+c*v1*M:=by grind
  omega
 have:=(Nat.le_div_iff_mul_le hv0).2 h1
 omega
theorem take_ok {u v ul T h t x bor:Nat} (hu:u=ul+T*h) (hx:x+t*v=ul+T*bor) (hxT:x<T) (hvT:v≤T) (h0:u/v≤t) (h1:t≤u/v+1) (hv:0<v) :
 (bor≤h→t=u/v∧x=u%v∧bor=h)∧(h<bor→t=u/v+1∧u%v+T=x+v):=by
 have hdm:=Nat.div_add_mod u v
 have hm:=Nat.mod_lt u hv
 generalize u/v=q at *
 generalize u%v=r at *
 have hq:v*q=q*v:=Nat.mul_comm _ _
 constructor
 ·intro hb
  have e:t=q:=by
   rcases Nat.lt_or_ge q t with hlt|hge
   ·exfalso
    have:t=q+1:=by omega
    subst this
    have e1:(q+1)*v=q*v+v:=by grind
    have e2:T*bor≤T*h:=Nat.mul_le_mul_left _ hb
    omega
   ·omega
  subst e
  have e2:T*bor≤T*h:=Nat.mul_le_mul_left _ hb
  rcases Nat.lt_or_ge bor h with hlt|hge
  ·exfalso
   have e3:T*(bor+1)≤T*h:=Nat.mul_le_mul_left _ hlt
   rw [Nat.mul_add,Nat.mul_one] at e3
   omega
  ·have:bor=h:=by omega
   subst this
   exact ⟨rfl,by omega,rfl⟩
 ·intro hb
  have e3:T*(h+1)≤T*bor:=Nat.mul_le_mul_left _ hb
  rw [Nat.mul_add,Nat.mul_one] at e3
  have e:t=q+1:=by
   rcases Nat.lt_or_ge q t with hlt|hge
   ·omega
   ·exfalso
    have:t=q:=by omega
    subst this
    omega
  subst e
  have e1:(q+1)*v=q*v+v:=by grind
  have:bor=h+1:=by
   rcases Nat.lt_or_ge (h+1) bor with hlt|hge
   ·exfalso
    have e4:T*(h+2)≤T*bor:=Nat.mul_le_mul_left _ hlt
    rw [Nat.mul_add] at e4
    omega
   ·omega
  subst this
  rw [Nat.mul_add,Nat.mul_one] at hx
  exact ⟨rfl,by omega⟩
structure Half (U u1 Y v1 v0 Q:Nat):Prop where
 hY:Y=v1*4294967296+v0
 hv0:v0<4294967296
 hv1:2147483648≤v1
 hv1' : v1<4294967296
 hU:U<Y
 hu1:u1<4294967296
 hQ:Q=(U*4294967296+u1)/Y
section
variable {U u1 Y v1 v0 Q:Nat}
theorem Half.q_lt (h:Half U u1 Y v1 v0 Q):Q<4294967296:=by
 have h1:=h.hU
 have h2:=h.hu1
 rw [h.hQ,Nat.div_lt_iff_lt_mul (by omega)]
 omega
theorem Half.le_guess (h:Half U u1 Y v1 v0 Q):Q≤U/v1:=by
 have h1:=h.hv1
 rw [h.hQ]
 exact oG rfl h.hY h.hu1 (by omega)
theorem Half.guess_le (h:Half U u1 Y v1 v0 Q):U/v1≤4294967297:=by
 have h1:=h.hv1
 have h2:=h.hU
 have h3:=h.hv0
 have h4:=h.hY
 have:U/v1<4294967298:=by
  rw [Nat.div_lt_iff_lt_mul (by omega)]
  omega
 omega
theorem Half.le_iff (h:Half U u1 Y v1 v0 Q) {a b:Nat} (hab:a*v1+b=U):a≤Q↔a*v0≤4294967296*b+u1:=by
 have h1:=h.hv1
 have h2:=h.hY
 rw [h.hQ,Nat.le_div_iff_mul_le (by omega)]
 have e:a*Y=a*v1*4294967296+a*v0:=by rw [h2];grind
 rw [e]
 omega
theorem Half.done (h:Half U u1 Y v1 v0 Q) {a b:Nat} (hab:a*v1+b=U) (hq:Q≤a) (ha:a≤4294967296) (hb:4294967296≤b):a=Q:=by
 have h1:=h.hv0
 have:a*v0≤4294967296*4294967296:=Nat.mul_le_mul ha (by omega)
 have:=(h.le_iff hab).2 (by omega)
 omega
theorem Half.rest (h:Half U u1 Y v1 v0 Q):∃ R,R<Y∧U*4294967296+u1=Q*Y+R:=by
 have h1:=h.hv1
 have h2:=h.hY
 refine ⟨(U*4294967296+u1)%Y,Nat.mod_lt _ (by omega),?_⟩
 rw [h.hQ,Nat.mul_comm _ Y,Nat.div_add_mod]
end
theorem halves {N y s U u1 u0 Y Q R Q0 R0:Nat} (hN:N*2^s=(U*4294967296+u1)*4294967296+u0) (hY:Y=y*2^s) (h1:U*4294967296+u1=Q*Y+R) (h0:R*4294967296+u0=Q0*Y+R0) (hR:R0<Y) :
 Q*4294967296+Q0=N/y∧R0/2^s=N%y:=by
 have hp:0<2^s:=Nat.pow_pos (by omega)
 have e:N*2^s=(Q*4294967296+Q0)*Y+R0:=by rw [hN,h1];grind
 have e1:N*2^s/Y=Q*4294967296+Q0:=by
  rw [e,Nat.add_comm,Nat.add_mul_div_right _ _ (by omega),Nat.div_eq_of_lt hR]
  omega
 have e2:N*2^s%Y=R0:=by
  rw [e,Nat.mul_comm _ Y,Nat.mul_add_mod,Nat.mod_eq_of_lt hR]
 constructor
 ·rw [← e1,hY,Nat.mul_div_mul_right _ _ hp]
 ·rw [← e2,hY,Nat.mul_mod_mul_right,Nat.mul_div_cancel _ hp]
end Pl
section
open Go.RowKit Pl
theorem vR (a b:Nat) (ha:a<18446744073709551616) (hb:b<18446744073709551616):bits .or .u64 (a:Int) (b:Int)=((a ||| b:Nat):Int):=by
 have hx:a ||| b<2^64:=Nat.or_lt_two_pow (by omega) (by omega)
 have h1:(BitVec.ofInt 64 (a:Int)).toNat=a:=by
  rw [BitVec.ofInt_natCast,BitVec.toNat_ofNat];exact Nat.mod_eq_of_lt (by omega)
 have h2:(BitVec.ofInt 64 (b:Int)).toNat=b:=by
  rw [BitVec.ofInt_natCast,BitVec.toNat_ofNat];exact Nat.mod_eq_of_lt (by omega)
 show IntKind.u64.wrap ((BitVec.ofInt 64 (a:Int) ||| BitVec.ofInt 64 (b:Int)).toNat:Int)=_
 rw [BitVec.toNat_or,h1,h2,IntKind.wrap_u64]
 omega
theorem bits_and_nat (a b:Nat) (ha:a<18446744073709551616) (hb:b<18446744073709551616):bits .and .u64 (a:Int) (b:Int)=((a &&& b:Nat):Int):=by
 have hx:a &&& b<2^64:=Nat.and_lt_two_pow _ (by omega)
 have h1:(BitVec.ofInt 64 (a:Int)).toNat=a:=by
  rw [BitVec.ofInt_natCast,BitVec.toNat_ofNat];exact Nat.mod_eq_of_lt (by omega)
 have h2:(BitVec.ofInt 64 (b:Int)).toNat=b:=by
  rw [BitVec.ofInt_natCast,BitVec.toNat_ofNat];exact Nat.mod_eq_of_lt (by omega)
 show IntKind.u64.wrap ((BitVec.ofInt 64 (a:Int) &&& BitVec.ofInt 64 (b:Int)).toNat:Int)=_
 rw [BitVec.toNat_and,h1,h2,IntKind.wrap_u64]
 omega
theorem and_half (a:Nat) (ha:a<18446744073709551616):bits .and .u64 (a:Int) 4294967295=((a%4294967296:Nat):Int):=by
 have:=bits_and_nat a 4294967295 ha (by omega)
 rw [show ((4294967295:Nat):Int)=4294967295 from rfl] at this
 rw [this,show (4294967295:Nat)=2^32-1 from rfl,Nat.and_two_pow_sub_one_eq_mod]
theorem yC (a b s:Nat) (hb:b<2^s) (h:a*2^s+b<18446744073709551616):bits .or .u64 ((a*2^s:Nat):Int) (b:Int)=((a*2^s+b:Nat):Int):=by
 rw [vR _ _ (by omega) (by omega),Nat.mul_comm,Nat.two_pow_add_eq_or_of_lt hb]
theorem lS (a:Nat) (ha:a<18446744073709551616):IntKind.u64.wrap (a:Int)=(a:Int):=by rw [IntKind.wrap_u64];omega
theorem fH (a:Nat):IntKind.u64.wrap (a:Int)=((a%18446744073709551616:Nat):Int):=by rw [IntKind.wrap_u64];omega
end
section
open Pl
theorem iA {s:Nat} (hs:s≤64):aD=2^(64-s)*2^s:=by
 rw [← Nat.pow_add,show 64-s+s=64 from by omega,aL]
theorem uD {x s:Nat} (hs:s≤64):x*2^s%aD=x%2^(64-s)*2^s∧x*2^s%aD+aD*(x/2^(64-s))=x*2^s:=by
 have e:x*2^s%aD=x%2^(64-s)*2^s:=by rw [iA hs,Nat.mul_mod_mul_right]
 refine ⟨e,?_⟩
 rw [e,iA hs]
 have:=Nat.div_add_mod x (2^(64-s))
 generalize x/2^(64-s)=q at *
 generalize x%2^(64-s)=r at *
 generalize 2^(64-s)=P at *
 subst this
 grind
theorem hi_lt {x s:Nat} (hs:s≤64) (hx:x<aD):x/2^(64-s)<2^s:=by
 rw [Nat.div_lt_iff_lt_mul (Nat.pow_pos (by omega)),Nat.mul_comm,← iA hs]
 exact hx
def UpInv (xs zs:List Nat) (s k:Nat):Prop :=
 Dig aD zs∧zs.length=xs.length+1∧val aD (zs.take (k+1))=val aD (xs.take k)*2^s∧zs.getD k 0<2^s
theorem UpInv.start (xs:List Nat) (s:Nat):UpInv xs (List.replicate (xs.length+1) 0) s 0:=by
 refine ⟨Dig.replicate bF _,by simp,?_,?_⟩
 ·rw [List.take_replicate,lI];simp [val]
 ·rw [List.getD,List.getElem?_replicate]
  split <;> exact Nat.pow_pos (by omega)
theorem UpInv.step {xs zs:List Nat} {s k x c:Nat} (h:UpInv xs zs s k) (hs:s≤63) (hx:xs[k]?=some x) (hd:Dig aD xs) (hc:zs[k]?=some c) :
 UpInv xs ((zs.set k (x*2^s%aD+c)).set (k+1) (x/2^(64-s))) s (k+1)∧c<2^s∧x%2^(64-s)*2^s+c<aD∧x/2^(64-s)<aD:=by
 obtain ⟨h1,h2,h3,h4⟩:=h
 obtain ⟨hk,ex⟩:=List.getElem?_eq_some_iff.1 hx
 obtain ⟨hkz,ez⟩:=List.getElem?_eq_some_iff.1 hc
 have hcl:c<2^s:=by rw [List.getD,hc] at h4;exact h4
 have hxl:=hd.at_ hx
 obtain ⟨p1,p2⟩:=uD (x:=x) (s:=s) (by omega)
 have hlow:x%2^(64-s)*2^s+c<aD:=by
  have hm:x%2^(64-s)<2^(64-s):=Nat.mod_lt _ (Nat.pow_pos (by omega))
  have:(x%2^(64-s)+1)*2^s≤2^(64-s)*2^s:=Nat.mul_le_mul_right _ hm
  rw [← iA (by omega),Nat.add_mul,Nat.one_mul] at this
  omega
 have hhi:x/2^(64-s)<aD:=Nat.lt_of_le_of_lt (Nat.div_le_self _ _) hxl
 have hh2:=hi_lt (s:=s) (by omega) hxl
 refine ⟨⟨(h1.set (by rw [p1];exact hlow)).set hhi,by simp [h2],?_,?_⟩,hcl,hlow,hhi⟩
 ·rw [aF _ _ _ (by simp;omega),List.take_set_of_le (aR _),List.getElem_set_self,aF _ _ _ (by simp;omega),List.take_set_of_le (aR _),List.getElem_set_self,
   aF _ _ _ hk,ex]
  rw [aF _ _ _ hkz,ez] at h3
  rw [Nat.pow_succ,Nat.add_mul]
  generalize aD^k=P at *
  generalize 2^s=S at *
  have e:x*S=x*S%aD+aD*(x/2^(64-s)):=p2.symm
  generalize x*S%aD=lo at *
  generalize x/2^(64-s)=hi at *
  generalize aD=V at *
  have:P*x*S=P*(x*S):=by grind
  rw [this,e]
  grind
 ·rw [List.getD,List.getElem?_set_self (by simp;omega)]
  exact hh2
theorem UpInv.finish {xs zs:List Nat} {s:Nat} (h:UpInv xs zs s xs.length):val aD zs=val aD xs*2^s:=by
 obtain ⟨_,h2,h3,_⟩:=h
 rwa [List.take_of_length_le (by omega),List.take_of_length_le (aR _)] at h3
def DownInv (xs zs:List Nat) (s k:Nat):Prop :=
 Dig aD zs∧zs.length=xs.length∧val aD (zs.take k)=val aD (xs.take k)/2^s∧(0<k→zs.getD (k-1) 0<2^(64-s))
theorem DownInv.start (xs:List Nat) (s:Nat):DownInv xs (List.replicate xs.length 0) s 0 :=
 ⟨Dig.replicate bF _,by simp,by simp [val],fun h=>absurd h (by omega)⟩
theorem down_lt {x s:Nat} (hs:s≤63) (hx:x<aD):x/2^s<2^(64-s):=by
 rw [Nat.div_lt_iff_lt_mul (Nat.pow_pos (by omega)),← iA (by omega)]
 exact hx
theorem DownInv.first {xs zs:List Nat} {s x:Nat} (h:DownInv xs zs s 0) (hs:s≤63) (hx:xs[0]?=some x) (hd:Dig aD xs):DownInv xs (zs.set 0 (x/2^s)) s 1:=by
 obtain ⟨h1,h2,_,_⟩:=h
 obtain ⟨hk,ex⟩:=List.getElem?_eq_some_iff.1 hx
 have hxl:=hd.at_ hx
 refine ⟨h1.set (Nat.lt_of_le_of_lt (Nat.div_le_self _ _) hxl),by simp [h2],?_,fun _=>?_⟩
 ·rw [aF _ _ _ (by simp;omega),aF _ _ _ hk,ex]
  simp [val]
 ·rw [List.getD,List.getElem?_set_self (by omega)]
  exact down_lt hs hxl
theorem DownInv.step {xs zs:List Nat} {s k x c:Nat} (h:DownInv xs zs s (k+1)) (hs:s≤63) (hx:xs[k+1]?=some x) (hd:Dig aD xs) (hc:zs[k]?=some c) :
 DownInv xs ((zs.set (k+1) (x/2^s)).set k (c+x*2^(64-s)%aD)) s (k+2)∧c<2^(64-s)∧x%2^s*2^(64-s)+c<aD:=by
 obtain ⟨h1,h2,h3,h4⟩:=h
 obtain ⟨hk,ex⟩:=List.getElem?_eq_some_iff.1 hx
 obtain ⟨hkz,ez⟩:=List.getElem?_eq_some_iff.1 hc
 have hcl:c<2^(64-s):=by have:=h4 (by omega);rw [show k+1-1=k from by omega,List.getD,hc] at this;exact this
 have hxl:=hd.at_ hx
 have hW:aD=2^s*2^(64-s):=by rw [Nat.mul_comm];exact iA (by omega)
 have p1:x*2^(64-s)%aD=x%2^s*2^(64-s):=by rw [hW,Nat.mul_mod_mul_right]
 have hlow:x%2^s*2^(64-s)+c<aD:=by
  have hm:x%2^s<2^s:=Nat.mod_lt _ (Nat.pow_pos (by omega))
  have:(x%2^s+1)*2^(64-s)≤2^s*2^(64-s):=Nat.mul_le_mul_right _ hm
  rw [← hW,Nat.add_mul,Nat.one_mul] at this
  omega
 refine ⟨⟨(h1.set (Nat.lt_of_le_of_lt (Nat.div_le_self _ _) hxl)).set (by rw [p1];omega),by simp [h2],?_,fun _=>?_⟩,hcl,hlow⟩
 ·rw [aF _ _ _ (by simp;omega),List.getElem_set_ne (by omega),List.getElem_set_self,aF _ _ _ (by simp;omega),List.take_set_of_le (aR _),List.take_set_of_le (by omega),List.getElem_set_self,
   aF _ _ _ hk,ex,p1]
  rw [aF _ _ _ hkz,ez] at h3
  have hS:0<2^s:=Nat.pow_pos (by omega)
  have hx2:=Nat.div_add_mod x (2^s)
  have e:aD^(k+1)*x=2^s*(aD^k*(x%2^s*2^(64-s)+aD*(x/2^s))):=by
   rw [Nat.pow_succ]
   generalize x/2^s=q at *
   generalize x%2^s=r at *
   rw [← hx2,hW]
   generalize 2^(64-s)=T at *
   generalize 2^s=S at *
   generalize (S*T)^k=P at *
   grind
  rw [e,Nat.add_mul_div_left _ _ hS,← h3,Nat.pow_succ]
  generalize aD^k=P at *
  generalize aD=V at *
  grind
 ·rw [show k+2-1=k+1 from by omega,List.getD,List.getElem?_set_ne (by omega),List.getElem?_set_self (by omega)]
  exact down_lt hs hxl
end
section
open Go.RowKit Pl
set_option maxRecDepth 100000 in
theorem div64_core (hi lo y s Y H U L u1 u0 v1 v0 q p r Q R Q0 R0 A A2 B q' p' r' C C2 D D2 E F:Nat) (w:World) (h1:0<hi) (h2:hi<y) (h3:y≤18446744073709551615) (_h4:lo≤18446744073709551615)
 (hs:Hid ((64:Int)-Lib.bitLen y=s)) (hs' : s≤63)
 (e1:IntKind.u64.wrap ((y:Int)*2^s)=(Y:Int)) (e2:(Y:Int)/4294967296=(v1:Int)) (e3:bits .and .u64 (Y:Int) 4294967295=(v0:Int))
 (e4:IntKind.u64.wrap ((hi:Int)*2^s)=(H:Int)) (e5:bits .or .u64 (H:Int) ((lo:Int)/2^(64-s))=(U:Int)) (e6:IntKind.u64.wrap ((lo:Int)*2^s)=(L:Int))
 (e7:(L:Int)/4294967296=(u1:Int)) (e8:bits .and .u64 (L:Int) 4294967295=(u0:Int)) (e9:(U:Int).tdiv v1=q) (e9' : (U:Int)/v1=q) (e10:(q:Int)*v1=p) (e11:(U:Int)-p=r)
 (hh:Hid (Half U u1 Y v1 v0 Q∧Half R u0 Y v1 v0 Q0∧q*v1+r=U∧q=U/v1∧q'*v1+r'=R∧q'=R/v1∧r<4294967296∧r'<4294967296))
 (k1:IntKind.u64.wrap ((U:Int)*4294967296)=A) (k2:IntKind.u64.wrap ((A:Int)+u1)=A2) (k3:IntKind.u64.wrap ((Q:Int)*Y)=B) (k4:IntKind.u64.wrap ((A2:Int)-B)=R)
 (k5:(R:Int).tdiv v1=q') (k5' : (R:Int)/v1=q') (k6:(q' : Int)*v1=p') (k7:(R:Int)-p'=r')
 (k8:IntKind.u64.wrap ((Q:Int)*4294967296)=C) (k9:IntKind.u64.wrap ((C:Int)+Q0)=C2) (k10:IntKind.u64.wrap ((R:Int)*4294967296)=D) (k11:IntKind.u64.wrap ((D:Int)+u0)=D2)
 (k12:IntKind.u64.wrap ((Q0:Int)*Y)=E) (k13:IntKind.u64.wrap ((D2:Int)-E)=R0) (k14:(R0:Int)/2^s=F)
 (b1:0<v1) (b2:v1≤4294967295) (b3:U≤18446744073709551615) (b4:R≤18446744073709551615) (b5:u1≤4294967295) (b6:u0≤4294967295) (b7:v0≤4294967295) (b8:q≤4294967297) (b9:q'≤4294967297) (_b10:p≤U) (_b11:p'≤R) (b12:Q≤4294967295) (b13:Q0≤4294967295) :
 Calls Tryz.prog 241 #[.int .u64 (hi:Int),.int .u64 (lo:Int),.int .u64 (y:Int)] w fun e w'=>Hid (e = .returned (.tuple #[.int .u64 (C2:Int),.int .u64 (F:Int)]))∧∃ k,w'=w.drewN k:=by
 have cl:=aH (Tryz.bits_LeadingZeros64 (y:Int) w (by omega) (by omega))
 have t1:((y:Int)==0)=false:=by simp;omega
 have t2:¬ ((y:Int)≤hi):=by omega
 have t3:((hi:Int)==0)=false:=by simp;omega
 go_enter Tryz.func241,Tryz.ntmps241
 go_wp2_with (go_at_call 238;refine (cl.out).mono ?_;rintro e w' ⟨rfl,hw⟩;rw [hw];rw [Int.toNat_natCast,hs.out])
 go_loop [15,16] (fun sa sb => ∃ a b:Nat,sa = .int .u64 (a:Int)∧sb = .int .u64 (b:Int)∧Hid (a*v1+b=U)∧Q≤a∧a≤4294967297∧b≤4294967295) (fun sa _=>(intOf sa).toNat)
 case atStart =>
  have hf:=hh.out.1
  refine ⟨q,r,rfl,rfl,hh.out.2.2.1,?_,by omega,?_⟩
  ·have:=hf.le_guess
   have e:=hh.out.2.2.2.1
   omega
  ·have:=hh.out.2.2.2.2.2.2
   omega
 case round =>
  obtain ⟨a,b,rfl,rfl,hab,ha1,ha2,hb1⟩:=hrel
  obtain ⟨m,hm⟩:∃ m:Nat,(a:Int)*v0=m:=⟨a*v0,by simp⟩
  have hiff:Hid (a≤Q↔m≤4294967296*b+u1):=by
   have:=(hh.out.1).le_iff hab.out
   have e:m=a*v0:=by have:=hm;rw [← Int.natCast_mul] at this;omega
   rw [e];exact this
  have hm2:a≤4294967295→m≤18446744073709551615:=by
   intro h
   have e:m=a*v0:=by have:=hm;rw [← Int.natCast_mul] at this;omega
   have:a*v0≤4294967295*4294967295:=Nat.mul_le_mul h b7
   omega
  by_cases hex:a≤4294967295∧m≤4294967296*b+u1
  ·obtain ⟨hx1,hx2⟩:=hex
   have hm3:=hm2 hx1
   obtain rfl:a=Q:=by have:=hiff.out.2 hx2;omega
   have hx2' : ¬ (4294967296*(b:Int)+u1<(m:Int)):=by omega
   have hx1' : ¬ (4294967296:Int)≤(a:Int):=by omega
   clear hm2 hiff hab hx2 hx1 ha1 ha2
   go_wp2
   go_loop [18,16] (fun sa sb => ∃ a b:Nat,sa = .int .u64 (a:Int)∧sb = .int .u64 (b:Int)∧Hid (a*v1+b=R)∧Q0≤a∧a≤4294967297∧b≤4294967295) (fun sa _=>(intOf sa).toNat)
   case atStart =>
    have hf:=hh.out.2.1
    refine ⟨q',r',rfl,rfl,hh.out.2.2.2.2.1,?_,by omega,?_⟩
    ·have:=hf.le_guess
     have e:=hh.out.2.2.2.2.2.1
     omega
    ·have:=hh.out.2.2.2.2.2.2
     omega
   case round =>
    obtain ⟨a,b,rfl,rfl,hab,ha1,ha2,hb1⟩:=hrel
    obtain ⟨m,hm⟩:∃ m:Nat,(a:Int)*v0=m:=⟨a*v0,by simp⟩
    have hiff:Hid (a≤Q0↔m≤4294967296*b+u0):=by
     have:=(hh.out.2.1).le_iff hab.out
     have e:m=a*v0:=by have:=hm;rw [← Int.natCast_mul] at this;omega
     rw [e];exact this
    have hm2:a≤4294967295→m≤18446744073709551615:=by
     intro h
     have e:m=a*v0:=by have:=hm;rw [← Int.natCast_mul] at this;omega
     have:a*v0≤4294967295*4294967295:=Nat.mul_le_mul h b7
     omega
    by_cases hex:a≤4294967295∧m≤4294967296*b+u0
    ·obtain ⟨hx1,hx2⟩:=hex
     have hm3:=hm2 hx1
     obtain rfl:a=Q0:=by have:=hiff.out.2 hx2;omega
     have hx2' : ¬ (4294967296*(b:Int)+u0<(m:Int)):=by omega
     have hx1' : ¬ (4294967296:Int)≤(a:Int):=by omega
     clear hm2 hiff hab hx2 hx1 ha1 ha2
     go_wp2
     go_ret2
     exact ⟨rfl,0,rfl⟩
    ·have hgt:Q0+1≤a:=by
      rcases Nat.lt_or_ge Q0 a with h|h
      ·exact h
      ·exfalso
       apply hex
       exact ⟨by omega,hiff.out.1 h⟩
     obtain ⟨a,rfl⟩:∃ k,a=k+1:=⟨a-1,by omega⟩
     have hab2:Hid (a*v1+(b+v1)=R):=by
      have:=hab.out
      have e:(a+1)*v1=a*v1+v1:=by rw [Nat.add_mul,Nat.one_mul]
      unfold Hid
      omega
     simp only [Int.natCast_add,Int.natCast_one] at hm ⊢
     by_cases hbk:4294967296≤b+v1
     ·obtain rfl:a=Q0:=(hh.out.2.1).done hab2.out (by omega) (by omega) hbk
      clear hiff hab hab2
      by_cases hx:4294967296≤a+1
      ·have hx' : (4294967296:Int)≤(a:Int)+1:=by omega
       have hbk' : (4294967296:Int)≤(b:Int)+v1:=by omega
       clear hm2 hm hex hx hbk
       go_wp2
       go_ret2
       exact ⟨rfl,0,rfl⟩
      ·have hm3:=hm2 (by omega)
       have hx2:¬ (m≤4294967296*b+u0):=fun h=>hex ⟨by omega,h⟩
       have hx' : ¬ (4294967296:Int)≤(a:Int)+1:=by omega
       have hx2' : 4294967296*(b:Int)+u0<(m:Int):=by omega
       have hbk' : (4294967296:Int)≤(b:Int)+v1:=by omega
       clear hm2 hex hx hx2 hbk
       go_wp2
       go_ret2
       exact ⟨rfl,0,rfl⟩
     ·by_cases hx:4294967296≤a+1
      ·have hx' : (4294967296:Int)≤(a:Int)+1:=by omega
       have hbk' : ¬ (4294967296:Int)≤(b:Int)+v1:=by omega
       have HB:=aH hbk
       clear hm2 hm hex hiff hx hbk
       go_wp2
       go_round
       case rel=>exact ⟨a,b+v1,rfl,by go_num,hab2,by omega,by omega,by omega⟩
       case measure=>simp [intOf]
      ·have hm3:=hm2 (by omega)
       have hx2:¬ (m≤4294967296*b+u0):=fun h=>hex ⟨by omega,h⟩
       have hx' : ¬ (4294967296:Int)≤(a:Int)+1:=by omega
       have hx2' : 4294967296*(b:Int)+u0<(m:Int):=by omega
       have hbk' : ¬ (4294967296:Int)≤(b:Int)+v1:=by omega
       have HB:=aH hbk
       clear hm2 hex hiff hx hx2 hbk
       go_wp2
       go_round
       case rel=>exact ⟨a,b+v1,rfl,by go_num,hab2,by omega,by omega,by omega⟩
       case measure=>simp [intOf]
  ·have hgt:Q+1≤a:=by
    rcases Nat.lt_or_ge Q a with h|h
    ·exact h
    ·exfalso
     apply hex
     exact ⟨by omega,hiff.out.1 h⟩
   obtain ⟨a,rfl⟩:∃ k,a=k+1:=⟨a-1,by omega⟩
   have hab2:Hid (a*v1+(b+v1)=U):=by
    have:=hab.out
    have e:(a+1)*v1=a*v1+v1:=by rw [Nat.add_mul,Nat.one_mul]
    unfold Hid
    omega
   simp only [Int.natCast_add,Int.natCast_one] at hm ⊢
   by_cases hbk:4294967296≤b+v1
   ·obtain rfl:a=Q:=(hh.out.1).done hab2.out (by omega) (by omega) hbk
    clear hiff hab hab2
    by_cases hx:4294967296≤a+1
    ·have hx' : (4294967296:Int)≤(a:Int)+1:=by omega
     have hbk' : (4294967296:Int)≤(b:Int)+v1:=by omega
     clear hm2 hm hex hx hbk
     go_wp2
     go_loop [18,16] (fun sa sb => ∃ a b:Nat,sa = .int .u64 (a:Int)∧sb = .int .u64 (b:Int)∧Hid (a*v1+b=R)∧Q0≤a∧a≤4294967297∧b≤4294967295) (fun sa _=>(intOf sa).toNat)
     case atStart =>
      have hf:=hh.out.2.1
      refine ⟨q',r',rfl,rfl,hh.out.2.2.2.2.1,?_,by omega,?_⟩
      ·have:=hf.le_guess
       have e:=hh.out.2.2.2.2.2.1
       omega
      ·have:=hh.out.2.2.2.2.2.2
       omega
     case round =>
      obtain ⟨a,b,rfl,rfl,hab,ha1,ha2,hb1⟩:=hrel
      obtain ⟨m,hm⟩:∃ m:Nat,(a:Int)*v0=m:=⟨a*v0,by simp⟩
      have hiff:Hid (a≤Q0↔m≤4294967296*b+u0):=by
       have:=(hh.out.2.1).le_iff hab.out
       have e:m=a*v0:=by have:=hm;rw [← Int.natCast_mul] at this;omega
       rw [e];exact this
      have hm2:a≤4294967295→m≤18446744073709551615:=by
       intro h
       have e:m=a*v0:=by have:=hm;rw [← Int.natCast_mul] at this;omega
       have:a*v0≤4294967295*4294967295:=Nat.mul_le_mul h b7
       omega
      by_cases hex:a≤4294967295∧m≤4294967296*b+u0
      ·obtain ⟨hx1,hx2⟩:=hex
       have hm3:=hm2 hx1
       obtain rfl:a=Q0:=by have:=hiff.out.2 hx2;omega
       have hx2' : ¬ (4294967296*(b:Int)+u0<(m:Int)):=by omega
       have hx1' : ¬ (4294967296:Int)≤(a:Int):=by omega
       clear hm2 hiff hab hx2 hx1 ha1 ha2
       go_wp2
       go_ret2
       exact ⟨rfl,0,rfl⟩
      ·have hgt:Q0+1≤a:=by
        rcases Nat.lt_or_ge Q0 a with h|h
        ·exact h
        ·exfalso
         apply hex
         exact ⟨by omega,hiff.out.1 h⟩
       obtain ⟨a,rfl⟩:∃ k,a=k+1:=⟨a-1,by omega⟩
       have hab2:Hid (a*v1+(b+v1)=R):=by
        have:=hab.out
        have e:(a+1)*v1=a*v1+v1:=by rw [Nat.add_mul,Nat.one_mul]
        unfold Hid
        omega
       simp only [Int.natCast_add,Int.natCast_one] at hm ⊢
       by_cases hbk:4294967296≤b+v1
       ·obtain rfl:a=Q0:=(hh.out.2.1).done hab2.out (by omega) (by omega) hbk
        clear hiff hab hab2
        by_cases hx:4294967296≤a+1
        ·have hx' : (4294967296:Int)≤(a:Int)+1:=by omega
         have hbk' : (4294967296:Int)≤(b:Int)+v1:=by omega
         clear hm2 hm hex hx hbk
         go_wp2
         go_ret2
         exact ⟨rfl,0,rfl⟩
        ·have hm3:=hm2 (by omega)
         have hx2:¬ (m≤4294967296*b+u0):=fun h=>hex ⟨by omega,h⟩
         have hx' : ¬ (4294967296:Int)≤(a:Int)+1:=by omega
         have hx2' : 4294967296*(b:Int)+u0<(m:Int):=by omega
         have hbk' : (4294967296:Int)≤(b:Int)+v1:=by omega
         clear hm2 hex hx hx2 hbk
         go_wp2
         go_ret2
         exact ⟨rfl,0,rfl⟩
       ·by_cases hx:4294967296≤a+1
        ·have hx' : (4294967296:Int)≤(a:Int)+1:=by omega
         have hbk' : ¬ (4294967296:Int)≤(b:Int)+v1:=by omega
         have HB:=aH hbk
         clear hm2 hm hex hiff hx hbk
         go_wp2
         go_round
         case rel=>exact ⟨a,b+v1,rfl,by go_num,hab2,by omega,by omega,by omega⟩
         case measure=>simp [intOf]
        ·have hm3:=hm2 (by omega)
         have hx2:¬ (m≤4294967296*b+u0):=fun h=>hex ⟨by omega,h⟩
         have hx' : ¬ (4294967296:Int)≤(a:Int)+1:=by omega
         have hx2' : 4294967296*(b:Int)+u0<(m:Int):=by omega
         have hbk' : ¬ (4294967296:Int)≤(b:Int)+v1:=by omega
         have HB:=aH hbk
         clear hm2 hex hiff hx hx2 hbk
         go_wp2
         go_round
         case rel=>exact ⟨a,b+v1,rfl,by go_num,hab2,by omega,by omega,by omega⟩
         case measure=>simp [intOf]
    ·have hm3:=hm2 (by omega)
     have hx2:¬ (m≤4294967296*b+u1):=fun h=>hex ⟨by omega,h⟩
     have hx' : ¬ (4294967296:Int)≤(a:Int)+1:=by omega
     have hx2' : 4294967296*(b:Int)+u1<(m:Int):=by omega
     have hbk' : (4294967296:Int)≤(b:Int)+v1:=by omega
     clear hm2 hex hx hx2 hbk
     go_wp2
     go_loop [18,16] (fun sa sb => ∃ a b:Nat,sa = .int .u64 (a:Int)∧sb = .int .u64 (b:Int)∧Hid (a*v1+b=R)∧Q0≤a∧a≤4294967297∧b≤4294967295) (fun sa _=>(intOf sa).toNat)
     case atStart =>
      have hf:=hh.out.2.1
      refine ⟨q',r',rfl,rfl,hh.out.2.2.2.2.1,?_,by omega,?_⟩
      ·have:=hf.le_guess
       have e:=hh.out.2.2.2.2.2.1
       omega
      ·have:=hh.out.2.2.2.2.2.2
       omega
     case round =>
      obtain ⟨a,b,rfl,rfl,hab,ha1,ha2,hb1⟩:=hrel
      obtain ⟨m,hm⟩:∃ m:Nat,(a:Int)*v0=m:=⟨a*v0,by simp⟩
      have hiff:Hid (a≤Q0↔m≤4294967296*b+u0):=by
       have:=(hh.out.2.1).le_iff hab.out
       have e:m=a*v0:=by have:=hm;rw [← Int.natCast_mul] at this;omega
       rw [e];exact this
      have hm2:a≤4294967295→m≤18446744073709551615:=by
       intro h
       have e:m=a*v0:=by have:=hm;rw [← Int.natCast_mul] at this;omega
       have:a*v0≤4294967295*4294967295:=Nat.mul_le_mul h b7
       omega
      by_cases hex:a≤4294967295∧m≤4294967296*b+u0
      ·obtain ⟨hx1,hx2⟩:=hex
       have hm3:=hm2 hx1
       obtain rfl:a=Q0:=by have:=hiff.out.2 hx2;omega
       have hx2' : ¬ (4294967296*(b:Int)+u0<(m:Int)):=by omega
       have hx1' : ¬ (4294967296:Int)≤(a:Int):=by omega
       clear hm2 hiff hab hx2 hx1 ha1 ha2
       go_wp2
       go_ret2
       exact ⟨rfl,0,rfl⟩
      ·have hgt:Q0+1≤a:=by
        rcases Nat.lt_or_ge Q0 a with h|h
        ·exact h
        ·exfalso
         apply hex
         exact ⟨by omega,hiff.out.1 h⟩
       obtain ⟨a,rfl⟩:∃ k,a=k+1:=⟨a-1,by omega⟩
       have hab2:Hid (a*v1+(b+v1)=R):=by
        have:=hab.out
        have e:(a+1)*v1=a*v1+v1:=by rw [Nat.add_mul,Nat.one_mul]
        unfold Hid
        omega
       simp only [Int.natCast_add,Int.natCast_one] at hm ⊢
       by_cases hbk:4294967296≤b+v1
       ·obtain rfl:a=Q0:=(hh.out.2.1).done hab2.out (by omega) (by omega) hbk
        clear hiff hab hab2
        by_cases hx:4294967296≤a+1
        ·have hx' : (4294967296:Int)≤(a:Int)+1:=by omega
         have hbk' : (4294967296:Int)≤(b:Int)+v1:=by omega
         clear hm2 hm hex hx hbk
         go_wp2
         go_ret2
         exact ⟨rfl,0,rfl⟩
        ·have hm3:=hm2 (by omega)
         have hx2:¬ (m≤4294967296*b+u0):=fun h=>hex ⟨by omega,h⟩
         have hx' : ¬ (4294967296:Int)≤(a:Int)+1:=by omega
         have hx2' : 4294967296*(b:Int)+u0<(m:Int):=by omega
         have hbk' : (4294967296:Int)≤(b:Int)+v1:=by omega
         clear hm2 hex hx hx2 hbk
         go_wp2
         go_ret2
         exact ⟨rfl,0,rfl⟩
       ·by_cases hx:4294967296≤a+1
        ·have hx' : (4294967296:Int)≤(a:Int)+1:=by omega
         have hbk' : ¬ (4294967296:Int)≤(b:Int)+v1:=by omega
         have HB:=aH hbk
         clear hm2 hm hex hiff hx hbk
         go_wp2
         go_round
         case rel=>exact ⟨a,b+v1,rfl,by go_num,hab2,by omega,by omega,by omega⟩
         case measure=>simp [intOf]
        ·have hm3:=hm2 (by omega)
         have hx2:¬ (m≤4294967296*b+u0):=fun h=>hex ⟨by omega,h⟩
         have hx' : ¬ (4294967296:Int)≤(a:Int)+1:=by omega
         have hx2' : 4294967296*(b:Int)+u0<(m:Int):=by omega
         have hbk' : ¬ (4294967296:Int)≤(b:Int)+v1:=by omega
         have HB:=aH hbk
         clear hm2 hex hiff hx hx2 hbk
         go_wp2
         go_round
         case rel=>exact ⟨a,b+v1,rfl,by go_num,hab2,by omega,by omega,by omega⟩
         case measure=>simp [intOf]
   ·by_cases hx:4294967296≤a+1
    ·have hx' : (4294967296:Int)≤(a:Int)+1:=by omega
     have hbk' : ¬ (4294967296:Int)≤(b:Int)+v1:=by omega
     have HB:=aH hbk
     clear hm2 hm hex hiff hx hbk
     go_wp2
     go_round
     case rel=>exact ⟨a,b+v1,rfl,by go_num,hab2,by omega,by omega,by omega⟩
     case measure=>simp [intOf]
    ·have hm3:=hm2 (by omega)
     have hx2:¬ (m≤4294967296*b+u1):=fun h=>hex ⟨by omega,h⟩
     have hx' : ¬ (4294967296:Int)≤(a:Int)+1:=by omega
     have hx2' : 4294967296*(b:Int)+u1<(m:Int):=by omega
     have hbk' : ¬ (4294967296:Int)≤(b:Int)+v1:=by omega
     have HB:=aH hbk
     clear hm2 hex hiff hx hx2 hbk
     go_wp2
     go_round
     case rel=>exact ⟨a,b+v1,rfl,by go_num,hab2,by omega,by omega,by omega⟩
     case measure=>simp [intOf]
theorem div64_small (lo y:Nat) (w:World) (h2:0<y) (h3:y≤18446744073709551615) (h4:lo≤18446744073709551615) :
 Calls Tryz.prog 241 #[.int .u64 0,.int .u64 (lo:Int),.int .u64 (y:Int)] w fun e w'=>Hid (e = .returned (.tuple #[.int .u64 ((lo/y:Nat):Int),.int .u64 ((lo%y:Nat):Int)]))∧∃ k,w'=w.drewN k:=by
 have t1:((y:Int)==0)=false:=by simp;omega
 have t2:¬ ((y:Int)≤0):=by omega
 obtain ⟨a,ha⟩:∃ a:Nat,a=lo/y:=⟨_,rfl⟩
 obtain ⟨b,hb⟩:∃ b:Nat,b=lo%y:=⟨_,rfl⟩
 have la:a≤lo:=by rw [ha];exact Nat.div_le_self _ _
 have lb:b≤lo:=by rw [hb];exact Nat.mod_le _ _
 have e1:(lo:Int).tdiv y=a:=by rw [ha,Int.tdiv_eq_ediv_of_nonneg (by omega),Int.natCast_ediv]
 have e2:(lo:Int).tmod y=b:=by rw [hb,Int.tmod_eq_emod_of_nonneg (by omega),Int.natCast_emod]
 have e3:(lo:Int)/y=a:=by rw [ha,Int.natCast_ediv]
 have e4:(lo:Int)%y=b:=by rw [hb,Int.natCast_emod]
 rw [← ha,← hb]
 clear ha hb
 go_enter Tryz.func241,Tryz.ntmps241
 go_wp2
 go_quiet (fail)
 go_wp2
 go_ret2
 exact ⟨rfl,_,rfl⟩
theorem qX (y:Nat) (h0:0<y) (h1:y<aD):∃ s:Nat,s≤63∧(64:Int)-Lib.bitLen y=s∧9223372036854775808≤y*2^s∧y*2^s<aD:=by
 have hb:=Lib.bitLenAux_bounds 64 y (by rw [← show aD=2^64 from rfl];exact h1) (by omega)
 have hl:=Lib.bitLen_le y 64 (aR _) (by rw [← show aD=2^64 from rfl];exact h1)
 obtain ⟨b1,b2,b3⟩:=hb
 unfold Lib.bitLen at *
 generalize Lib.bitLenAux 64 y=l at *
 refine ⟨64-l,by omega,by omega,?_,?_⟩
 ·have:2^(l-1)*2^(64-l)≤y*2^(64-l):=Nat.mul_le_mul_right _ b2
  rw [← Nat.pow_add,show l-1+(64-l)=63 from by omega] at this
  exact this
 ·have:y*2^(64-l)<2^l*2^(64-l):=Nat.mul_lt_mul_of_pos_right b3 (Nat.pow_pos (by omega))
  rw [← Nat.pow_add,show l+(64-l)=64 from by omega] at this
  exact this
theorem div64_any (hi lo y:Nat) (w:World) (h2:hi<y) (h3:y<aD) (h4:lo<aD) :
 Calls Tryz.prog 241 #[.int .u64 (hi:Int),.int .u64 (lo:Int),.int .u64 (y:Int)] w fun e w' =>
  Hid (e = .returned (.tuple #[.int .u64 (((hi*aD+lo)/y:Nat):Int),.int .u64 (((hi*aD+lo)%y:Nat):Int)]))∧∃ k,w'=w.drewN k:=by
 have hW:=aL
 rcases Nat.eq_zero_or_pos hi with rfl|h1
 ·simpa using div64_small lo y w h2 (by omega) (by omega)
 ·obtain ⟨s,hs,hbl,n1,n2⟩:=qX y (by omega) h3
  have hp:0<2^s:=Nat.pow_pos (by omega)
  have hT:aD=2^(64-s)*2^s:=iA (by omega)
  obtain ⟨sh1,sh2⟩:=uD (x:=lo) (s:=s) (by omega)
  have hLO:=hi_lt (s:=s) (by omega) h4
  obtain ⟨Y,hY⟩:∃ Y,Y=y*2^s:=⟨_,rfl⟩
  obtain ⟨H,hH⟩:∃ H,H=hi*2^s:=⟨_,rfl⟩
  obtain ⟨L,hL⟩:∃ L,L=lo*2^s%aD:=⟨_,rfl⟩
  obtain ⟨O,hO⟩:∃ O,O=lo/2^(64-s):=⟨_,rfl⟩
  have hLl:L<aD:=by rw [hL];exact Nat.mod_lt _ bF
  have hUY:H+O<Y:=by
   have:(hi+1)*2^s≤y*2^s:=Nat.mul_le_mul_right _ h2
   rw [Nat.add_mul,Nat.one_mul] at this
   rw [hY,hH,hO];omega
  have hN:(hi*aD+lo)*2^s=((H+O)*4294967296+L/4294967296)*4294967296+L%4294967296:=by
   have a1:=Nat.div_add_mod L 4294967296
   have a2:(hi*aD+lo)*2^s=H*aD+(L+aD*O):=by rw [hH,hL,hO,sh2];grind
   rw [a2,hW]
   omega
  have hY1:=Nat.div_add_mod Y 4294967296
  have hf:Half (H+O) (L/4294967296) Y (Y/4294967296) (Y%4294967296) (((H+O)*4294967296+L/4294967296)/Y) :=
   ⟨by omega,by omega,by omega,by omega,hUY,by omega,rfl⟩
  obtain ⟨R,hR1,hR2⟩:=hf.rest
  have hf0:Half R (L%4294967296) Y (Y/4294967296) (Y%4294967296) ((R*4294967296+L%4294967296)/Y) :=
   ⟨by omega,by omega,by omega,by omega,hR1,by omega,rfl⟩
  obtain ⟨R0,hR3,hR4⟩:=hf0.rest
  have hq:=hf.q_lt
  have hq0:=hf0.q_lt
  have hg1:=hf.guess_le
  have hg2:=hf0.guess_le
  obtain ⟨f1,f2⟩:=halves hN hY hR2 hR4 hR3
  obtain ⟨Q,hQ⟩:∃ Q,Q=((H+O)*4294967296+L/4294967296)/Y:=⟨_,rfl⟩
  obtain ⟨Q0,hQ0⟩:∃ Q0,Q0=(R*4294967296+L%4294967296)/Y:=⟨_,rfl⟩
  rw [← hQ] at hf hR2 hq f1
  rw [← hQ0] at hf0 hR4 hq0 f1
  obtain ⟨U,hU⟩:∃ U,U=H+O:=⟨_,rfl⟩
  rw [← hU] at hUY hN hf hR2 hg1 hQ
  have m1:U/(Y/4294967296)*(Y/4294967296)+U%(Y/4294967296)=U:=by rw [Nat.mul_comm];exact Nat.div_add_mod _ _
  have m2:R/(Y/4294967296)*(Y/4294967296)+R%(Y/4294967296)=R:=by rw [Nat.mul_comm];exact Nat.div_add_mod _ _
  have m3:=Nat.mod_lt U (y:=Y/4294967296) (by omega)
  have m4:=Nat.mod_lt R (y:=Y/4294967296) (by omega)
  obtain ⟨v1,hv1⟩:∃ v1,v1=Y/4294967296:=⟨_,rfl⟩
  obtain ⟨v0,hv0⟩:∃ v0,v0=Y%4294967296:=⟨_,rfl⟩
  obtain ⟨u1,hu1⟩:∃ u1,u1=L/4294967296:=⟨_,rfl⟩
  obtain ⟨u0,hu0⟩:∃ u0,u0=L%4294967296:=⟨_,rfl⟩
  rw [← hv1] at hf hf0 hg1 hg2 m1 m2 m3 m4
  rw [← hv0] at hf hf0
  rw [← hu1] at hf hR2 hQ hN
  rw [← hu0] at hf0 hR4 hQ0 hN
  have z1:U/v1*v1≤U:=Nat.div_mul_le_self _ _
  have z2:R/v1*v1≤R:=Nat.div_mul_le_self _ _
  rw [← f1,← f2]
  refine (div64_core hi lo y s Y H U L u1 u0 v1 v0 (U/v1) (U/v1*v1) (U%v1) Q R Q0 R0 (U*4294967296%aD) ((U*4294967296%aD+u1)%aD) (Q*Y%aD) (R/v1) (R/v1*v1) (R%v1)
   (Q*4294967296) (Q*4294967296+Q0) (R*4294967296%aD) ((R*4294967296%aD+u0)%aD) (Q0*Y%aD) (R0/2^s) w h1 h2 (by omega) (by omega) hbl hs ?_ ?_ ?_ ?_ ?_ ?_ ?_ ?_ ?_ ?_ ?_ ?_ ?_ ?_ ?_ ?_ ?_ ?_ ?_ ?_ ?_ ?_ ?_ ?_ ?_ ?_ ?_ ?_ ?_ ?_ ?_ ?_ ?_ ?_ ?_ ?_ ?_ ?_ ?_ ?_ ?_)
  ·rw [show (y:Int)*2^s=((y*2^s:Nat):Int) from by simp,lS _ (by omega),hY]
  ·rw [hv1];simp
  ·rw [hv0];exact and_half Y (by omega)
  ·rw [show (hi:Int)*2^s=((hi*2^s:Nat):Int) from by simp,lS _ (by omega),hH]
  ·rw [show (lo:Int)/2^(64-s)=((lo/2^(64-s):Nat):Int) from by simp,← hO,hU,hH]
   exact yC hi O s (by rw [hO];exact hLO) (by rw [← hH];omega)
  ·rw [show (lo:Int)*2^s=((lo*2^s:Nat):Int) from by simp,fH,hL,hW]
  ·rw [hu1];simp
  ·rw [hu0];exact and_half L (by omega)
  ·rw [Int.tdiv_eq_ediv_of_nonneg (by omega)];simp
  ·simp
  ·simp
  ·omega
  ·exact ⟨hf,hf0,by omega,rfl,by omega,rfl,by omega,by omega⟩
  ·rw [show (U:Int)*4294967296=((U*4294967296:Nat):Int) from by simp,fH,hW]
  ·rw [show ((U*4294967296%aD:Nat):Int)+u1=((U*4294967296%aD+u1:Nat):Int) from by simp,fH,hW]
  ·rw [show (Q:Int)*Y=((Q*Y:Nat):Int) from by simp,fH,hW]
  ·rw [IntKind.wrap_u64]
   rw [hW]
   generalize Q*Y=QY at *
   omega
  ·rw [Int.tdiv_eq_ediv_of_nonneg (by omega)];simp
  ·simp
  ·simp
  ·omega
  ·rw [show (Q:Int)*4294967296=((Q*4294967296:Nat):Int) from by simp,lS _ (by omega)]
  ·rw [show ((Q*4294967296:Nat):Int)+Q0=((Q*4294967296+Q0:Nat):Int) from by simp,lS _ (by omega)]
  ·rw [show (R:Int)*4294967296=((R*4294967296:Nat):Int) from by simp,fH,hW]
  ·rw [show ((R*4294967296%aD:Nat):Int)+u0=((R*4294967296%aD+u0:Nat):Int) from by simp,fH,hW]
  ·rw [show (Q0:Int)*Y=((Q0*Y:Nat):Int) from by simp,fH,hW]
  ·rw [IntKind.wrap_u64]
   rw [hW]
   generalize Q0*Y=QY at *
   omega
  ·simp
  all_goals omega
theorem ret_two {a b c d:Value} (h:a=c) (h' : b=d):Ending.returned (.tuple #[a,b]) = .returned (.tuple #[c,d]):=by rw [h,h']
theorem val_u64 {a b:Nat} (h:a=b):Value.int .u64 (a:Int) = .int .u64 (b:Int):=by rw [h]
theorem div64_q (hi lo y q r:Nat) (w:World) (h2:hi<y) (h3:y<aD) (h4:lo<aD) (hq:q=(hi*aD+lo)/y) (hr:r=(hi*aD+lo)%y) :
 Calls Tryz.prog 241 #[.int .u64 (hi:Int),.int .u64 (lo:Int),.int .u64 (y:Int)] w fun e w'=>e = .returned (.tuple #[.int .u64 (q:Int),.int .u64 (r:Int)])∧∃ k,w'=w.drewN k:=by
 rw [hq,hr]
 exact div64_any hi lo y w h2 h3 h4
def DivInv (xs zs:List Nat) (d k r:Nat):Prop :=
 Dig aD zs∧zs.length=xs.length∧r<d∧val aD (zs.drop k)*d+r=val aD (xs.drop k)
theorem DivInv.step {xs zs:List Nat} {d k r x:Nat} (h:DivInv xs zs d (k+1) r) (hx:xs[k]?=some x) (hxs:Dig aD xs) :
 DivInv xs (zs.set k ((r*aD+x)/d)) d k ((r*aD+x)%d)∧(r*aD+x)/d<aD:=by
 obtain ⟨h1,h2,h3,h4⟩:=h
 obtain ⟨hk,ex⟩:=List.getElem?_eq_some_iff.1 hx
 have hxl:=hxs.at_ hx
 have hq:(r*aD+x)/d<aD:=by
  rw [Nat.div_lt_iff_lt_mul (by omega)]
  have:(r+1)*aD≤d*aD:=Nat.mul_le_mul_right _ h3
  rw [Nat.add_mul,Nat.one_mul] at this
  rw [Nat.mul_comm aD d]
  omega
 refine ⟨⟨h1.set hq,by simp [h2],Nat.mod_lt _ (by omega),?_⟩,hq⟩
 have e:(zs.set k ((r*aD+x)/d)).drop k=(r*aD+x)/d::zs.drop (k+1):=by
  rw [List.drop_eq_getElem_cons (by simp;omega),List.getElem_set_self,List.drop_set_of_lt (by omega)]
 rw [e,lJ _ _ _ hk,ex]
 simp only [val]
 have:=Nat.div_add_mod (r*aD+x) d
 rw [← h4]
 generalize (r*aD+x)/d=q at *
 generalize (r*aD+x)%d=m at *
 clear hq h1 hxs hxl h3 e
 generalize aD=V at *
 grind
theorem DivInv.start (xs:List Nat) {d:Nat} (hd:0<d):DivInv xs (List.replicate xs.length 0) d xs.length 0 :=
 ⟨Dig.replicate bF _,by simp,hd,by simp [val]⟩
theorem DivInv.finish {xs zs:List Nat} {d r:Nat} (h:DivInv xs zs d 0 r):val aD zs=val aD xs/d∧r=val aD xs%d:=by
 obtain ⟨_,_,h3,h4⟩:=h
 simp only [List.drop_zero] at h4
 rw [← h4]
 constructor
 ·rw [Nat.add_comm,Nat.add_mul_div_right _ _ (by omega),Nat.div_eq_of_lt h3];omega
 ·rw [Nat.add_comm,Nat.add_mul_mod_self_right,Nat.mod_eq_of_lt h3]
theorem trimmed_own (ad:Addr) (n c:Nat) (xs:List Nat) (w:World) (h:Rd w (some ad) n c xs) (hd:Dig aD xs) :
 Calls Tryz.prog 212 #[.slice (some ad) n c] w fun e w'=>(∃ v,e = .returned v∧Nt w v (val aD xs)∧v.ownBlock=some ad.block)∧w=w':=by
 refine (nX _ n c xs w h).mono ?_
 rintro e w' ⟨⟨k,⟨hk,hn,hv⟩,rfl⟩,rfl⟩
 exact ⟨⟨_,rfl,⟨_,k,c,xs.take k,rfl,h.take (by rw [← h.len];exact hk),hd.take k,hn,hv⟩,rfl⟩,rfl⟩
theorem oI (A:Option Addr) (n c:Nat) (xs:List Nat) (d:Nat) (w:World) (h:Rd w A n c xs) (hd:Dig aD xs) (hn:n≤2199023255552) (hd0:0<d) (hd1:d<aD) :
 Calls Tryz.prog 207 #[.slice A n c,.int .u64 (d:Int)] w fun e w' =>
  Hid (∃ v,e = .returned (.tuple #[v,.int .u64 ((val aD xs%d:Nat):Int)])∧Nt w' v (val aD xs/d)∧v.ownBlock=some w.heap.size)∧Below w.heap.size w w':=by
 have HX:=aH (aI h (aI hd (aI hd0 hd1)))
 have hnc:n≤c:=h.cap
 have hcm:c≤9223372036854775807:=h.2.2.1
 obtain ⟨i0,hi,hz0,hz1,hz2⟩:=info_parts eK
 have HI:=aH (aI hi (aI hz0 (aI hz1 hz2)))
 clear h hd hi hz0 hz1 hz2 hd0 hd1
 go_enter Tryz.func207,Tryz.ntmps207
 go_wp2_with (at_make;refine wpList_make_full _ rfl _ _ 100 rfl w.heap.size 151 i0 (.int .u64 0) 1 Tryz.underlying100 HI.out.1 HI.out.2.1 HI.out.2.2.1 _ _ _ _ n rfl rfl ?b0 ?b1 ?b2 ?b3 (aR _) ?_)
 case b0=>rfl
 case b1=>rfl
 case b2=>rw [HI.out.2.2.2];omega
 case b3=>show n≤9223372036854775807;omega
 intro w1 hown hg1
 have hb1:Below w.heap.size w w1:=(aB _ _).grown hg1 (aR _) (fun k h=>by cases h)
 have hblk:=dR hown
 have e0:DivInv xs (List.replicate n 0) d n 0:=by
  have:=DivInv.start xs HX.out.2.2.1
  rwa [HX.out.1.len] at this
 have HB:=aH hblk
 have H0:=aH e0
 clear hown hg1 hblk e0
 obtain ⟨g,hg⟩:∃ g,g=w.heap.size:=⟨_,rfl⟩
 rw [← hg] at HB ⊢
 have HG:=aH hg
 clear hg
 go_wp2
 go_loopw [7,8] (fun rs i wr => ∃ (k r:Nat) (zs:List Nat),k≤n∧i = .int .i64 ((k:Int)-1)∧rs = .int .u64 (r:Int)∧DivInv xs zs d k r∧Blk wr g 151 zs∧Below w.heap.size w wr) (fun _ i _=>(intOf i+1).toNat)
 case atStart=>exact ⟨n,0,_,aR _,rfl,rfl,H0.out,HB.out,hb1⟩
 case round =>
  obtain ⟨k,r,zs,hk,rfl,rfl,hinv,hblk,hb⟩:=hrel
  have hzn:zs.length=n:=by rw [hinv.2.1,HX.out.1.len]
  rcases Nat.eq_zero_or_pos k with rfl|hk0
  ·have hrd:=hblk.rd (by rw [hzn];show n≤9223372036854775807;omega)
   rw [hzn] at hrd
   obtain ⟨f1,f2⟩:=hinv.finish
   have HF:=aH (aI hinv.1 (aI hrd (aI f1 f2)))
   clear hinv hblk hzn hrd f1 f2
   simp only [show (((0:Nat):Int)-1) = -1 from rfl]
   go_wp2_with (go_at_call 212;refine (trimmed_own _ _ _ zs _ HF.out.2.1 HF.out.1).mono ?_;rintro e w' ⟨⟨v,rfl,hv,hvo⟩,rfl⟩)
   go_ret2
   exact ⟨⟨v,ret_two rfl (val_u64 HF.out.2.2.2),by rw [← HF.out.2.2.1];exact hv,by rw [hvo,HG.out]⟩,hb⟩
  ·obtain ⟨m,rfl⟩:∃ m,k=m+1:=⟨k-1,by omega⟩
   obtain ⟨ad,x,hA,_,hx,hcx⟩:=(HX.out.1.below hb).at_ (k:=m) (by omega)
   subst hA
   obtain ⟨hst,hq⟩:=hinv.step hx HX.out.2.1
   obtain ⟨q,hqq⟩:∃ q,q=(r*aD+x)/d:=⟨_,rfl⟩
   obtain ⟨r',hr'⟩:∃ r',r'=(r*aD+x)%d:=⟨_,rfl⟩
   have hdiv:=aH (fun w=>div64_q r x d q r' w hinv.2.2.1 HX.out.2.2.2 (HX.out.2.1.at_ hx) hqq hr')
   rw [← hqq,← hr'] at hst
   have HE:=aH (aI hst (aI hblk hzn))
   clear hx hblk hinv hst hk0 hq hzn hqq hr'
   simp only [Int.natCast_add,Int.natCast_one,show ((m:Int)+1-1)=m from by omega]
   go_wp2_with fail
   refine (hdiv.out _).mono ?_
   rintro e w2 ⟨rfl,k2,hk2⟩
   have hb2:Below wr.heap.size wr w2:=by rw [hk2];exact bZ (aB _ _) _
   clear hk2
   have hblk2:Blk w2 g 151 zs:=HE.out.2.1.below hb2 HE.out.2.1.lt
   have hb3:Below w.heap.size w w2:=hb.trans (hb2.mono hb.size)
   have hzn:=HE.out.2.2
   obtain ⟨z,hcz⟩:∃ z:Int,w2.cell? ⟨g,m,none⟩=some (.int .u64 z):=⟨_,hblk2.cell_get (by omega)⟩
   have hfz:=hblk2.frozen m
   have HE2:=aH hblk2
   clear hblk2 hzn hcx hdiv hb hb2
   go_wp2
   go_roundw
   case rel=>exact ⟨m,r',zs.set m q,by omega,rfl,rfl,HE.out.1,HE2.out.set_ _ _,hb3.setCell (by rw [HG.out];exact aR _) _⟩
   case measure=>simp [intOf]
theorem oJ (A:Option Addr) (n c:Nat) (xs:List Nat) (d:Nat) (w:World) (h:Rd w A n c xs) (hd:Dig aD xs) (hn:n≤2199023255552) (hd0:0<d) (hd1:d<aD) :
 Calls Tryz.prog 207 #[.slice A n c,.int .u64 (d:Int)] w fun e w' =>
  Hid (∃ v,e = .returned (.tuple #[v,.int .u64 ((val aD xs%d:Nat):Int)])∧Nt w' v (val aD xs/d))∧Below w.heap.size w w' :=
 (oI A n c xs d w h hd hn hd0 hd1).mono fun _ _ ⟨⟨v,h1,h2,_⟩,h3⟩=>⟨⟨v,h1,h2⟩,h3⟩
theorem or_low (a b s:Nat) (hb:b<2^s) (h:a*2^s+b<aD):bits .or .u64 (b:Int) ((a*2^s:Nat):Int)=((a*2^s+b:Nat):Int):=by
 have hW:=aL
 rw [vR _ _ (by omega) (by omega),Nat.or_comm,Nat.mul_comm,Nat.two_pow_add_eq_or_of_lt hb]
theorem qJ (A:Option Addr) (n c:Nat) (xs:List Nat) (s:Nat) (w:World) (h:Rd w A n c xs) (hd:Dig aD xs) (hn:n≤2199023255552) (hs:s≤63) :
 Calls Tryz.prog 242 #[.slice A n c,.int .u64 (s:Int)] w fun e w' =>
  Hid (∃ zs,e = .returned (.slice (some ⟨w.heap.size,0,none⟩) (n+1) (n+1))∧Blk w' w.heap.size 151 zs∧zs.length=n+1∧Dig aD zs∧val aD zs=val aD xs*2^s)∧Below w.heap.size w w':=by
 have HX:=aH (aI h hd)
 have hnc:n≤c:=h.cap
 have hcm:c≤9223372036854775807:=h.2.2.1
 obtain ⟨i0,hi,hz0,hz1,hz2⟩:=info_parts eK
 have HI:=aH (aI hi (aI hz0 (aI hz1 hz2)))
 clear h hd hi hz0 hz1 hz2
 obtain ⟨g,hg⟩:∃ g,g=w.heap.size:=⟨_,rfl⟩
 rw [← hg]
 have HG:=aH hg
 go_enter Tryz.func242,Tryz.ntmps242
 go_wp2_with (at_make;refine wpList_make_full _ rfl _ _ 100 rfl w.heap.size 151 i0 (.int .u64 0) 1 Tryz.underlying100 HI.out.1 HI.out.2.1 HI.out.2.2.1 _ _ _ _ (n+1) rfl rfl ?b0 ?b1 ?b2 ?b3 (aR _) ?_)
 case b0=>omega
 case b1=>omega
 case b2=>rw [HI.out.2.2.2];omega
 case b3=>show n+1≤9223372036854775807;omega
 intro w1 hown hg1
 have hb1:Below w.heap.size w w1:=(aB _ _).grown hg1 (aR _) (fun k h=>by cases h)
 have hblk:=dR hown
 have e0:UpInv xs (List.replicate (n+1) 0) s 0:=by
  have:=UpInv.start xs s
  rwa [HX.out.1.len] at this
 have H0:=aH e0
 rw [← hg] at hblk hb1 ⊢
 have HB:=aH hblk
 clear hown hg1 hblk e0 hg
 go_wp2
 go_loopw [14] (fun i wr => ∃ (k:Nat) (zs:List Nat),k≤n∧i = .int .i64 (k:Int)∧UpInv xs zs s k∧Blk wr g 151 zs∧Below g w wr) (fun i _=>n-(intOf i).toNat)
 case atStart=>exact ⟨0,_,Nat.zero_le _,rfl,H0.out,HB.out,hb1⟩
 case round =>
  obtain ⟨k,zs,hk,rfl,hinv,hblk,hb⟩:=hrel
  have hzn:zs.length=n+1:=by rw [hinv.2.1,HX.out.1.len]
  have hgs:g<wr.heap.size:=hblk.lt
  by_cases hlt:k<n
  ·obtain ⟨ad,x,hA,hal,hx,hcx⟩:=(HX.out.1.below (by rw [← HG.out];exact hb)).at_ (k:=k) hlt
   subst hA
   obtain ⟨cc,hcc⟩:∃ cc,zs[k]?=some cc:=⟨_,List.getElem?_eq_getElem (by omega)⟩
   obtain ⟨hst,s1,s2,s3⟩:=hinv.step hs hx HX.out.2 hcc
   obtain ⟨p1,p2⟩:=uD (x:=x) (s:=s) (by omega)
   have hcz:wr.cell? ⟨g,k,none⟩=some (.int .u64 (cc:Int)):=hblk.cell hcc
   have hfz:=hblk.frozen k
   have hfz1:=hblk.frozen (k+1)
   obtain ⟨z1,hcz1⟩:∃ z:Int,wr.cell? ⟨g,k+1,none⟩=some (.int .u64 z):=⟨_,hblk.cell_get (by omega)⟩
   obtain ⟨lo,hlo⟩:∃ lo,lo=x*2^s%aD:=⟨_,rfl⟩
   obtain ⟨hi,hhi⟩:∃ hi,hi=x/2^(64-s):=⟨_,rfl⟩
   have r1:IntKind.u64.wrap ((x:Int)*2^s)=(lo:Int):=by rw [show (x:Int)*2^s=((x*2^s:Nat):Int) from by simp,fH,hlo,aL]
   have r2:bits .or .u64 (cc:Int) (lo:Int)=((lo+cc:Nat):Int):=by rw [hlo,p1];exact or_low _ _ _ s1 s2
   obtain ⟨z,hz⟩:∃ z,z=lo+cc:=⟨_,rfl⟩
   rw [← hz] at r2
   have r3:(x:Int)/2^(64-s)=(hi:Int):=by rw [hhi];simp
   rw [← hlo,← hz,← hhi] at hst
   have HE:=aH (aI hst hblk)
   clear hx hblk hinv hst hcc s1 s2 s3 p1 p2 hlo hhi hz hzn
   go_wp2
   go_roundw
   case rel=>exact ⟨k+1,(zs.set k z).set (k+1) hi,by omega,by go_num,HE.out.1,(HE.out.2.set_ _ _).set_ _ _,(hb.setCell (aR _) _).setCell (aR _) _⟩
   case measure=>simp [intOf];omega
  ·obtain rfl:k=n:=by omega
   have hfin:=hinv
   rw [← HX.out.1.len] at hfin
   have HF:=aH (aI hinv.1 (aI hfin.finish (aI hzn hblk)))
   clear hinv hblk hzn hfin hlt
   go_wp2
   go_ret
   exact ⟨⟨zs,rfl,HF.out.2.2.2,HF.out.2.2.1,HF.out.1,HF.out.2.1⟩,hb⟩
theorem or_high (a b s:Nat) (hb:b<2^s) (h:a*2^s+b<aD):bits .or .u64 (b:Int) ((a*2^s:Nat):Int)=((b+a*2^s:Nat):Int):=by
 rw [or_low a b s hb h,Nat.add_comm]
theorem wK (A:Option Addr) (n c:Nat) (xs:List Nat) (s:Nat) (w:World) (h:Rd w A n c xs) (hd:Dig aD xs) (hn:n≤2199023255552) (hs:s≤63) :
 Calls Tryz.prog 244 #[.slice A n c,.int .u64 (s:Int)] w (GivesNt w (val aD xs/2^s)):=by
 have HX:=aH (aI h hd)
 have hnc:n≤c:=h.cap
 have hcm:c≤9223372036854775807:=h.2.2.1
 obtain ⟨i0,hi,hz0,hz1,hz2⟩:=info_parts eK
 have HI:=aH (aI hi (aI hz0 (aI hz1 hz2)))
 clear h hd hi hz0 hz1 hz2
 obtain ⟨g,hg⟩:∃ g,g=w.heap.size:=⟨_,rfl⟩
 have HG:=aH hg
 go_enter Tryz.func244,Tryz.ntmps244
 go_wp2_with (at_make;refine wpList_make_full _ rfl _ _ 100 rfl w.heap.size 151 i0 (.int .u64 0) 1 Tryz.underlying100 HI.out.1 HI.out.2.1 HI.out.2.2.1 _ _ _ _ n rfl rfl ?b0 ?b1 ?b2 ?b3 (aR _) ?_)
 case b0=>rfl
 case b1=>rfl
 case b2=>rw [HI.out.2.2.2];omega
 case b3=>show n≤9223372036854775807;omega
 intro w1 hown hg1
 have hb1:Below w.heap.size w w1:=(aB _ _).grown hg1 (aR _) (fun k h=>by cases h)
 have hblk:=dR hown
 have e0:DownInv xs (List.replicate n 0) s 0:=by
  have:=DownInv.start xs s
  rwa [HX.out.1.len] at this
 have H0:=aH e0
 rw [← hg] at hblk hb1 ⊢
 have HB:=aH hblk
 clear hown hg1 hblk e0 hg
 go_wp2
 go_loopw [13] (fun i wr => ∃ (k:Nat) (zs:List Nat),k≤n∧i = .int .i64 (k:Int)∧DownInv xs zs s k∧Blk wr g 151 zs∧Below g w wr) (fun i _=>n-(intOf i).toNat)
 case atStart=>exact ⟨0,_,Nat.zero_le _,rfl,H0.out,HB.out,hb1⟩
 case round =>
  obtain ⟨k,zs,hk,rfl,hinv,hblk,hb⟩:=hrel
  have hzn:zs.length=n:=by rw [hinv.2.1,HX.out.1.len]
  have hgs:g<wr.heap.size:=hblk.lt
  by_cases hlt:k<n
  ·obtain ⟨ad,x,hA,hal,hx,hcx⟩:=(HX.out.1.below (by rw [← HG.out];exact hb)).at_ (k:=k) hlt
   subst hA
   have hfz:=hblk.frozen k
   obtain ⟨z1,hcz1⟩:∃ z:Int,wr.cell? ⟨g,k,none⟩=some (.int .u64 z):=⟨_,hblk.cell_get (by omega)⟩
   obtain ⟨hi,hhi⟩:∃ hi,hi=x/2^s:=⟨_,rfl⟩
   have r3:(x:Int)/2^s=(hi:Int):=by rw [hhi];simp
   by_cases hk0:0<k
   ·obtain ⟨cc,hcc⟩:∃ cc,zs[k-1]?=some cc:=⟨_,List.getElem?_eq_getElem (by omega)⟩
    have hk1:k-1+1=k:=by omega
    obtain ⟨hst,s1,s2⟩:=(hk1▸hinv:DownInv xs zs s (k-1+1)).step hs (by rw [hk1];exact hx) HX.out.2 hcc
    rw [show k-1+2=k+1 from by omega,hk1] at hst
    have hcz:wr.cell? ⟨g,k-1,none⟩=some (.int .u64 (cc:Int)):=hblk.cell hcc
    have hfz1:=hblk.frozen (k-1)
    have p1:x*2^(64-s)%aD=x%2^s*2^(64-s):=by
     have hW:aD=2^s*2^(64-s):=by rw [Nat.mul_comm];exact iA (by omega)
     rw [hW,Nat.mul_mod_mul_right]
    obtain ⟨lo,hlo⟩:∃ lo,lo=x*2^(64-s)%aD:=⟨_,rfl⟩
    have r1:IntKind.u64.wrap ((x:Int)*2^(64-s))=(lo:Int):=by rw [show (x:Int)*2^(64-s)=((x*2^(64-s):Nat):Int) from by simp,fH,hlo,aL]
    have r2:bits .or .u64 (cc:Int) (lo:Int)=((cc+lo:Nat):Int):=by rw [hlo,p1];exact or_high _ _ _ s1 s2
    obtain ⟨z,hz⟩:∃ z,z=cc+lo:=⟨_,rfl⟩
    rw [← hz] at r2
    rw [← hlo,← hz,← hhi] at hst
    have HE:=aH (aI hst hblk)
    have hne:¬ k=k-1:=by omega
    clear hx hblk hinv hst hcc s1 s2 p1 hlo hhi hz hzn hk1
    go_wp2
    go_roundw
    case rel=>exact ⟨k+1,(zs.set k hi).set (k-1) z,by omega,by go_num,HE.out.1,(HE.out.2.set_ _ _).set_ _ _,(hb.setCell (aR _) _).setCell (aR _) _⟩
    case measure=>simp [intOf];omega
   ·have hst:DownInv xs (zs.set k hi) s (k+1):=by
     have:k=0:=by omega
     subst this
     rw [hhi]
     exact hinv.first hs hx HX.out.2
    have hkz:¬ (0<(k:Int)):=by omega
    have HE:=aH (aI hst hblk)
    clear hx hblk hinv hst hhi hzn
    go_wp2
    go_roundw
    case rel=>exact ⟨k+1,zs.set k hi,by omega,by go_num,HE.out.1,HE.out.2.set_ _ _,hb.setCell (aR _) _⟩
    case measure=>simp [intOf];omega
  ·obtain rfl:k=n:=by omega
   have hrd:=hblk.rd (by rw [hzn];show k≤9223372036854775807;omega)
   rw [hzn] at hrd
   have hfin:=hinv.2.2.1
   rw [List.take_of_length_le (by omega),List.take_of_length_le (by rw [HX.out.1.len];omega)] at hfin
   have HF:=aH (aI hinv.1 (aI hfin hrd))
   clear hinv hblk hzn hrd hfin hlt
   go_wp2_with (go_at_call 212;refine (eA _ _ _ zs _ HF.out.2.2 HF.out.1).mono ?_;rintro e w' ⟨⟨v,rfl,hv⟩,rfl⟩)
   go_ret
   exact ⟨v,rfl,by rw [← HF.out.2.1];exact hv,by rw [← HG.out];exact hb⟩
def mY (high middle low first second:Nat):Nat:=if first≤high then aD-1 else ((high*aD+middle)*aD+low)/(first*aD+second)
theorem sF {N2 low first second T word rest:Nat} (hf:0<first) (hT:T=(N2*aD+low)/(first*aD+second)) (h:word*first+rest=N2) :
 word≤T↔word*second≤rest*aD+low:=by
 have hp:0<first*aD:=Nat.mul_pos hf bF
 rw [hT,Nat.le_div_iff_mul_le (by omega)]
 subst h
 have e1:word*(first*aD+second)=word*first*aD+word*second:=by rw [Nat.mul_add,Nat.mul_assoc]
 have e2:(word*first+rest)*aD=word*first*aD+rest*aD:=Nat.add_mul _ _ _
 rw [e1,e2]
 omega
theorem guess_first {high middle low first second:Nat} (hf:high<first) (hl:low<aD):((high*aD+middle)*aD+low)/(first*aD+second)≤(high*aD+middle)/first :=
 oG rfl rfl hl (by omega)
theorem lex_iff {p r l:Nat} (hl:l<aD):p≤r*aD+l↔p/aD<r∨(p/aD=r∧p%aD≤l):=by
 have:=Nat.div_add_mod p aD
 have hm:p%aD<aD:=Nat.mod_lt _ bF
 rw [Nat.mul_comm] at this
 constructor
 ·intro h
  rcases Nat.lt_trichotomy (p/aD) r with h1|h1|h1
  ·exact .inl h1
  ·exact .inr ⟨h1,by rw [h1] at this;omega⟩
  ·exfalso
   have:(r+1)*aD≤p/aD*aD:=Nat.mul_le_mul_right _ h1
   rw [Nat.add_mul,Nat.one_mul] at this
   omega
 ·rintro (h1|⟨h1,h2⟩)
  ·have:(p/aD+1)*aD≤r*aD:=Nat.mul_le_mul_right _ h1
   rw [Nat.add_mul,Nat.one_mul] at this
   omega
  ·rw [h1] at this;omega
theorem zR (high middle low first second:Nat) (w:World) (h:first≤high) :
 Calls Tryz.prog 264 #[.int .u64 (high:Int),.int .u64 (middle:Int),.int .u64 (low:Int),.int .u64 (first:Int),.int .u64 (second:Int)] w fun e w'=>e = .returned (.int .u64 ((aD-1:Nat):Int))∧∃ k,w'=w.drewN k:=by
 have h' : (first:Int)≤high:=by omega
 go_enter Tryz.func264,Tryz.ntmps264
 go_wp2
 go_ret
 exact ⟨rfl,0,rfl⟩
theorem zS (high middle low first second:Nat) (w:World) (h:high<first) (h0:middle<aD) (h1:low<aD) (h2:first<aD) (h3:second<aD) (T:Nat) (hT:T=((high*aD+middle)*aD+low)/(first*aD+second)) :
 Calls Tryz.prog 264 #[.int .u64 (high:Int),.int .u64 (middle:Int),.int .u64 (low:Int),.int .u64 (first:Int),.int .u64 (second:Int)] w fun e w'=>e = .returned (.int .u64 (T:Int))∧∃ k,w'=w.drewN k:=by
 have HW:=aH aL
 have ht:¬ ((first:Int)≤high):=by omega
 have hfm:(high*aD+middle)/first<aD:=by
  rw [Nat.div_lt_iff_lt_mul (by omega)]
  have:(high+1)*aD≤first*aD:=Nat.mul_le_mul_right _ h
  rw [Nat.add_mul,Nat.one_mul] at this
  rw [Nat.mul_comm aD first]
  omega
 have hTq:T≤(high*aD+middle)/first:=by rw [hT];exact guess_first h h1
 obtain ⟨N2,hN2⟩:∃ N2,N2=high*aD+middle:=⟨_,rfl⟩
 rw [← hN2] at hfm hTq hT
 obtain ⟨q,hq⟩:∃ q,q=N2/first:=⟨_,rfl⟩
 obtain ⟨r,hr⟩:∃ r,r=N2%first:=⟨_,rfl⟩
 have hdm:q*first+r=N2:=by rw [hq,hr,Nat.mul_comm];exact Nat.div_add_mod _ _
 have hrl:r<first:=by rw [hr];exact Nat.mod_lt _ (by omega)
 have cd:=aH (fun w=>div64_q high middle first q r w h h2 h0 (by rw [hq,hN2]) (by rw [hr,hN2]))
 rw [← hq] at hTq hfm
 have HS:=aH (aI hT (aI hdm (aI hrl (aI hTq (aI hfm (aI h1 (aI h2 h3)))))))
 have hf0:0<first:=by omega
 clear h0 h1 h2 h3 hT hN2 hfm hTq hq hr hdm hrl
 go_enter Tryz.func264,Tryz.ntmps264
 go_wp2_with fail
 refine (cd.out _).mono ?_
 rintro e w1 ⟨rfl,k1,hk1⟩
 have HK:=aH hk1
 clear hk1
 go_wp2
 go_loop [11,12] (fun a b => ∃ m rs:Nat,a = .int .u64 (m:Int)∧b = .int .u64 (rs:Int)∧Hid (m*first+rs=N2∧T≤m∧m<aD∧rs<aD)) (fun a _=>(intOf a).toNat)
 case atStart=>exact ⟨q,r,rfl,rfl,HS.out.2.1,HS.out.2.2.2.1,HS.out.2.2.2.2.1,by have:=HS.out;omega⟩
 case round =>
  obtain ⟨m,rs,rfl,rfl,hinv⟩:=hrel
  obtain ⟨i1,i2,i3,i4⟩:=hinv.out
  obtain ⟨hT,_,_,_,_,h1,h2,h3⟩:=HS.out
  have hiff:=sF hf0 hT i1
  have hlex:=lex_iff (p:=m*second) (r:=rs) h1
  obtain ⟨ab,hab⟩:∃ ab,m*second/aD=ab:=⟨_,rfl⟩
  obtain ⟨bl,hbl⟩:∃ bl,m*second%aD=bl:=⟨_,rfl⟩
  have hmul:=aH (fun w=>(Tryz.bits_Mul64 m second i3 h3 w).mono (fun e w' h=>(show e = .returned (.tuple #[.int .u64 (ab:Int),.int .u64 (bl:Int)])∧w=w' from ⟨by rw [h.1,← hab,← hbl];rfl,h.2.symm⟩)))
  rw [hab,hbl] at hlex
  have hdone:(ab<rs∨(ab=rs∧bl≤low))→m=T:=by
   intro h
   have:=hiff.2 (hlex.2 h)
   omega
  have hnot:¬ (ab<rs∨(ab=rs∧bl≤low))→T<m:=by
   intro h
   rcases Nat.lt_or_ge T m with h'|h'
   ·exact h'
   ·exact absurd (hlex.1 (hiff.1 h')) h
  by_cases hex:ab<rs∨(ab=rs∧bl≤low)
  ·have HD:=aH (hdone hex)
   clear hiff hlex hdone hnot hab hbl i1 i2 i3 i4 h1 h2 h3 hT
   rcases hex with hx|⟨hx,hy⟩
   ·have hx' : (ab:Int)<rs:=by omega
    clear hx
    go_wp2_with (go_at_call 219;refine (hmul.out _).mono ?_;rintro e w' ⟨rfl,rfl⟩)
    go_ret
    exact ⟨by rw [← HD.out];rfl,_,HK.out⟩
   ·have hx' : ¬ (ab:Int)<rs:=by omega
    have hx2:((ab:Int)==rs)=true:=by simp;omega
    have hy' : (bl:Int)≤low:=by omega
    clear hx hy
    go_wp2_with (go_at_call 219;refine (hmul.out _).mono ?_;rintro e w' ⟨rfl,rfl⟩)
    go_ret
    exact ⟨by rw [← HD.out];rfl,_,HK.out⟩
  ·have hTm:=hnot hex
   obtain ⟨m,rfl⟩:∃ m',m=m'+1:=⟨m-1,by omega⟩
   have j1:m*first+(rs+first)=N2:=by rw [← i1,Nat.add_mul,Nat.one_mul];omega
   have hm1:(m:Int)+1-1=m:=by omega
   obtain ⟨r2,hr2⟩:∃ r2,(rs+first)%aD=r2:=⟨_,rfl⟩
   have hw:IntKind.u64.wrap ((rs:Int)+first)=(r2:Int):=by rw [show (rs:Int)+first=((rs+first:Nat):Int) from by simp,fH,← hr2,aL]
   have HM:=aH hmul.out
   clear hmul hiff hlex hdone hnot hab hbl i1 i2
   have hx' : ¬ (ab:Int)<rs:=fun h=>hex (.inl (by omega))
   have hmb:(m:Int)≤18446744073709551614:=by have:=HW.out;omega
   simp only [Int.natCast_add,Int.natCast_one] at HM ⊢
   by_cases hov:r2<first
   ·have hge:aD≤rs+first:=by
     rcases Nat.lt_or_ge (rs+first) aD with h|h
     ·rw [Nat.mod_eq_of_lt h] at hr2;omega
     ·exact h
    have HD:Hid (m=T):=by
     have a1:=(sF hf0 hT j1).2 (by
      have:m*second≤aD*aD:=Nat.mul_le_mul (by omega) (by omega)
      have:aD*aD≤(rs+first)*aD:=Nat.mul_le_mul_right _ hge
      omega)
     unfold Hid
     omega
    have hov' : (r2:Int)<first:=by omega
    by_cases he:ab=rs
    ·have hx2:((ab:Int)==rs)=true:=by simp;omega
     have hy' : ¬ ((bl:Int)≤low):=fun h=>hex (.inr ⟨he,by omega⟩)
     clear he hex hge hov hr2 j1 hTm i3 i4 h1 h2 h3 hT
     go_wp2_with (go_at_call 219;refine (HM.out _).mono ?_;rintro e w' ⟨rfl,rfl⟩)
     go_ret
     exact ⟨by rw [← HD.out];rfl,_,HK.out⟩
    ·have hx2:((ab:Int)==rs)=false:=by simp;omega
     clear he hex hge hov hr2 j1 hTm i3 i4 h1 h2 h3 hT
     go_wp2_with (go_at_call 219;refine (HM.out _).mono ?_;rintro e w' ⟨rfl,rfl⟩)
     go_ret
     exact ⟨by rw [← HD.out];rfl,_,HK.out⟩
   ·have hlt:rs+first<aD:=by
     rcases Nat.lt_or_ge (rs+first) aD with h|h
     ·exact h
     ·rw [Nat.mod_eq_sub_mod h,Nat.mod_eq_of_lt (by omega)] at hr2
      omega
    have HN:Hid (m*first+r2=N2∧T≤m∧m<aD∧r2<aD):=by
     rw [Nat.mod_eq_of_lt hlt] at hr2
     refine ⟨by omega,by omega,by omega,by omega⟩
    have hov' : ¬ (r2:Int)<first:=by omega
    by_cases he:ab=rs
    ·have hx2:((ab:Int)==rs)=true:=by simp;omega
     have hy' : ¬ ((bl:Int)≤low):=fun h=>hex (.inr ⟨he,by omega⟩)
     clear he hex hlt hov hr2 j1 hTm i3 i4 h1 h2 h3 hT
     go_wp2_with (go_at_call 219;refine (HM.out _).mono ?_;rintro e w' ⟨rfl,rfl⟩)
     go_round
     case rel=>exact ⟨m,r2,by go_num,rfl,HN⟩
     case measure=>simp [intOf]
    ·have hx2:((ab:Int)==rs)=false:=by simp;omega
     clear he hex hlt hov hr2 j1 hTm i3 i4 h1 h2 h3 hT
     go_wp2_with (go_at_call 219;refine (HM.out _).mono ?_;rintro e w' ⟨rfl,rfl⟩)
     go_round
     case rel=>exact ⟨m,r2,by go_num,rfl,HN⟩
     case measure=>simp [intOf]
theorem guess_any (high middle low first second:Nat) (w:World) (h0:middle<aD) (h1:low<aD) (h2:first<aD) (h3:second<aD) :
 Calls Tryz.prog 264 #[.int .u64 (high:Int),.int .u64 (middle:Int),.int .u64 (low:Int),.int .u64 (first:Int),.int .u64 (second:Int)] w fun e w'=>e = .returned (.int .u64 (mY high middle low first second:Int))∧∃ k,w'=w.drewN k:=by
 unfold mY
 by_cases h:first≤high
 ·rw [if_pos h]
  exact zR high middle low first second w h
 ·rw [if_neg h]
  exact zS high middle low first second w (by omega) h0 h1 h2 h3 _ rfl
theorem u3_alg (A P V low mid h:Nat):A+P*low+P*V*mid+P*V*V*h=((h*V+mid)*V+low)*P+A:=by grind
theorem v2_alg (A P V s f:Nat):A+P*s+P*V*f=(f*V+s)*P+A:=by grind
theorem guess_ok {us vs:List Nat} {n h mid low f s:Nat} (hn:2≤n) (hu:us.length=n+1) (hv:vs.length=n) (du:Dig aD us) (dv:Dig aD vs)
 (g0:us[n]?=some h) (g1:us[n-1]?=some mid) (g2:us[n-2]?=some low) (g3:vs[n-1]?=some f) (g4:vs[n-2]?=some s) (hf:9223372036854775808≤f) (hlt:val aD us<val aD vs*aD) :
 val aD us/val aD vs≤mY h mid low f s∧mY h mid low f s≤val aD us/val aD vs+1∧mY h mid low f s<aD:=by
 have hW:=aL
 obtain ⟨m,rfl⟩:∃ m,n=m+2:=⟨n-2,by omega⟩
 simp only [show m+2-1=m+1 from by omega,show m+2-2=m from by omega] at g1 g2 g3 g4
 have l0:=du.at_ g0
 have l1:=du.at_ g1
 have l2:=du.at_ g2
 have l3:=dv.at_ g3
 have l4:=dv.at_ g4
 obtain ⟨k0,e0⟩:=List.getElem?_eq_some_iff.1 g0
 obtain ⟨k1,e1⟩:=List.getElem?_eq_some_iff.1 g1
 obtain ⟨k2,e2⟩:=List.getElem?_eq_some_iff.1 g2
 obtain ⟨k3,e3⟩:=List.getElem?_eq_some_iff.1 g3
 obtain ⟨k4,e4⟩:=List.getElem?_eq_some_iff.1 g4
 have hul:=bW (du.take m)
 have hvl:=bW (dv.take m)
 rw [List.length_take,Nat.min_eq_left (by omega)] at hul hvl
 have hU:val aD us=val aD (us.take m)+aD^m*low+aD^(m+1)*mid+aD^(m+2)*h:=by
  have:val aD us=val aD (us.take (m+2+1)):=by rw [List.take_of_length_le (by omega)]
  rw [this,aF _ _ _ k0,aF _ _ _ k1,aF _ _ _ k2,e0,e1,e2]
 have hV:val aD vs=val aD (vs.take m)+aD^m*s+aD^(m+1)*f:=by
  have:val aD vs=val aD (vs.take (m+1+1)):=by rw [List.take_of_length_le (by omega)]
  rw [this,aF _ _ _ k3,aF _ _ _ k4,e3,e4]
 have hVp:0<val aD vs:=by
  have:0<aD^(m+1)*f:=Nat.mul_pos (Nat.pow_pos bF) (by omega)
  omega
 have hqW:val aD us/val aD vs<aD:=by rw [Nat.div_lt_iff_lt_mul hVp,Nat.mul_comm];exact hlt
 have U3:val aD us=((h*aD+mid)*aD+low)*aD^m+val aD (us.take m):=by
  rw [hU,show aD^(m+2)=aD^m*aD*aD from by rw [Nat.pow_succ,Nat.pow_succ],Nat.pow_succ]
  exact u3_alg _ _ _ _ _ _
 have V2:val aD vs=(f*aD+s)*aD^m+val aD (vs.take m):=by
  rw [hV,Nat.pow_succ]
  exact v2_alg _ _ _ _ _
 have hfW:aD≤f*aD+s:=by
  have:1*aD≤f*aD:=Nat.mul_le_mul_right _ (by omega)
  omega
 unfold mY
 by_cases hc:f≤h
 ·rw [if_pos hc]
  refine ⟨by omega,?_,by omega⟩
  have hV1:val aD vs=f*aD^(m+1)+(val aD (vs.take m)+aD^m*s):=by
   rw [hV]
   generalize aD^(m+1)=P
   rw [Nat.mul_comm f P];omega
  refine guess_top (v1:=f) (vl:=val aD (vs.take m)+aD^m*s) (ul:=0) (M:=aD^(m+1)) (B:=aD) ?_ hV1 ?_ (by omega) (aR _)
  ·have:f*aD*aD^(m+1)≤aD^(m+2)*h:=by
    have e:aD^(m+2)*h=h*(aD*aD^(m+1)):=by rw [Nat.pow_succ aD (m+1),Nat.mul_comm,Nat.mul_comm (aD^(m+1))]
    rw [e,Nat.mul_assoc]
    exact Nat.mul_le_mul_right _ hc
   omega
  ·have:aD^m*(s+1)≤aD^m*aD:=Nat.mul_le_mul_left _ l4
   rw [Nat.mul_add,Nat.mul_one,← Nat.pow_succ] at this
   have e:m.succ=m+1:=rfl
   rw [e] at this
   omega
 ·rw [if_neg hc]
  have hp2:0<f*aD+s:=by omega
  have hle:=Nat.div_mul_le_self ((h*aD+mid)*aD+low) (f*aD+s)
  have htW:((h*aD+mid)*aD+low)/(f*aD+s)<aD:=by
   rw [Nat.div_lt_iff_lt_mul hp2]
   have a1:(h*aD+mid+1)*aD≤(f*aD)*aD:=Nat.mul_le_mul_right _ (by
    have:(h+1)*aD≤f*aD:=Nat.mul_le_mul_right _ (by omega)
    rw [Nat.add_mul,Nat.one_mul] at this
    omega)
   rw [Nat.add_mul,Nat.one_mul] at a1
   have a2:aD*(f*aD+s)=f*aD*aD+aD*s:=by rw [Nat.mul_add,Nat.mul_comm aD (f*aD)]
   omega
  refine ⟨?_,?_,htW⟩
  ·exact oG (u2:=(h*aD+mid)*aD+low) (v1:=f*aD+s) U3 V2 hul hp2
  ·exact guess_le U3 V2 hvl hle (by omega) hfW
theorem put_put {ys zs ws:List Nat} {o:Nat} (h:o+zs.length≤ys.length) (hl:ws.length=zs.length):put (put ys o zs) o ws=put ys o ws:=by
 unfold put
 rw [List.take_append_of_le_length (by simp;omega),List.take_take,Nat.min_self,hl]
 congr 2
 rw [← List.append_assoc,List.drop_append_of_le_length (by simp;omega),List.drop_of_length_le (by simp;omega)]
 rfl
theorem yD {ys zs:List Nat} {o:Nat} (h:o+zs.length≤ys.length):((put ys o zs).drop o).take zs.length=zs:=by
 unfold put
 rw [List.drop_append_of_le_length (by simp;omega),List.drop_of_length_le (by simp;omega),List.nil_append,List.take_append_of_le_length (aR _),List.take_of_length_le (aR _)]
theorem fP {ys:List Nat} {o k n:Nat} (hk:k<n):((ys.drop o).take n)[k]?=ys[o+k]?:=by
 rw [List.getElem?_take,if_pos hk,List.getElem?_drop]
theorem only_drew {w w' : World} {g:Nat} (h:w.grownBy w' (some g)):w.grownBy w'.drew (some g):=⟨h.os,h.tape,h.output,h.size,h.block⟩
theorem takeOut_any (g o n cP:Nat) (t:TypeId) (ys:List Nat) (A:Option Addr) (c:Nat) (vs:List Nat) (w:World) (hb:Blk w g t ys) (hys:Dig aD ys) (hn:2≤n) (hn2:n≤2199023255552) (hwin:o+n+1≤ys.length) (hcP:n+1≤cP)
 (hm63:cP≤9223372036854775807) (h:Rd w A n c vs) (hd:Dig aD vs) (ha:Away A n g) (f:Nat) (hf:vs[n-1]?=some f) (hfb:9223372036854775808≤f) (hlt:val aD ((ys.drop o).take (n+1))<val aD vs*aD) :
 Calls Tryz.prog 243 #[.slice (some ⟨g,o,none⟩) (n+1) cP,.slice A n c] w fun e w' =>
  Hid (∃ zs:List Nat,e = .returned (.int .u64 ((val aD ((ys.drop o).take (n+1))/val aD vs:Nat):Int))∧zs.length=n+1∧Dig aD zs∧val aD zs=val aD ((ys.drop o).take (n+1))%val aD vs∧zs[n]?=some 0∧Blk w' g t (put ys o zs)∧w.grownBy w' (some g)):=by
 have hW:=aL
 obtain ⟨U,hU⟩:∃ U,U=val aD ((ys.drop o).take (n+1)):=⟨_,rfl⟩
 obtain ⟨V,hV⟩:∃ V,V=val aD vs:=⟨_,rfl⟩
 have hwl:((ys.drop o).take (n+1)).length=n+1:=by simp;omega
 obtain ⟨y0,hy0⟩:∃ y,ys[o+n]?=some y:=⟨_,List.getElem?_eq_getElem (by omega)⟩
 obtain ⟨y1,hy1⟩:∃ y,ys[o+(n-1)]?=some y:=⟨_,List.getElem?_eq_getElem (by omega)⟩
 obtain ⟨y2,hy2⟩:∃ y,ys[o+(n-2)]?=some y:=⟨_,List.getElem?_eq_getElem (by omega)⟩
 obtain ⟨ad,f',hA,hal,hf',hcf⟩:=h.at_ (k:=n-1) (by omega)
 obtain ⟨ad',s,hA',_,hs',hcs⟩:=h.at_ (k:=n-2) (by omega)
 rw [hA] at hA'
 injection hA' with hA'
 subst hA'
 subst hA
 rw [hf] at hf'
 injection hf' with hf'
 subst hf'
 have hg:=guess_ok hn hwl h.len ((hys.drop o).take _) hd (by rw [fP (by omega)];exact hy0) (by rw [fP (by omega)];exact hy1) (by rw [fP (by omega)];exact hy2) hf hs' hfb hlt
 rw [← hU,← hV] at hg
 have l1:=hys.at_ hy1
 have l2:=hys.at_ hy2
 have l3:=hd.at_ hf
 have l4:=hd.at_ hs'
 obtain ⟨q,hq⟩:∃ q,q=mY y0 y1 y2 f s:=⟨_,rfl⟩
 have cg:=aH (fun w=>guess_any y0 y1 y2 f s w l1 l2 l3 l4)
 rw [← hq] at hg cg
 obtain ⟨g1,g2,g3⟩:=hg
 have hVp:0<V:=by
  have hl:=h.len
  have:vs≠[]:=by rintro rfl;simp at hf
  rcases Nat.eq_zero_or_pos V with e|e
  ·rw [hV.symm.trans e,Nat.zero_mul] at hlt
   omega
  ·exact e
 have hVT:V≤aD^n:=by
  have:=bW hd
  rw [h.len,← hV] at this
  omega
 have hUs:U=val aD ((ys.drop o).take n)+aD^n*y0:=by
  have hk:n<(ys.drop o).length:=by simp;omega
  rw [hU,aF _ _ _ hk]
  have:(ys.drop o)[n]=y0:=by
   have:=fP (ys:=ys) (o:=o) (k:=n) (n:=n+1) (by omega)
   rw [hy0,List.getElem?_take,if_pos (by omega),List.getElem?_eq_getElem hk] at this
   injection this
  rw [this]
 have hcy0:w.cell? ⟨g,o+n,none⟩=some (.int .u64 (y0:Int)):=hb.cell hy0
 have hcy1:w.cell? ⟨g,o+(n-1),none⟩=some (.int .u64 (y1:Int)):=hb.cell hy1
 have hcy2:w.cell? ⟨g,o+(n-2),none⟩=some (.int .u64 (y2:Int)):=hb.cell hy2
 have hnc:n≤c:=h.cap
 have hcm:c≤9223372036854775807:=h.2.2.1
 have hn1:n≠0:=by omega
 have HF:=aH (aI hys (aI h (aI hd (aI ha (aI hb (aI hU (aI hV (aI g1 (aI g2 (aI g3 (aI hVp (aI hVT (aI hUs hy0)))))))))))))
 rw [← hU,← hV]
 clear hlt hU hV hwl hy0 hy1 hy2 hf hs' l1 l2 l3 l4 hq g1 g2 g3 hVp hVT hUs hys h hd ha hb hW hfb
 go_enter Tryz.func243,Tryz.ntmps243
 go_wp2
 go_quiet ((go_at_call 264;exact Calls.quiet_of (cg.out _)))
 have hcy0' : (w.drewN nq).cell? ⟨g,o+n,none⟩=some (.int .u64 (y0:Int)):=hcy0
 have HB:=aH (show Blk (w.drewN nq) g t ys∧Rd (w.drewN nq) (some ad) n c vs∧w.grownBy (w.drewN nq) (some g) from ⟨HF.out.2.2.2.2.1,HF.out.2.1,⟨rfl,rfl,rfl,aR _,fun _ _ _=>rfl⟩⟩)
 generalize w.drewN nq=w2 at *
 have ct:=aH (fun W hB hR=>lR g o n cP t ys (some ad) n c vs q W hB HF.out.1 (by omega) (aR _) (by omega) hm63 hR HF.out.2.2.1 HF.out.2.2.2.1 HF.out.2.2.2.2.2.2.2.2.2.1)
 clear hcy0 hcy1 hcy2 hcs hcf cg
 have hle:n≤n+1:=by omega
 go_wp2
 go_region_with ((go_at_call 263;refine (ct.out _ ?_ ?_).mono ?_;exact HB.out.1;exact HB.out.2.1;rintro e w3 ⟨zs,bor,rfl,hz⟩;have hcy3:w3.cell? ⟨g,o+n,none⟩=some (.int .u64 (y0:Int)):=hz.2.2.2.2.1.cell (by rw [pN (by rw [hz.1];exact aR _) (by omega)];exact HF.out.2.2.2.2.2.2.2.2.2.2.2.2.2);have HZ:=aH hz;clear hz))
 all_goals
  obtain ⟨hys,h,hd,ha,hb,hU,hV,g1,g2,g3,hVp,hVT,hUs,hy0⟩:=HF.out
  obtain ⟨hz1,hz2,hz3,hz4,hz5,hz6⟩:=HZ.out
  have hxT:=bW hz2
  rw [hz1] at hxT
  have htk:=take_ok (u:=U) (v:=V) (h:=y0) (t:=q) (bor:=bor) hUs (by rw [hV];exact hz4) hxT hVT g1 g2 hVp
  have hg3:w.grownBy w3 (some g):=by first|exact cU HB.out.2.2 hz6|exact cU (only_drew HB.out.2.2) hz6
  have hpl:(put ys o zs).length=ys.length:=cV (by omega)
  by_cases hbr:y0<bor
  ·have hbr' : (y0:Int)<bor:=by omega
   obtain ⟨k1,k2⟩:=htk.2 hbr
   have ca:=iO g o n cP t (put ys o zs) (some ad) n c vs 1 w3 hz5 (sE hys hz2) (by rw [hpl];omega) (aR _) (by omega) hm63 (h.only ha hg3) hd ha eD
   simp only [Int.natCast_one] at ca
   have CA:=aH ca
   have hq0:1≤q:=by rw [k1];exact Nat.le_add_left 1 _
   have hq1:(1:Int)≤q:=by omega
   have hqW:(q:Int)≤18446744073709551615:=by have:=aL;omega
   have HK:=aH (aI k1 (aI k2 (aI hg3 (aI hpl (aI hz1 hz2)))))
   clear htk k1 k2 ca hbr g1 g2 g3 hVp hVT hUs hU hV hys h hd ha hb hz1 hz2 hz3 hz4 hz5 hz6 hxT hg3 hpl hcy3 HZ hcy0' hq0
   go_wp2_with fail
   refine CA.out.mono ?_
   rintro e w4 ⟨zs2,cy,rfl,q1,q2,q3,q4,q5,q6⟩
   obtain ⟨k1,k2,hg3,hpl,hz1,hz2⟩:=HK.out
   rw [put_put (by omega) (by omega)] at q5
   obtain ⟨z,hcz⟩:∃ z:Int,w4.cell? ⟨g,o+n,none⟩=some (.int .u64 z):=⟨_,q5.cell_get (by rw [cV (by omega)];omega)⟩
   have hfz:=q5.frozen (o+n)
   have HQ:=aH (aI q1 (aI q2 (aI q3 (aI q4 (aI q5 q6)))))
   clear q1 q2 q3 q4 q5 q6 k1 k2 hg3 hpl hz1 hz2
   go_wp2
   go_ret
   obtain ⟨k1,k2,hg3,hpl,hz1,hz2⟩:=HK.out
   obtain ⟨q1,q2,q3,q4,q5,q6⟩:=HQ.out
   have hwin2:=yD (ys:=ys) (zs:=zs) (o:=o) (by omega)
   rw [hz1] at hwin2
   rw [hwin2,Nat.one_mul,← HF.out.2.2.2.2.2.2.1] at q4
   have hzv:=bW q2
   rw [q1] at hzv
   have hmod:val aD zs2=U%V:=by
    have hm:U%V<V:=Nat.mod_lt _ HF.out.2.2.2.2.2.2.2.2.2.2.1
    have hVT:=HF.out.2.2.2.2.2.2.2.2.2.2.2.1
    rw [← k2] at q4
    rcases Nat.lt_or_ge cy 1 with e|e
    ·have:cy=0:=by omega
     subst this
     omega
    ·have:aD^n*1≤aD^n*cy:=Nat.mul_le_mul_left _ e
     rcases Nat.lt_or_ge cy 2 with e2|e2
     ·have:cy=1:=by omega
      subst this
      omega
     ·have:aD^n*2≤aD^n*cy:=Nat.mul_le_mul_left _ e2
      omega
   have P1:(q:Int)-1=((U/V:Nat):Int):=by omega
   have P2:(zs2 ++ [0]).length=n+1:=by simp [q1]
   have P3:Dig aD (zs2 ++ [0]):=q2.app (Dig.cons bF (Dig.nil _))
   have P4:val aD (zs2 ++ [0])=U%V:=by rw [cM,hmod];simp
   have P5:(zs2 ++ [0])[n]?=some 0:=by rw [List.getElem?_append_right (by omega)];simp [q1]
   have P6:Blk (w4.setCell ⟨g,o+n,none⟩ (.int .u64 0)) g t (put ys o (zs2 ++ [0])):=by rw [← gZ q1 (by omega)];exact q5.set_ _ 0
   have P7:=cU (cU hg3 q6) (eH w4 g (o+n) (.int .u64 0))
   first
    | exact ⟨zs2 ++ [0],bX P1,P2,P3,P4,P5,P6,P7⟩
    | exact ⟨bX P1,zs2 ++ [0],P2,P3,P4,P5,P6,P7⟩
  ·have hbr' : ¬ (y0:Int)<bor:=by omega
   obtain ⟨k1,k2,k3⟩:=htk.1 (by omega)
   obtain ⟨z,hcz⟩:∃ z:Int,w3.cell? ⟨g,o+n,none⟩=some (.int .u64 z):=⟨_,hz5.cell_get (by rw [hpl];omega)⟩
   have hfz:=hz5.frozen (o+n)
   have HK:=aH (aI k1 (aI k2 hg3))
   clear htk k1 k2 k3 hbr g1 g2 g3 hVp hVT hUs hU hV hys h hd ha hb hz1 hz2 hz3 hz4 hz5 hz6 hxT hg3 hpl hcy3 hcy0'
   go_wp2
   go_ret
   obtain ⟨hz1,hz2,hz3,hz4,hz5,hz6⟩:=HZ.out
   have P1:(q:Int)=((U/V:Nat):Int):=by rw [HK.out.1]
   have P2:(zs ++ [0]).length=n+1:=by simp [hz1]
   have P3:Dig aD (zs ++ [0]):=hz2.app (Dig.cons bF (Dig.nil _))
   have P4:val aD (zs ++ [0])=U%V:=by rw [cM,HK.out.2.1];simp
   have P5:(zs ++ [0])[n]?=some 0:=by rw [List.getElem?_append_right (by omega)];simp [hz1]
   have P6:Blk (w3.setCell ⟨g,o+n,none⟩ (.int .u64 0)) g t (put ys o (zs ++ [0])):=by rw [← gZ hz1 (by omega)];exact hz5.set_ _ 0
   have P7:=cU HK.out.2.2 (eH w3 g (o+n) (.int .u64 0))
   first
    | exact ⟨zs ++ [0],bX P1,P2,P3,P4,P5,P6,P7⟩
    | exact ⟨bX P1,zs ++ [0],P2,P3,P4,P5,P6,P7⟩
def LongInv (V U0 n' L:Nat) (us qs:List Nat) (k:Nat):Prop :=
 Dig aD us∧us.length=L+n'∧Dig aD qs∧qs.length=L∧val aD (us.drop k)<V∧val aD (qs.drop k)*V*aD^k+val aD us=U0
theorem LongInv.window {V U0 n' L m:Nat} {us qs:List Nat} (h:LongInv V U0 n' L us qs (m+1)) (hm:m<L) (hV:V≤aD^n') :
 val aD ((us.drop m).take (n'+1))=val aD (us.drop m)∧val aD (us.drop (m+(n'+1)))=0∧val aD (us.drop m)<V*aD:=by
 obtain ⟨h1,h2,h3,h4,h5,h6⟩:=h
 have e1:=lJ aD us m (by omega)
 have l1:=h1.get m (by omega)
 have hlt:val aD (us.drop m)<V*aD:=by
  have:aD*(val aD (us.drop (m+1))+1)≤aD*V:=Nat.mul_le_mul_left _ h5
  rw [Nat.mul_add,Nat.mul_one] at this
  rw [Nat.mul_comm V]
  omega
 have e2:=dX aD (us.drop m) (n'+1) (by simp;omega)
 rw [List.drop_drop] at e2
 have hz:val aD (us.drop (m+(n'+1)))=0:=by
  rcases Nat.eq_zero_or_pos (val aD (us.drop (m+(n'+1)))) with e|e
  ·exact e
  ·exfalso
   have a1:aD^(n'+1)*1≤aD^(n'+1)*val aD (us.drop (m+(n'+1))):=Nat.mul_le_mul_left _ e
   have a2:V*aD≤aD^n'*aD:=Nat.mul_le_mul_right _ hV
   rw [← Nat.pow_succ] at a2
   have:n'.succ=n'+1:=rfl
   rw [this] at a2
   omega
 rw [hz] at e2
 exact ⟨by omega,hz,hlt⟩
theorem yE {ys zs:List Nat} {o:Nat} (h:o+zs.length≤ys.length):(put ys o zs).drop o=zs++ys.drop (o+zs.length):=by
 unfold put
 rw [List.drop_append_of_le_length (by simp;omega),List.drop_of_length_le (by simp;omega)]
 rfl
theorem uE {ys zs:List Nat} {o:Nat} (h:o+zs.length≤ys.length):(put ys o zs).take o=ys.take o:=by
 unfold put
 rw [List.take_append_of_le_length (by simp;omega),List.take_take,Nat.min_self]
theorem long_alg (q Y V P B Z r X:Nat) (h:V*q+r=X):(q+B*Y)*V*P+(Z+P*r)=Y*V*(P*B)+(Z+P*X):=by subst h;grind
theorem LongInv.step {V U0 n' L m:Nat} {us qs zs:List Nat} (h:LongInv V U0 n' L us qs (m+1)) (hm:m<L) (hV:V≤aD^n') (hV0:0<V)
 (hz:zs.length=n'+1) (hzd:Dig aD zs) (hzv:val aD zs=val aD ((us.drop m).take (n'+1))%V) :
 LongInv V U0 n' L (put us m zs) (qs.set m (val aD ((us.drop m).take (n'+1))/V)) m:=by
 obtain ⟨w1,w2,w3⟩:=h.window hm hV
 obtain ⟨h1,h2,h3,h4,h5,h6⟩:=h
 rw [w1] at hzv ⊢
 have hq:val aD (us.drop m)/V<aD:=by rw [Nat.div_lt_iff_lt_mul hV0,Nat.mul_comm];exact w3
 have hlen:m+zs.length≤us.length:=by omega
 have e1:val aD ((put us m zs).drop m)=val aD (us.drop m)%V:=by
  rw [yE hlen,fN,hz,w2,hzv,Nat.mul_zero,Nat.add_zero]
 have e2:val aD (put us m zs)=val aD (us.take m)+aD^m*(val aD (us.drop m)%V):=by
  rw [dX aD (put us m zs) m (by rw [cV hlen];omega),uE hlen,e1]
 have e3:=dX aD us m (by omega)
 have e4:(qs.set m (val aD (us.drop m)/V)).drop m=val aD (us.drop m)/V::qs.drop (m+1):=by
  rw [List.drop_eq_getElem_cons (by simp;omega),List.getElem_set_self,List.drop_set_of_lt (by omega)]
 have hdm:=Nat.div_add_mod (val aD (us.drop m)) V
 refine ⟨sE h1 hzd,by rw [cV hlen,h2],h3.set hq,by simp [h4],by rw [e1];exact Nat.mod_lt _ hV0,?_⟩
 rw [e4,e2,← h6,e3,Nat.pow_succ]
 exact long_alg _ _ _ _ _ _ _ _ hdm
theorem LongInv.finish {V n' L d s N:Nat} {us qs:List Nat} (h:LongInv V (N*2^s) n' L us qs 0) (hV:V=d*2^s) (hd:0<d) :
 val aD qs=N/d∧val aD us/2^s=N%d:=by
 obtain ⟨_,_,_,_,h5,h6⟩:=h
 have hp:0<2^s:=Nat.pow_pos (by omega)
 have hV0:0<V:=by rw [hV];exact Nat.mul_pos hd hp
 simp only [List.drop_zero,Nat.pow_zero,Nat.mul_one] at h5 h6
 have e1:N*2^s/V=val aD qs:=by rw [← h6,Nat.add_comm,Nat.add_mul_div_right _ _ hV0,Nat.div_eq_of_lt h5];omega
 have e2:N*2^s%V=val aD us:=by rw [← h6,Nat.add_comm,Nat.add_mul_mod_self_right,Nat.mod_eq_of_lt h5]
 constructor
 ·rw [← e1,hV,Nat.mul_div_mul_right _ _ hp]
 ·rw [← e2,hV,Nat.mul_mod_mul_right,Nat.mul_div_cancel _ hp]
theorem shifted_top {ys vs:List Nat} {s y:Nat} (hy:Dig aD ys) (hl:0<ys.length) (htop:ys[ys.length-1]?=some y) (hs1:9223372036854775808≤y*2^s) (hs2:y*2^s<aD)
 (hv:Dig aD vs) (hn:Norm vs) (e:val aD vs=val aD ys*2^s) (hy0:0<y):vs.length=ys.length∧∃ f,vs[ys.length-1]?=some f∧9223372036854775808≤f:=by
 obtain ⟨m,hm⟩:∃ m,ys.length=m+1:=⟨ys.length-1,by omega⟩
 rw [hm,show m+1-1=m from by omega] at htop ⊢
 obtain ⟨k,ey⟩:=List.getElem?_eq_some_iff.1 htop
 have hp:0<2^s:=Nat.pow_pos (by omega)
 have hval:val aD ys=val aD (ys.take m)+aD^m*y:=by
  have:val aD ys=val aD (ys.take (m+1)):=by rw [List.take_of_length_le (by omega)]
  rw [this,aF _ _ _ k,ey]
 have hlow:=bW (hy.take m)
 rw [List.length_take,Nat.min_eq_left (by omega)] at hlow
 have a1:val aD vs=val aD (ys.take m)*2^s+aD^m*(y*2^s):=by rw [e,hval,Nat.add_mul,Nat.mul_assoc]
 have a2:val aD (ys.take m)*2^s<aD^m*2^s:=Nat.mul_lt_mul_of_pos_right hlow hp
 have hlt:val aD vs<aD^(m+1):=by
  have b1:aD^m*(2^s+y*2^s)≤aD^m*aD:=by
   apply Nat.mul_le_mul_left
   have hs64:s≤63:=by
    rcases Nat.lt_or_ge 63 s with h|h
    ·exfalso
     have:2^64≤2^s:=Nat.pow_le_pow_right (by omega) h
     have:1*2^s≤y*2^s:=Nat.mul_le_mul_right _ hy0
     have:=aL
     omega
    ·exact h
   have hW:=iA (s:=s) (by omega)
   have c1:y*2^s<2^(64-s)*2^s:=by rw [← hW];exact hs2
   have c2:=Nat.lt_of_mul_lt_mul_right c1
   have c3:(y+1)*2^s≤2^(64-s)*2^s:=Nat.mul_le_mul_right _ c2
   rw [← hW,Nat.add_mul,Nat.one_mul] at c3
   omega
  rw [Nat.mul_add] at b1
  rw [Nat.pow_succ]
  omega
 have hge:aD^m≤val aD vs:=by
  have:aD^m*1≤aD^m*(y*2^s):=Nat.mul_le_mul_left _ (by omega)
  omega
 have hlen:vs.length=m+1:=by
  have l1:=aV eD hn hlt
  rcases Nat.lt_or_ge vs.length (m+1) with h|h
  ·exfalso
   have:=bW hv
   have:aD^vs.length≤aD^m:=Nat.pow_le_pow_right bF (by omega)
   omega
  ·omega
 refine ⟨by omega,?_⟩
 refine ⟨vs[m],List.getElem?_eq_getElem (by omega),?_⟩
 have hv2:val aD vs=val aD (vs.take m)+aD^m*vs[m]:=by
  have:val aD vs=val aD (vs.take (m+1)):=by rw [List.take_of_length_le (by omega)]
  rw [this,aF _ _ _ (by omega)]
 have hvl:=bW (hv.take m)
 rw [List.length_take,Nat.min_eq_left (by omega)] at hvl
 have c1:aD^m*9223372036854775808≤aD^m*(y*2^s):=Nat.mul_le_mul_left _ hs1
 have c2:aD^m*9223372036854775808<aD^m*(vs[m]+1):=by
  rw [Nat.mul_add,Nat.mul_one]
  omega
 have:=Nat.lt_of_mul_lt_mul_left c2
 omega
theorem LongInv.start {V U0 n n' : Nat} {us:List Nat} {N d s:Nat} (hu:Dig aD us) (hul:us.length=n+1) (hU:val aD us=U0) (hU0:U0=N*2^s) (hN:N<aD^n) (hV:V=d*2^s) (hd:aD^(n'-1)≤d) (hn:n'≤n) (hn0:0<n') :
 LongInv V U0 n' (n-n'+1) us (List.replicate (n-n'+1) 0) (n-n'+1):=by
 refine ⟨hu,by omega,Dig.replicate bF _,by simp,?_,?_⟩
 ·have e:=dX aD us (n-n'+1) (by omega)
  have hp:0<2^s:=Nat.pow_pos (by omega)
  have a1:N*2^s<aD^n*2^s:=Nat.mul_lt_mul_of_pos_right hN hp
  have a2:aD^n=aD^(n-n'+1)*aD^(n'-1):=by rw [← Nat.pow_add];congr 1;omega
  have a3:aD^(n-n'+1)*val aD (us.drop (n-n'+1))<aD^(n-n'+1)*(aD^(n'-1)*2^s):=by
   rw [← Nat.mul_assoc,← a2];omega
  have a4:=Nat.lt_of_mul_lt_mul_left a3
  have a5:aD^(n'-1)*2^s≤d*2^s:=Nat.mul_le_mul_right _ hd
  rw [hV];omega
 ·rw [List.drop_of_length_le (by simp)]
  simp [val,hU]
theorem yF {ys vs:List Nat} {s y k n' : Nat} (hk1:k≤vs.length) (hk2:Norm (vs.take k)) (hk3:val aD (vs.take k)=val aD vs) (hv:val aD vs=val aD ys*2^s) (hd:Dig aD vs) (hy:Dig aD ys)
 (hl:ys.length=n') (hn:2≤n') (htop:ys[n'-1]?=some y) (hy0:0<y) (hs1:9223372036854775808≤y*2^s) (hs2:y*2^s<aD):n'=k∧∃ f,(vs.take k)[n'-1]?=some f∧9223372036854775808≤f:=by
 subst hl
 obtain ⟨h1,h2⟩:=shifted_top hy (by omega) htop hs1 hs2 (hd.take k) hk2 (hk3.trans hv) hy0
 rw [List.length_take,Nat.min_eq_left hk1] at h1
 exact ⟨h1.symm,h2⟩
theorem yG (A:Option Addr) (n c:Nat) (xs:List Nat) (A' : Option Addr) (n' c' : Nat) (ys:List Nat) (w:World) (h:Rd w A n c xs) (h' : Rd w A' n' c' ys)
 (hd:Dig aD xs) (hd' : Dig aD ys) (hn:n≤2199023255551) (hn2:2≤n') (hle:n'≤n) (hnorm:Norm ys) :
 Calls Tryz.prog 208 #[.slice A n c,.slice A' n' c'] w fun e w' =>
  Hid (∃ v v',e = .returned (.tuple #[v,v'])∧Nt w' v (val aD xs/val aD ys)∧Nt w' v' (val aD xs%val aD ys))∧Below w.heap.size w w':=by
 have hnc:n≤c:=h.cap
 have hcm:c≤9223372036854775807:=h.2.2.1
 have hnc' : n'≤c':=h'.cap
 have hcm' : c'≤9223372036854775807:=h'.2.2.1
 obtain ⟨ad',y,hA',_,hy,hcy⟩:=h'.at_ (k:=n'-1) (by omega)
 subst hA'
 have hyl:=hd'.at_ hy
 have hy0:0<y:=by
  have hne:ys≠[]:=by rintro rfl;simp at hy
  have:=hnorm hne
  rw [List.getLast_eq_getElem] at this
  obtain ⟨k,ey⟩:=List.getElem?_eq_some_iff.1 hy
  have hl:=h'.len
  simp only [hl,ey] at this
  omega
 obtain ⟨s,hs,hbl,s1,s2⟩:=qX y hy0 hyl
 have hge:=hnorm.ge (B:=aD) (by rintro rfl;simp at hy)
 rw [h'.len] at hge
 have hdp:0<val aD ys:=by
  have:0<aD^(n'-1):=Nat.pow_pos bF
  omega
 have cl:=aH (Tryz.bits_LeadingZeros64 (y:Int) w (by omega) (by have:=aL;omega))
 have HS:=aH hbl
 obtain ⟨i0,hi,hz0,hz1,hz2⟩:=info_parts eK
 have HI:=aH (aI hi (aI hz0 (aI hz1 hz2)))
 have HX:=aH (aI h hd)
 have HY:=aH (aI h' (aI hd' (aI hy (aI hy0 (aI s1 (aI s2 (aI hge hdp)))))))
 clear h h' hd hd' hi hz0 hz1 hz2 hy hy0 hyl s1 s2 hge hdp hnorm hbl
 go_enter Tryz.func208,Tryz.ntmps208
 go_wp2_with (go_at_call 238;refine (cl.out).mono ?_;rintro e w' ⟨rfl,hw⟩;rw [hw];rw [Int.toNat_natCast,HS.out])
 refine (qJ A n c xs s w HX.out.1 HX.out.2 (by omega) hs).mono ?_
 rintro e w1 ⟨⟨us,rfl,hb1,hl1,hd1,hv1⟩,hbe1⟩
 have H1:=aH (aI hb1 (aI hl1 (aI hd1 (aI hv1 hbe1))))
 clear hb1 hl1 hd1 hv1 hbe1 hcy
 go_wp2_with fail
 refine (qJ (some ad') n' c' ys s w1 (HY.out.1.below H1.out.2.2.2.2) HY.out.2.1 (by omega) hs).mono ?_
 rintro e w2 ⟨⟨vs,rfl,hb2,hl2,hd2,hv2⟩,hbe2⟩
 have H2:=aH (aI hb2 (aI hl2 (aI hd2 (aI hv2 hbe2))))
 clear hb2 hl2 hd2 hv2 hbe2
 go_wp2_with fail
 refine (nX _ _ _ vs w2 (by have:=H2.out.1.rd (by rw [H2.out.2.1];show n'+1≤9223372036854775807;omega);rwa [H2.out.2.1] at this)).mono ?_
 rintro e w3 ⟨⟨k,⟨hk1,hk2,hk3⟩,rfl⟩,rfl⟩
 have htk:=yF hk1 hk2 hk3 H2.out.2.2.2.1 H2.out.2.2.1 HY.out.2.1 HY.out.1.len (by omega) HY.out.2.2.1 HY.out.2.2.2.1 HY.out.2.2.2.2.1 HY.out.2.2.2.2.2.1
 obtain ⟨rfl,f,hf1,hf2⟩:=htk
 obtain ⟨ds,hds⟩:∃ ds,ds=vs.take n':=⟨_,rfl⟩
 have hrd:Rd w2 (some ⟨w1.heap.size,0,none⟩) n' (n'+1) ds:=by
  have:=H2.out.1.rd (by rw [H2.out.2.1];show n'+1≤9223372036854775807;omega)
  rw [H2.out.2.1] at this
  rw [hds]
  exact this.take (by omega)
 have hg12:w.heap.size<w1.heap.size:=H1.out.1.lt
 obtain ⟨g1,hg1⟩:∃ g1,g1=w.heap.size:=⟨_,rfl⟩
 obtain ⟨g2,hg2⟩:∃ g2,g2=w1.heap.size:=⟨_,rfl⟩
 have hbu:Blk w2 g1 151 us:=by rw [hg1];exact H1.out.1.below H2.out.2.2.2.2 hg12
 have hbe:Below w.heap.size w w2:=H1.out.2.2.2.2.trans (H2.out.2.2.2.2.mono (by omega))
 rw [← hg1] at hg12 hbe
 rw [← hg2] at hg12 hrd
 rw [← hds] at hf1 hk2 hk3
 have hdd:Dig aD ds:=by rw [hds];exact H2.out.2.2.1.take _
 have hV:val aD ds=val aD ys*2^s:=by rw [hk3];exact H2.out.2.2.2.1
 have HD:=aH (aI hrd (aI hdd (aI hV (aI hf1 (aI hf2 (aI hbu hbe))))))
 rw [← hg1,← hg2]
 have HG:=aH (aI hg1 hg2)
 clear hrd hdd hV hf1 hf2 hbu hbe hds hk1 hk2 hk3 hg1 hg2
 have hnk:(0:Int)≤(n:Int)-n':=by omega
 go_wp2_with (at_make;refine wpList_make_full _ rfl _ _ 100 rfl w2.heap.size 151 i0 (.int .u64 0) 1 Tryz.underlying100 HI.out.1 HI.out.2.1 HI.out.2.2.1 _ _ _ _ (n-n'+1) rfl rfl ?b0 ?b1 ?b2 ?b3 (aR _) ?_)
 case b0=>omega
 case b1=>omega
 case b2=>rw [HI.out.2.2.2];omega
 case b3=>show n-n'+1≤9223372036854775807;omega
 intro w4 hown hgw
 have hb4:Below w2.heap.size w2 w4:=(aB _ _).grown hgw (aR _) (fun _ h=>by cases h)
 have hblk:=dR hown
 obtain ⟨g3,hg3⟩:∃ g3,g3=w2.heap.size:=⟨_,rfl⟩
 rw [← hg3] at hblk ⊢
 have hg13:g1<g3:=by rw [hg3];exact HD.out.2.2.2.2.2.1.lt
 have hg23:g2<g3:=by rw [hg3,HG.out.2];exact H2.out.1.lt
 have hbu4:Blk w4 g1 151 us:=HD.out.2.2.2.2.2.1.below hb4 HD.out.2.2.2.2.2.1.lt
 have hrd4:Rd w4 (some ⟨g2,0,none⟩) n' (n'+1) ds:=HD.out.1.below hb4
 have hbe4:Below g1 w w4:=HD.out.2.2.2.2.2.2.trans (hb4.mono (by omega))
 have hst:LongInv (val aD ds) (val aD xs*2^s) n' (n-n'+1) us (List.replicate (n-n'+1) 0) (n-n'+1) :=
  LongInv.start H1.out.2.2.1 H1.out.2.1 H1.out.2.2.2.1 rfl (by have:=bW HX.out.2;rwa [HX.out.1.len] at this) HD.out.2.2.1 HY.out.2.2.2.2.2.2.1 hle (by omega)
 have HS0:=aH (aI hst (aI hblk (aI hbu4 (aI hrd4 hbe4))))
 have hVk:val aD ds≤aD^n':=by
  have:=bW HD.out.2.1
  rw [HD.out.1.len] at this
  omega
 have hVp:0<val aD ds:=by rw [HD.out.2.2.1];exact Nat.mul_pos HY.out.2.2.2.2.2.2.2 (Nat.pow_pos (by omega))
 have HV:=aH (aI hVk hVp)
 have hL:((n-n' : Nat):Int)=(n:Int)-n':=by omega
 have HL:=aH hL
 clear hst hblk hbu4 hrd4 hbe4 hown hgw hb4 hVk hVp hg3 hL
 obtain ⟨L,hLL⟩:∃ L,L=n-n'+1:=⟨_,rfl⟩
 have hLn:(L:Int)=(n:Int)-n'+1:=by omega
 have hLk:L+n'=n+1:=by omega
 have hL1:L≤2199023255553:=by omega
 have HLk:=aH (aI hLk hLn)
 rw [← hLL] at HS0 ⊢
 clear hLk hLn hLL
 go_wp2
 go_loopw [10] (fun i wr => ∃ (k:Nat) (us qs:List Nat),k≤L∧i = .int .i64 ((k:Int)-1)∧LongInv (val aD ds) (val aD xs*2^s) n' L us qs k∧Blk wr g3 151 qs∧Blk wr g1 151 us∧Rd wr (some ⟨g2,0,none⟩) n' (n'+1) ds∧Below g1 w wr) (fun i _=>(intOf i+1).toNat)
 case atStart=>exact ⟨L,us,_,aR _,rfl,HS0.out.1,HS0.out.2.1,HS0.out.2.2.1,HS0.out.2.2.2.1,HS0.out.2.2.2.2⟩
 case round =>
  clear H1 H2
  obtain ⟨k,us,qs,hk,rfl,hinv,hbq,hbu,hrd,hbe⟩:=hrel
  have hul:us.length=n+1:=by rw [hinv.2.1];exact HLk.out.1
  have hql:qs.length=L:=hinv.2.2.2.1
  rcases Nat.eq_zero_or_pos k with rfl|hk0
  ·obtain ⟨f1,f2⟩:=hinv.finish HD.out.2.2.1 HY.out.2.2.2.2.2.2.2
   have hrq:=hbq.rd (by rw [hql];show L≤9223372036854775807;omega)
   have hru:=hbu.rd (by rw [hul];show n+1≤9223372036854775807;omega)
   rw [hql] at hrq
   rw [hul] at hru
   have HF:=aH (aI f1 (aI f2 (aI hinv.1 (aI hinv.2.2.1 (aI hrq (aI hru hbe))))))
   clear f1 f2 hrq hru hinv hbq hbu hrd hbe hul hql
   simp only [show (((0:Nat):Int)-1) = -1 from rfl]
   go_wp2_with fail
   refine (eA _ _ _ qs wr HF.out.2.2.2.2.1 HF.out.2.2.2.1).mono ?_
   rintro e w5 ⟨⟨v,rfl,hv⟩,rfl⟩
   have HV1:=aH hv
   clear hv
   go_wp2_with fail
   refine (wK _ _ _ us s wr HF.out.2.2.2.2.2.1 HF.out.2.2.1 (by have:=HLk.out;omega) hs).mono ?_
   rintro e w6 ⟨v',rfl,hv',hb6⟩
   have HV2:=aH (aI hv' hb6)
   clear hv' hb6
   go_wp2
   go_ret2
   refine ⟨⟨v,v',rfl,?_,?_⟩,?_⟩
   ·rw [← HF.out.1];exact HV1.out.below HV2.out.2
   ·rw [← HF.out.2.1];exact HV2.out.1
   ·rw [← HG.out.1]
    exact HF.out.2.2.2.2.2.2.trans (HV2.out.2.mono (by
     have h1:=HF.out.2.2.2.2.2.2.size
     have h2:=HG.out.1
     omega))
  ·obtain ⟨m,rfl⟩:∃ m,k=m+1:=⟨k-1,by omega⟩
   have hwd:=hinv.window (by omega) HV.out.1
   have ct:=takeOut_any g1 m n' (n+1-m) 151 us (some ⟨g2,0,none⟩) (n'+1) ds wr hbu hinv.1 hn2 (by omega) (by have:=HLk.out;omega) (by have:=HLk.out;omega) (by omega) hrd HD.out.2.1 (fun _ ad h=>by injection h with h;rw [← h];show g2≠g1;omega) f HD.out.2.2.2.1 HD.out.2.2.2.2.1 (by rw [hwd.1];exact hwd.2.2)
   have CT:=aH ct
   have HE:=aH (aI hinv (aI hbq (aI hrd (aI hbe (aI hul (aI hql (by omega:m<L)))))))
   have hmn:(m:Int)+n'+1≤(n:Int)+1:=by have:=HLk.out;omega
   have hmne:¬ n+1=m:=by have:=HLk.out;omega
   have hbu_lt:=hbu.lt
   clear hwd ct hinv hbq hbu hrd hbe hk0 hul hql
   simp only [Int.natCast_add,Int.natCast_one,show ((m:Int)+1-1)=m from by omega]
   go_wp2_with fail
   rw [show m+n'+1-m=n'+1 from by omega]
   refine CT.out.mono ?_
   rintro e w5 ⟨zs,rfl,q1,q2,q3,_,q5,q6⟩
   obtain ⟨hinv,hbq,hrd,hbe,hul,hql,hmL⟩:=HE.out
   have hst:=hinv.step hmL HV.out.1 HV.out.2 q1 q2 q3
   obtain ⟨q,hq⟩:∃ q,q=val aD ((us.drop m).take (n'+1))/val aD ds:=⟨_,rfl⟩
   rw [← hq] at hst ⊢
   have hbq5:Blk w5 g3 151 qs:=(q6.block g3 hbq.lt (by intro e;injection e with e;omega)).trans hbq
   have hrd5:Rd w5 (some ⟨g2,0,none⟩) n' (n'+1) ds:=hrd.only (fun _ ad h=>by injection h with h;rw [← h];show g2≠g1;omega) q6
   have hbe5:Below g1 w w5:=hbe.grown q6 (Nat.le_of_lt hbu_lt) (fun _ h=>by injection h with h;omega)
   obtain ⟨z,hcz⟩:∃ z:Int,w5.cell? ⟨g3,m,none⟩=some (.int .u64 z):=⟨_,hbq5.cell_get (by omega)⟩
   have hfz:=hbq5.frozen m
   have HQ:=aH (aI hst (aI hbq5 (aI q5 (aI hrd5 hbe5))))
   have hmi:(m:Int)≤L:=by omega
   clear hst hbq5 q5 hrd5 hbe5 hinv hbq hrd hbe hul hql q1 q2 q3 q6 hq hmL
   go_wp2
   go_roundw
   case rel =>
    obtain ⟨hst,hbq5,q5,hrd5,hbe5⟩:=HQ.out
    exact ⟨m,put us m zs,qs.set m q,by omega,rfl,hst,hbq5.set_ _ _,q5.far (by show g1≠g3;omega) _,hrd5.only (fun _ ad h=>by injection h with h;rw [← h];show g2≠g3;omega) (eH _ _ _ _),hbe5.setCell (by show g1≤g3;omega) _⟩
   case measure=>simp [intOf]
theorem Nt.zero (w:World):Nt w (.slice none 0 0) 0:=⟨none,0,0,[],rfl,Rd.nil,Dig.nil _,Norm.nil,rfl⟩
def lT (w:World) (a b:Nat) (e:Ending) (w' : World):Prop := ∃ v v',e = .returned (.tuple #[v,v'])∧Nt w' v a∧Nt w' v' b∧Below w.heap.size w w'
theorem divide_any (A:Option Addr) (n c:Nat) (xs:List Nat) (A' : Option Addr) (n' c' : Nat) (ys:List Nat) (w:World) (h:Rd w A n c xs) (h' : Rd w A' n' c' ys)
 (hd:Dig aD xs) (hd' : Dig aD ys) (hn:n≤2199023255551) (hx:Norm xs) (hy:Norm ys) (h0:0<n') :
 Calls Tryz.prog 143 #[.slice A n c,.slice A' n' c'] w (lT w (val aD xs/val aD ys) (val aD xs%val aD ys)):=by
 have hnc:n≤c:=h.cap
 have hcm:c≤9223372036854775807:=h.2.2.1
 have hnc' : n'≤c':=h'.cap
 have hcm' : c'≤9223372036854775807:=h'.2.2.1
 have hpos:0<val aD ys:=hy.pos bF (by rintro rfl;have:=h'.len;simp at this;omega)
 have cc:=aH (vM A n c xs A' n' c' ys w h h' hd hd' hx hy)
 have HX:=aH (aI h (aI hd hx))
 have HY:=aH (aI h' (aI hd' (aI hy hpos)))
 clear h h' hd hd' hx hy hpos
 by_cases hlt:val aD xs<val aD ys
 ·have hc:bU (val aD xs) (val aD ys) = -1:=by unfold bU;rw [if_pos (by omega)]
  rw [hc] at cc
  have HL:=aH hlt
  clear hc hlt
  go_enter Tryz.func143,Tryz.ntmps143
  go_wp2_with fail
  refine cc.out.mono ?_
  rintro e w1 ⟨rfl,hb⟩
  go_wp2
  go_ret2
  refine ⟨_,_,rfl,?_,?_,hb⟩
  ·rw [Nat.div_eq_of_lt HL.out];exact Nt.zero _
  ·rw [Nat.mod_eq_of_lt HL.out];exact ⟨A,n,c,xs,rfl,HX.out.1.below hb,HX.out.2.1,HX.out.2.2,rfl⟩
 ·obtain ⟨z,hz,hz0⟩:∃ z:Int,bU (val aD xs) (val aD ys)=z∧¬ z<0:=⟨_,rfl,by unfold bU;rw [if_neg (by omega)];split <;> omega⟩
  rw [hz] at cc
  have hle:n'≤n:=by
   rcases Nat.lt_or_ge n n' with h|h
   ·have:=dF eD HX.out.2.1 HY.out.2.2.1 (by rw [HX.out.1.len,HY.out.1.len];exact h)
    omega
   ·exact h
  clear hz hlt
  by_cases h1:n'=1
  ·subst h1
   obtain ⟨ad',y,hA',_,hy,hcy⟩:=HY.out.1.at_ (k:=0) (by omega)
   subst hA'
   have hyy:val aD ys=y:=by
    have hl:=HY.out.1.len
    match ys,hl,hy with
    | [a],_,hy=>simp at hy;subst hy;simp [val]
   have hyl:y<aD:=HY.out.2.1.at_ hy
   have hy0:0<y:=by rw [← hyy];exact HY.out.2.2.2
   have cd:=aH (fun w1 (hb:Below w.heap.size w w1)=>oJ A n c xs y w1 (HX.out.1.below hb) HX.out.2.1 (by omega) hy0 hyl)
   have HYY:=aH (aI hyy hyl)
   have hm0:val aD xs%y<aD:=Nat.lt_trans (Nat.mod_lt _ hy0) hyl
   obtain ⟨r,hr⟩:∃ r,r=val aD xs%y:=⟨_,rfl⟩
   rw [← hr] at cd hm0
   have HR:=aH (aI hr hm0)
   clear hy hyy hyl hy0 hr hm0
   go_enter Tryz.func143,Tryz.ntmps143
   go_wp2_with fail
   refine cc.out.mono ?_
   rintro e w1 ⟨rfl,hb⟩
   have hcy1:w1.cell? ad'=some (.int .u64 (y:Int)):=(hb.cell (p:=ad') (by omega)).trans (by simpa [Addr.add] using hcy)
   have HB:=aH hb
   clear hcy hb
   go_wp2_with fail
   refine (cd.out w1 HB.out).mono ?_
   rintro e w2 ⟨⟨v,rfl,hv⟩,hb2⟩
   have HV:=aH (aI hv hb2)
   clear hv hb2
   go_wp2_with fail
   refine (cA r HR.out.2 w2).mono ?_
   rintro e w3 ⟨v',rfl,hv',hb3⟩
   have HV2:=aH (aI hv' hb3)
   clear hv' hb3
   go_wp2
   go_ret2
   refine ⟨v,v',rfl,?_,?_,HB.out.trans ((HV.out.2.mono HB.out.size).trans (HV2.out.2.mono (Nat.le_trans HB.out.size HV.out.2.size)))⟩
   ·rw [HYY.out.1];exact HV.out.1.below HV2.out.2
   ·rw [HYY.out.1,← HR.out.1];exact HV2.out.1
  ·have h2:2≤n':=by omega
   have hz1:((n' : Int)==1)=false:=by simp;omega
   have cd:=aH (fun w1 (hb:Below w.heap.size w w1)=>yG A n c xs A' n' c' ys w1 (HX.out.1.below hb) (HY.out.1.below hb) HX.out.2.1 HY.out.2.1 hn h2 hle HY.out.2.2.1)
   clear h1
   go_enter Tryz.func143,Tryz.ntmps143
   go_wp2_with fail
   refine cc.out.mono ?_
   rintro e w1 ⟨rfl,hb⟩
   have HB:=aH hb
   clear hb
   go_wp2_with fail
   refine (cd.out w1 HB.out).mono ?_
   rintro e w2 ⟨⟨v,v',rfl,hv,hv'⟩,hb2⟩
   have HV:=aH (aI hv (aI hv' hb2))
   clear hv hv' hb2
   go_wp2
   go_ret2
   exact ⟨v,v',rfl,HV.out.1,HV.out.2.1,HB.out.trans (HV.out.2.2.mono HB.out.size)⟩
theorem jD (a b:Nat) (w:World) (ha:a<aD) (hb:b<aD) :
 Calls Tryz.prog 161 #[.int .u64 (a:Int),.int .u64 (b:Int)] w (Gives w (.int .u64 ((Nat.gcd a b:Nat):Int))):=by
 have HA:=aH (aI ha hb)
 clear ha hb
 go_enter Tryz.func161,Tryz.ntmps161
 go_wp2
 go_loopw [0,1] (fun x y wr => ∃ p q:Nat,x = .int .u64 (p:Int)∧y = .int .u64 (q:Int)∧Hid (Nat.gcd p q=Nat.gcd a b∧p<aD∧q<aD)∧Below w.heap.size w wr) (fun _ y _=>(intOf y).toNat)
 case atStart=>exact ⟨a,b,rfl,rfl,⟨rfl,HA.out.1,HA.out.2⟩,aB _ _⟩
 case round =>
  obtain ⟨p,q,rfl,rfl,hpq,hbe⟩:=hrel
  rcases Nat.eq_zero_or_pos q with rfl|hq
  ·have ht:(((0:Nat):Int) != 0)=false:=by simp
   simp only [Int.natCast_zero] at ht ⊢
   go_wp2
   go_ret
   refine ⟨bX ?_,hbe⟩
   rw [← hpq.out.1,Nat.gcd_zero_right]
  ·have ht:((q:Int) != 0)=true:=by simp;omega
   obtain ⟨r,hr⟩:∃ r:Nat,r=p%q:=⟨_,rfl⟩
   have hrq:r<q:=by rw [hr];exact Nat.mod_lt _ hq
   have e2:(p:Int).tmod q=r:=by rw [hr,Int.tmod_eq_emod_of_nonneg (by omega),Int.natCast_emod]
   have e4:(p:Int)%q=r:=by rw [hr,Int.natCast_emod]
   have hbd:(r:Int)≤18446744073709551615:=by have:=hpq.out;have:=aL;omega
   have hne:¬ ((q:Int)=0):=by omega
   have HH:Hid (Nat.gcd q r=Nat.gcd a b∧q<aD∧r<aD):=by
    have:=hpq.out
    refine ⟨?_,this.2.2,by omega⟩
    rw [← this.1,hr,Nat.gcd_comm p q,Nat.gcd_rec q p,Nat.gcd_comm]
   clear hr
   go_wp2
   go_quiet (fail)
   go_wp2
   go_roundw
   case rel=>exact ⟨q,r,rfl,rfl,HH,bZ hbe _⟩
   case measure=>simp [intOf];omega
def oK (oa ob na nb s:Nat):Value := .agg #[.int .u64 (oa:Int),.int .u64 (ob:Int),.int .u64 (na:Int),.int .u64 (nb:Int),.int .i64 (s:Int)]
theorem yH (oa ob na nb s q oa2 ob2:Nat) (w:World) (h1:oa+q*na=oa2) (h2:ob+q*nb=ob2) (b1:oa2<aD) (b2:ob2<aD) (hs:s<4294967296) :
 Calls Tryz.prog 239 #[.agg #[.int .u64 (oa:Int),.int .u64 (ob:Int),.int .u64 (na:Int),.int .u64 (nb:Int),.int .i64 (s:Int)],.int .u64 (q:Int)] w fun e w' =>
  e = .returned (.agg #[.int .u64 (na:Int),.int .u64 (nb:Int),.int .u64 (oa2:Int),.int .u64 (ob2:Int),.int .i64 ((s:Int)+1)])∧Below w.heap.size w w':=by
 obtain ⟨p1,hp1⟩:∃ p1:Nat,(q:Int)*na=p1:=⟨q*na,by simp⟩
 obtain ⟨p2,hp2⟩:∃ p2:Nat,(q:Int)*nb=p2:=⟨q*nb,by simp⟩
 have k1:(oa:Int)+p1=oa2:=by rw [← hp1,← h1];simp
 have k2:(ob:Int)+p2=ob2:=by rw [← hp2,← h2];simp
 have c1:(oa2:Int)≤18446744073709551615:=by have:=aL;omega
 have c2:(ob2:Int)≤18446744073709551615:=by have:=aL;omega
 have c3:(p1:Int)≤18446744073709551615:=by omega
 have c4:(p2:Int)≤18446744073709551615:=by omega
 clear h1 h2 b1 b2
 go_enter Tryz.func239,Tryz.ntmps239
 go_wp2
 exact bodyPost_ret (v := .agg #[.int .u64 (na:Int),.int .u64 (nb:Int),.int .u64 (oa2:Int),.int .u64 (ob2:Int),.int .i64 ((s:Int)+1)]) (by simp [results,Tryz.results239,go_sem]) rfl ⟨rfl,((aB _ _).alloc (aR _) _).alloc (by simp) _⟩
def LowInv (us zs:List Nat) (Y i bw:Nat):Prop :=
 Dig aD zs∧zs.length=us.length∧bw<aD∧val aD (zs.take i)+Y=val aD (us.take i)+aD^i*bw∧zs.drop i=us.drop i
theorem low_alg (A Y B P bw W r q u:Nat) (h:A+Y=B+P*bw) (h2:r+bw=u+W*q):A+P*r+Y=B+P*u+P*W*q:=by grind
theorem LowInv.step {us zs:List Nat} {Y i bw u:Nat} (h:LowInv us zs Y i bw) (hu:zs[i]?=some u) :
 LowInv us (zs.set i ((u+aD-bw-0)%aD)) Y (i+1) (if u<bw+0 then 1 else 0):=by
 obtain ⟨h1,h2,h3,h4,h5⟩:=h
 obtain ⟨hi,eu⟩:=List.getElem?_eq_some_iff.1 hu
 have ul:=h1.at_ hu
 have eus:us[i]'(by omega)=u:=by
  have e1:=List.drop_eq_getElem_cons hi
  have e2:=List.drop_eq_getElem_cons (l:=us) (i:=i) (by omega)
  rw [h5] at e1
  rw [e1] at e2
  injection e2 with e2
  rw [← e2,eu]
 have hr:(u+aD-bw-0)%aD<aD:=Nat.mod_lt _ bF
 have hdm:(u+aD-bw-0)%aD+bw=u+aD*(if u<bw+0 then 1 else 0):=by
  have:=aL
  rw [this] at ul h3 ⊢
  split <;> omega
 refine ⟨h1.set hr,by simp [h2],by split <;> (have:=eD;omega),?_,?_⟩
 ·rw [aF _ _ _ (by simp;omega),List.take_set_of_le (aR _),List.getElem_set_self,aF _ _ _ (by omega),eus,Nat.pow_succ]
  generalize (if u<bw+0 then 1 else 0)=q at *
  generalize (u+aD-bw-0)%aD=r at *
  exact low_alg _ _ _ _ _ _ _ _ _ h4 hdm
 ·rw [List.drop_set_of_lt (by omega)]
  have e1:=List.drop_eq_getElem_cons hi
  have e2:=List.drop_eq_getElem_cons (l:=us) (i:=i) (by omega)
  rw [h5,e2] at e1
  injection e1 with _ e1
  exact e1.symm
theorem LowInv.finish {us zs:List Nat} {Y bw:Nat} (h:LowInv us zs Y us.length bw) (hY:Y≤val aD us):val aD zs=val aD us-Y:=by
 obtain ⟨h1,h2,h3,h4,h5⟩:=h
 rw [List.take_of_length_le (by omega),List.take_of_length_le (aR _)] at h4
 have hz:=bW h1
 rw [h2] at hz
 rcases Nat.eq_zero_or_pos bw with e|e
 ·subst e
  rw [Nat.mul_zero] at h4
  omega
 ·have:aD^us.length*1≤aD^us.length*bw:=Nat.mul_le_mul_left _ e
  omega
theorem first_part {zs:List Nat} {n L cy X:Nat} (hl:zs.length=n) (hd:Dig aD zs) (hc:cy<aD) (hn:n<L) (hv:val aD zs+aD^n*cy=val aD (((List.replicate L 0).drop 0).take n)+X) :
 Dig aD ((put (List.replicate L 0) 0 zs).set n cy)∧((put (List.replicate L 0) 0 zs).set n cy).length=L∧val aD ((put (List.replicate L 0) 0 zs).set n cy)=X:=by
 subst hl
 have hlen:(put (List.replicate L 0) 0 zs).length=L:=by rw [cV (by simp;omega)];simp
 have e1:(put (List.replicate L 0) 0 zs).set (0+zs.length) cy=put (List.replicate L 0) 0 (zs ++ [cy]):=gZ rfl (by simp;omega)
 rw [Nat.zero_add] at e1
 refine ⟨(sE (Dig.replicate bF _) hd).set hc,by rw [List.length_set,hlen],?_⟩
 rw [e1]
 unfold put
 rw [List.take_zero,List.nil_append,fN,cM,List.drop_replicate,lI,Nat.mul_zero,Nat.add_zero,hv]
 rw [List.drop_zero,List.take_replicate,lI,Nat.zero_add]
theorem second_part {us zs:List Nat} {n' bor Y:Nat} (hl:zs.length=n') (hd:Dig aD zs) (hu:Dig aD us) (hc:bor<aD) (hn:n'≤us.length) (hv:val aD zs+Y=val aD ((us.drop 0).take n')+aD^n'*bor) :
 LowInv us (put us 0 zs) Y n' bor:=by
 subst hl
 have hlen:(put us 0 zs).length=us.length:=cV (by omega)
 refine ⟨sE hu hd,hlen,hc,?_,?_⟩
 ·have e:(put us 0 zs).take zs.length=zs:=by
   unfold put
   rw [List.take_zero,List.nil_append,List.take_append_of_le_length (aR _),List.take_of_length_le (aR _)]
  rw [e,hv,List.drop_zero]
 ·unfold put
  rw [List.take_zero,List.nil_append,List.drop_append_of_le_length (aR _),List.drop_of_length_le (aR _),List.nil_append,Nat.zero_add]
theorem yI (x:Nat) (A:Option Addr) (n c:Nat) (xs:List Nat) (y:Nat) (A' : Option Addr) (n' c' : Nat) (ys:List Nat) (w:World) (h:Rd w A n c xs) (h' : Rd w A' n' c' ys)
 (hd:Dig aD xs) (hd' : Dig aD ys) (hx:x<aD) (hy:y<aD) (hn:n≤2199023255551) (hn' : n'≤2199023255551) (hge:y*val aD ys≤x*val aD xs) :
 Calls Tryz.prog 240 #[.int .u64 (x:Int),.slice A n c,.int .u64 (y:Int),.slice A' n' c'] w (GivesNt w (x*val aD xs-y*val aD ys)):=by
 have HX:=aH (aI h (aI hd hx))
 have HY:=aH (aI h' (aI hd' (aI hy hge)))
 have hnc:n≤c:=h.cap
 have hcm:c≤9223372036854775807:=h.2.2.1
 have hnc' : n'≤c':=h'.cap
 have hcm' : c'≤9223372036854775807:=h'.2.2.1
 obtain ⟨i0,hi,hz0,hz1,hz2⟩:=info_parts eK
 have HI:=aH (aI hi (aI hz0 (aI hz1 hz2)))
 clear h h' hd hd' hi hz0 hz1 hz2 hx hy hge
 obtain ⟨M,hM,hM1,hM2,hM3⟩:∃ M:Nat,max (n:Int) n'=M∧n≤M∧n'≤M∧M≤2199023255551:=⟨max n n',by omega,by omega,by omega,by omega⟩
 go_enter Tryz.func240,Tryz.ntmps240
 go_wp2_with (at_make;refine wpList_make_full _ rfl _ _ 100 rfl w.heap.size 151 i0 (.int .u64 0) 1 Tryz.underlying100 HI.out.1 HI.out.2.1 HI.out.2.2.1 _ _ _ _ (M+1) rfl rfl ?b0 ?b1 ?b2 ?b3 (aR _) ?_)
 case b0=>omega
 case b1=>omega
 case b2=>rw [HI.out.2.2.2];omega
 case b3=>show M+1≤9223372036854775807;omega
 intro w1 hown hg1
 have hb1:Below w.heap.size w w1:=(aB _ _).grown hg1 (aR _) (fun _ h=>by cases h)
 have hblk:=dR hown
 obtain ⟨g,hg⟩:∃ g,g=w.heap.size:=⟨_,rfl⟩
 rw [← hg] at hblk ⊢
 have HG:=aH hg
 have ca:=iO g 0 n (M+1) 151 (List.replicate (M+1) 0) A n c xs x w1 hblk (Dig.replicate bF _) (by simp;omega) (aR _) (by omega) (by omega) (HX.out.1.below hb1) HX.out.2.1 (HX.out.1.away (by omega)) HX.out.2.2
 have CA:=aH ca
 have HM:=aH hM
 obtain ⟨L,hL⟩:∃ L,L=M+1:=⟨_,rfl⟩
 have hLi:(M:Int)+1=L:=by omega
 rw [← hL] at CA ⊢
 have hL1:n<L:=by omega
 have hL2:n'<L:=by omega
 have hL3:L≤2199023255552:=by omega
 clear hown hg1 hblk ca hg hM hM1 hM2 hM3 hL
 go_wp2_with fail
 refine CA.out.mono ?_
 rintro e w2 ⟨zs,cy,rfl,q1,q2,q3,q4,q5,q6⟩
 obtain ⟨f1,f2,f3⟩:=first_part q1 q2 q3 hL1 q4
 have hb2:Below w.heap.size w w2:=hb1.grown q6 hb1.size (fun _ h=>by injection h with h;rw [← h,HG.out];exact aR _)
 obtain ⟨z,hcz⟩:∃ z:Int,w2.cell? ⟨g,n,none⟩=some (.int .u64 z):=⟨_,q5.cell_get (by rw [cV (by simp;omega)];simp;omega)⟩
 have hfz:=q5.frozen n
 obtain ⟨us,hus⟩:∃ us,us=(put (List.replicate L 0) 0 zs).set n cy:=⟨_,rfl⟩
 rw [← hus] at f1 f2 f3
 have hblk3:Blk (w2.setCell ⟨g,n,none⟩ (.int .u64 (cy:Int))) g 151 us:=by rw [hus];exact q5.set_ _ _
 have hb3:Below w.heap.size w (w2.setCell ⟨g,n,none⟩ (.int .u64 (cy:Int))):=hb2.setCell (by rw [HG.out];exact aR _) _
 have hw3:=aH (aI hblk3 (aI hb3 (aI f1 (aI f2 f3))))
 clear hblk3 hb3 f1 f2 f3 hus q1 q2 q3 q4 q5 q6 hb2 hb1 CA
 go_wp2_with fail
 generalize w2.setCell ⟨g,n,none⟩ (.int .u64 (cy:Int))=w3 at *
 obtain ⟨hblk3,hb3,f1,f2,f3⟩:=hw3.out
 refine (lR g 0 n' L 151 us A' n' c' ys y w3 hblk3 f1 (by omega) (aR _) (by omega) (by omega) (HY.out.1.below hb3) HY.out.2.1 (HY.out.1.away (by rw [HG.out];exact aR _)) HY.out.2.2.1).mono ?_
 rintro e w4 ⟨zs2,bor,rfl,q1,q2,q3,q4,q5,q6⟩
 have hb4:Below w.heap.size w w4:=hb3.grown q6 hb3.size (fun _ h=>by injection h with h;rw [← h,HG.out];exact aR _)
 have hlow:=second_part q1 q2 f1 q3 (by omega) q4
 have H4:=aH (aI hlow (aI q5 (aI hb4 (aI f2 f3))))
 clear hblk3 hb3 f1 f2 f3 q1 q2 q3 q4 q5 q6 hb4 hlow hw3 hcz hfz
 go_wp2
 go_loopw [10,11] (fun b i wr => ∃ (k bw:Nat) (qs:List Nat),n'≤k∧k≤L∧i = .int .i64 (k:Int)∧b = .int .u64 (bw:Int)∧LowInv us qs (y*val aD ys) k bw∧Blk wr g 151 qs∧Below w.heap.size w wr) (fun _ i _=>L-(intOf i).toNat)
 case atStart=>exact ⟨n',bor,_,aR _,by omega,rfl,rfl,H4.out.1,H4.out.2.1,H4.out.2.2.1⟩
 case round =>
  obtain ⟨k,bw,qs,hk1,hk2,rfl,rfl,hinv,hblk,hb⟩:=hrel
  have hql:qs.length=L:=by rw [hinv.2.1];exact H4.out.2.2.2.1
  by_cases hlt:k<L
  ·obtain ⟨u,hu⟩:∃ u,qs[k]?=some u:=⟨_,List.getElem?_eq_getElem (by omega)⟩
   have hcz:=hblk.cell hu
   have hfz:=hblk.frozen k
   have hst:=hinv.step hu
   obtain ⟨q,hq⟩:∃ q:Nat,q=if u<bw+0 then 1 else 0:=⟨_,rfl⟩
   obtain ⟨r,hr⟩:∃ r:Nat,r=(u+aD-bw-0)%aD:=⟨_,rfl⟩
   have hsub:∀ w,(callFunc 254 #[.int .u64 (u:Int),.int .u64 (bw:Int),.int .u64 0]).run Tryz.prog w = .ok (.value (.tuple #[.int .u64 (r:Int),.int .u64 (q:Int)])) w:=by
    intro w
    have:=mP u bw 0 (by omega) w
    rw [← hq,← hr] at this
    exact this
   rw [← hq,← hr] at hst
   have HE:=aH (aI hst hblk)
   clear hst hblk hinv hu hql hq hr
   go_wp2
   go_roundw
   case rel=>exact ⟨k+1,q,qs.set k r,by omega,by omega,by go_num,rfl,HE.out.1,HE.out.2.set_ _ _,hb.setCell (by rw [HG.out];exact aR _) _⟩
   case measure=>simp [intOf];omega
  ·obtain rfl:k=L:=by omega
   have hrd:=hblk.rd (by rw [hql];show k≤9223372036854775807;omega)
   rw [hql] at hrd
   have hfin:val aD qs=x*val aD xs-y*val aD ys:=by
    have h2:=H4.out.2.2.2
    have hi2:=hinv
    rw [← h2.1] at hi2
    rw [hi2.finish (by rw [h2.2];exact HY.out.2.2.2),h2.2]
   have HF:=aH (aI hinv.1 (aI hfin hrd))
   clear hrd hfin hinv hblk hql hlt
   go_wp2_with (go_at_call 212;refine (eA _ _ _ qs _ HF.out.2.2 HF.out.1).mono ?_;rintro e w' ⟨⟨v,rfl,hv⟩,rfl⟩)
   go_ret
   exact ⟨v,rfl,by rw [← HF.out.2.1];exact hv,hb⟩
theorem lead_alg (Z P T S W a1 a2 q r:Nat) (hW:W=T*S) (h:T*q+r=a2):Z+P*a2+P*W*a1=(a1*S+q)*(T*P)+(r*P+Z):=by subst hW;subst h;grind
theorem lead_bits {xs:List Nat} {n s a1 a2:Nat} (hd:Dig aD xs) (hl:xs.length≤n) (hn:2≤n) (hs:s≤63) (h1:xs.getD (n-1) 0=a1) (h2:xs.getD (n-2) 0=a2) (hb:a1*2^s<aD) :
 a2/2^(64-s)<2^s∧a1*2^s+a2/2^(64-s)<aD∧∃ α,val aD xs=(a1*2^s+a2/2^(64-s))*(2^(64-s)*aD^(n-2))+α∧α<2^(64-s)*aD^(n-2):=by
 have l2:a2<aD:=by rw [← h2];exact hd.get0 bF _
 have hlt:=hi_lt (s:=s) (by omega) l2
 have hW:=iA (s:=s) (by omega)
 have hpT:0<2^(64-s):=Nat.pow_pos (by omega)
 have htop:a1*2^s+a2/2^(64-s)<aD:=by
  have c1:a1*2^s<2^(64-s)*2^s:=by rw [← hW];exact hb
  have c2:=Nat.lt_of_mul_lt_mul_right c1
  have c3:(a1+1)*2^s≤2^(64-s)*2^s:=Nat.mul_le_mul_right _ c2
  rw [← hW,Nat.add_mul,Nat.one_mul] at c3
  omega
 refine ⟨hlt,htop,?_⟩
 obtain ⟨m,rfl⟩:∃ m,n=m+2:=⟨n-2,by omega⟩
 rw [show m+2-1=m+1 from by omega] at h1
 rw [show m+2-2=m from by omega] at h2 ⊢
 have hval:val aD xs=val aD (xs.take m)+aD^m*a2+aD^(m+1)*a1:=by
  have e:∀ k,val aD (xs.take (k+1))=val aD (xs.take k)+aD^k*xs.getD k 0:=by
   intro k
   rcases Nat.lt_or_ge k xs.length with h|h
   ·rw [aF _ _ _ h,List.getD,List.getElem?_eq_getElem h];rfl
   ·rw [List.take_of_length_le (by omega),List.take_of_length_le h,List.getD,List.getElem?_eq_none h]
    show _=_+aD^k*0
    rw [Nat.mul_zero,Nat.add_zero]
  have:val aD xs=val aD (xs.take (m+1+1)):=by rw [List.take_of_length_le (by omega)]
  rw [this,e,e,h1,h2]
 have hlow:val aD (xs.take m)<aD^m:=by
  have:=bW (hd.take m)
  have h3:aD^(xs.take m).length≤aD^m:=Nat.pow_le_pow_right bF (by rw [List.length_take];omega)
  omega
 have hdm:=Nat.div_add_mod a2 (2^(64-s))
 have hmt:a2%2^(64-s)<2^(64-s):=Nat.mod_lt _ hpT
 refine ⟨a2%2^(64-s)*aD^m+val aD (xs.take m),?_,?_⟩
 ·rw [hval,Nat.pow_succ]
  generalize val aD (xs.take m)=Z at *
  generalize a2/2^(64-s)=q at *
  generalize a2%2^(64-s)=r at *
  generalize aD^m=P at *
  exact lead_alg _ _ _ _ _ _ _ _ _ hW hdm
 ·have:(a2%2^(64-s)+1)*aD^m≤2^(64-s)*aD^m:=Nat.mul_le_mul_right _ hmt
  rw [Nat.add_mul,Nat.one_mul] at this
  omega
def SimOk (a b oa ob na nb s:Nat):Prop :=
 s < 4294967296∧(0<s→oa<aD∧ob<aD∧na<aD∧nb<aD∧∃ a' b',a=nb*a'+ob*b'∧b=na*a'+oa*b'∧b'<a'∧b'<b ∧
   (s%2=0→oa*a=a'+ob*b∧nb*b=b'+na*a)∧(s%2=1→ob*b=a'+oa*a∧na*a=b'+nb*b))
theorem SimOk.zero (a b oa ob na nb:Nat):SimOk a b oa ob na nb 0:=⟨by omega,fun h=>absurd h (by omega)⟩
def vT (x y ob nb s:Nat):Prop:=0<s→nb≤y∧ob+nb≤x-y
theorem SimOk.of_steps {x0 y0 x y oa ob na nb s K α β a b:Nat} (h:Pl.Steps x0 y0 x y oa ob na nb s) (ht:vT x y ob nb s) (hx0:x0<aD) (hy0:y0≤x0)
 (ha:a=x0*K+α) (hb:b=y0*K+β) (hα:α<K) (hβ:β<K):SimOk a b oa ob na nb s:=by
 rcases Nat.eq_zero_or_pos s with rfl|hs
 ·exact SimOk.zero _ _ _ _ _ _
 ·obtain ⟨c1,c2⟩:=ht hs
  have hyp:0<y:=Nat.lt_of_lt_of_le h.nb1 c1
  have hxp:0<x:=Nat.lt_of_lt_of_le hyp h.lt
  have hnb:=h.nb_le hxp
  have hna:=h.na_le hxp
  have hsum:=h.sum_le hyp
  obtain ⟨o1,o2,o3,o4⟩:=h.ord hs
  have hsb:s<4294967296:=by
   rcases Nat.lt_or_ge s 4294967296 with e|e
   ·exact e
   ·exfalso
    have hsn:=h.sb
    have b1:4294967296≤nb:=Nat.le_trans e hsn
    have b2:4294967296≤x:=Nat.le_trans b1 (Nat.le_trans c1 h.lt)
    have b3:4294967296*4294967296≤nb*x:=Nat.mul_le_mul b1 b2
    have:=h.i1
    have:=aL
    omega
  refine ⟨hsb,fun _=>⟨by omega,by omega,by omega,by omega,?_⟩⟩
  obtain ⟨a',b',e1,e2,e3,e4,e5⟩:=h.lift hs c1 c2 ha hb hα hβ
  refine ⟨a',b',e1,e2,e3,?_,e4,e5⟩
  have:1*a'≤na*a':=Nat.mul_le_mul_right _ o3
  rw [Nat.one_mul] at this
  omega
def eQ:Obj := .cells #[.int .u64 0,.int .u64 0,.int .u64 0,.int .u64 0,.int .i64 0] 241
def oL (oa ob na nb s:Nat):Obj := .cells #[.int .u64 (oa:Int),.int .u64 (ob:Int),.int .u64 (na:Int),.int .u64 (nb:Int),.int .i64 (s:Int)] 241
theorem bM {W:World} {g oa ob na nb s:Nat} (h:W.heap[g]?=some (oL oa ob na nb s)) :
 W.cell? ⟨g,0,none⟩=some (.int .u64 (oa:Int))∧W.cell? ⟨g,1,none⟩=some (.int .u64 (ob:Int))∧W.cell? ⟨g,2,none⟩=some (.int .u64 (na:Int))∧W.cell? ⟨g,3,none⟩=some (.int .u64 (nb:Int))∧W.cell? ⟨g,4,none⟩=some (.int .i64 (s:Int)) ∧
  W.frozen? ⟨g,0,none⟩=false∧W.frozen? ⟨g,1,none⟩=false∧W.frozen? ⟨g,2,none⟩=false∧W.frozen? ⟨g,3,none⟩=false∧W.frozen? ⟨g,4,none⟩=false:=by
 unfold oL at h
 simp [World.cell?,World.frozen?,h]
theorem dI:eQ=oL 0 0 0 0 0:=rfl
theorem fC {W:World} {g oa ob na nb s oa' ob' na' nb' s' : Nat} (h:W.heap[g]?=some (oL oa ob na nb s)) :
 (((((W.setCell ⟨g,0,none⟩ (.int .u64 (oa' : Int))).setCell ⟨g,1,none⟩ (.int .u64 (ob' : Int))).setCell ⟨g,2,none⟩ (.int .u64 (na' : Int))).setCell ⟨g,3,none⟩ (.int .u64 (nb' : Int))).setCell ⟨g,4,none⟩ (.int .i64 (s' : Int))).heap[g]?=some (oL oa' ob' na' nb' s'):=by
 unfold oL at h ⊢
 simp [World.setCell,Array.getElem?_modify,h]
theorem fI {W:World} {g k:Nat} (hk:k≠g) (a b c d e:Value) :
 (((((W.setCell ⟨g,0,none⟩ a).setCell ⟨g,1,none⟩ b).setCell ⟨g,2,none⟩ c).setCell ⟨g,3,none⟩ d).setCell ⟨g,4,none⟩ e).heap[k]?=W.heap[k]?:=by
 rw [Below.heap_setCell _ _ _ _ hk,Below.heap_setCell _ _ _ _ hk,Below.heap_setCell _ _ _ _ hk,Below.heap_setCell _ _ _ _ hk,Below.heap_setCell _ _ _ _ hk]
theorem bN {W0 W:World} {B g:Nat} (h:Below B W0 W) (hg:B≤g) (a b c d e:Value) :
 Below B W0 (((((W.setCell ⟨g,0,none⟩ a).setCell ⟨g,1,none⟩ b).setCell ⟨g,2,none⟩ c).setCell ⟨g,3,none⟩ d).setCell ⟨g,4,none⟩ e) :=
 ((((h.setCell hg _).setCell hg _).setCell hg _).setCell hg _).setCell hg _
theorem dS {W:World} {g oa ob na nb s:Nat} (fr:Array Value) (h:W.heap[g]?=some (oL oa ob na nb s)) (hf:fr.getD 4 undef = .pointer (some ⟨g,0,none⟩)) :
 (results Tryz.f205 fr).run Tryz.prog W = .ok (oK oa ob na nb s) W:=by
 obtain ⟨c0,c1,c2,c3,c4,z0,z1,z2,z3,z4⟩:=bM h
 rw [Array.getD_eq_getD_getElem?] at hf
 simp [results,Tryz.results205,hf,go_sem,c0,c1,c2,c3,c4,oK]
theorem iP {W W5:World} (h:Below (W.alloc eQ).drew.heap.size (W.alloc eQ).drew W5):W5.heap[W.heap.size]?=some (oL 0 0 0 0 0):=(h.block W.heap.size (by simp [World.drew])).trans (heap_alloc_new W _)
def Behind (W0 W:World) (gr gs gn oa ob na nb s na2 nb2 oa2 ob2 s2:Nat):Prop :=
 W.heap[gn]?=some (oL oa2 ob2 na2 nb2 s2)∧W.heap[gs]?=some (oL oa ob na nb s)∧W.heap[gr]?=some eQ∧Below gr W0 W∧gn≠gs∧gn≠gr
theorem Behind.fresh {W0 wr X w5:World} {gr gs oa ob na nb s oa2 ob2:Nat} (hX:Below wr.heap.size wr X) (hb5:Below X.heap.size X w5) (hs:wr.heap[gs]?=some (oL oa ob na nb s)) (hr:wr.heap[gr]?=some eQ) (hb:Below gr W0 wr) :
 Behind W0 (w5.alloc (.cells #[.int .u64 (na:Int),.int .u64 (nb:Int),.int .u64 (oa2:Int),.int .u64 (ob2:Int),.int .i64 ((s:Int)+1)] 241)) gr gs w5.heap.size oa ob na nb s oa2 ob2 na nb (s+1):=by
 have h1:gs<wr.heap.size:=(Array.getElem?_eq_some_iff.1 hs).1
 have h2:gr<wr.heap.size:=(Array.getElem?_eq_some_iff.1 hr).1
 have h3:=hX.size
 have h4:=hb5.size
 refine ⟨?_,?_,?_,?_,by omega,by omega⟩
 ·have:=heap_alloc_new w5 (.cells #[.int .u64 (na:Int),.int .u64 (nb:Int),.int .u64 (oa2:Int),.int .u64 (ob2:Int),.int .i64 ((s:Int)+1)] 241)
  unfold oL
  rw [Int.natCast_add,Int.natCast_one]
  exact this
 ·rw [Below.heap_alloc _ _ _ (by omega),hb5.block _ (by omega),hX.block _ h1];exact hs
 ·rw [Below.heap_alloc _ _ _ (by omega),hb5.block _ (by omega),hX.block _ h2];exact hr
 ·exact (hb.trans ((hX.mono (by omega)).trans (hb5.mono (by omega)))).alloc (by omega) _
theorem Behind.laid {W0 wr X w5:World} {gr gs oa ob na nb s oa2 ob2:Nat} (hX:Below wr.heap.size wr X) (hb5:Below X.heap.size X w5) (hk:w5.heap[wr.heap.size]?=some (oL 0 0 0 0 0)) (hs:wr.heap[gs]?=some (oL oa ob na nb s)) (hr:wr.heap[gr]?=some eQ) (hb:Below gr W0 wr) :
 Behind W0 (((((w5.setCell ⟨wr.heap.size,0,none⟩ (.int .u64 (na:Int))).setCell ⟨wr.heap.size,1,none⟩ (.int .u64 (nb:Int))).setCell ⟨wr.heap.size,2,none⟩ (.int .u64 (oa2:Int))).setCell ⟨wr.heap.size,3,none⟩ (.int .u64 (ob2:Int))).setCell ⟨wr.heap.size,4,none⟩ (.int .i64 ((s:Int)+1)))
  gr gs wr.heap.size oa ob na nb s oa2 ob2 na nb (s+1):=by
 have h1:gs<wr.heap.size:=(Array.getElem?_eq_some_iff.1 hs).1
 have h2:gr<wr.heap.size:=(Array.getElem?_eq_some_iff.1 hr).1
 have h3:=hX.size
 have h4:=hb5.size
 refine ⟨?_,?_,?_,?_,by omega,by omega⟩
 ·have:=fC (oa':=na) (ob':=nb) (na':=oa2) (nb':=ob2) (s':=s+1) hk
  rw [Int.natCast_add,Int.natCast_one] at this
  exact this
 ·rw [fI (by omega),hb5.block _ (by omega),hX.block _ h1];exact hs
 ·rw [fI (by omega),hb5.block _ (by omega),hX.block _ h2];exact hr
 ·exact bN (hb.trans ((hX.mono (by omega)).trans (hb5.mono (by omega)))) (by omega) _ _ _ _ _
def SimRes (x0 y0:Nat) (e:Ending):Prop := ∃ oa ob na nb s x y:Nat,e = .returned (oK oa ob na nb s)∧Pl.Steps x0 y0 x y oa ob na nb s∧vT x y ob nb s
def SimB (x0 x y s:Nat):Prop:=x0<aD∧x≤x0∧y≤x∧s<4294967296
set_option maxRecDepth 100000 in
theorem simulate_eq (A:Option Addr) (n c:Nat) (xs:List Nat) (A' : Option Addr) (n' c' : Nat) (ys:List Nat) (sh x0 y0:Nat) (w:World) (h:Rd w A n c xs) (h' : Rd w A' n' c' ys)
 (hd:Dig aD xs) (hd' : Dig aD ys) (hn:2≤n) (hn' : 2≤n') (hle:n'≤n) (hnn:n'=n) (a1 a2 b1 b2 ah bh:Nat) (hs:sh≤63) (hbl:Hid ((64:Int)-Lib.bitLen a1=sh))
 (g1:xs[n-1]?=some a1) (g2:xs[n-2]?=some a2) (k1:n'=n→ys[n-1]?=some b1) (k2:n-1≤n'→ys[n-2]?=some b2)
 (e1:IntKind.u64.wrap ((a1:Int)*2^sh)=(ah:Int)) (e2:bits .or .u64 (ah:Int) ((a2:Int)/2^(64-sh))=(x0:Int))
 (e3:IntKind.u64.wrap ((b1:Int)*2^sh)=(bh:Int)) (e4:n'=n→bits .or .u64 (bh:Int) ((b2:Int)/2^(64-sh))=(y0:Int)) (e5:n'=n-1→(b2:Int)/2^(64-sh)=(y0:Int)) (e6:n'<n-1→y0=0)
 (hx0:x0<aD) (hy0:y0≤x0) :
 Calls Tryz.prog 205 #[.slice A n c,.slice A' n' c'] w fun e w' =>
  SimRes x0 y0 e∧Below w.heap.size w w':=by
 have hnc:n≤c:=h.cap
 have hcm:c≤9223372036854775807:=h.2.2.1
 have hnc' : n'≤c':=h'.cap
 have hcm' : c'≤9223372036854775807:=h'.2.2.1
 obtain ⟨ad,a1',hA,hal,ha1,hc1⟩:=h.at_ (k:=n-1) (by omega)
 obtain ⟨ad2,a2',hA2,_,ha2,hc2⟩:=h.at_ (k:=n-2) (by omega)
 obtain ⟨ad',hA',hal',hcb⟩:=h'.2.2.2 (by omega)
 subst hA
 injection hA2 with hA2
 subst hA2
 rw [g1] at ha1
 injection ha1 with ha1
 subst ha1
 rw [g2] at ha2
 injection ha2 with ha2
 subst ha2
 subst hA'
 have hab:a1≤18446744073709551615:=by have:=hd.at_ g1;have:=aL;omega
 have cl:=aH (fun w=>Tryz.bits_LeadingZeros64 (a1:Int) w (by omega) (by omega))
 have HX:=aH (aI hd hd')
 have HC:=aH hcb
 have hx0' : (x0:Int)≤18446744073709551615:=by have:=aL;omega
 have hq1:(ad.add (n-1)).block<w.heap.size:=by rw [bK];exact hal
 have hq2:(ad.add (n-2)).block<w.heap.size:=by rw [bK];exact hal
 have hq3:(ad'.add (n-1)).block<w.heap.size:=by rw [bK];exact hal'
 have hq4:(ad'.add (n-2)).block<w.heap.size:=by rw [bK];exact hal'
 clear h h' hd hd' hcb g1 g2 hab
 subst hnn
 have e4':=e4 rfl
 have hc3:=HC.out (n'-1) b1 (k1 rfl)
 have hc4:=HC.out (n'-2) b2 (k2 (by omega))
 have hb:y0≤x0:=hy0
 have HK:=aH (aI e6 (aI hx0 hy0))
 clear e4 e5 e6 k1 k2 hx0 hb hy0
 go_enter Tryz.func205,Tryz.ntmps205
 go_wp2_with (go_at_call 238;refine (cl.out _).mono ?_;rintro e w' ⟨rfl,hw⟩;rw [hw];rw [Int.toNat_natCast,hbl.out])
 go_quiet (fail)
 have hbW:Below w.heap.size w ((w.alloc eQ).drewN nq):=bZ ((aB _ _).alloc (aR _) _) _
 have hrW:((w.alloc eQ).drewN nq).heap[w.heap.size]?=some eQ:=heap_alloc_new w _
 unfold eQ at hbW hrW
 have hc3':=(hbW.cell (p:=ad'.add (n'-1)) hq3).trans hc3
 have hc4':=(hbW.cell (p:=ad'.add (n'-2)) hq4).trans hc4
 have HW:=aH (aI hbW hrW)
 clear hbW hrW hc1 hc2 hc3 hc4 hq1 hq2 hq3 hq4
 generalize (w.alloc (.cells #[.int .u64 0,.int .u64 0,.int .u64 0,.int .u64 0,.int .i64 0] 241)).drewN nq=W2 at *
 go_wp2
 go_quiet (fail)
 have HW2:=aH (show Below w.heap.size w (W2.drewN nq)∧(W2.drewN nq).heap[w.heap.size]?=_ from ⟨bZ HW.out.1 _,HW.out.2⟩)
 clear HW hc3' hc4'
 generalize W2.drewN nq=W3 at *
 go_wp2
 obtain ⟨gr,hgr⟩:∃ gr,gr=w.heap.size:=⟨_,rfl⟩
 obtain ⟨gs,hgs⟩:∃ gs,gs=W3.heap.size:=⟨_,rfl⟩
 have hlt:gr<gs:=by rw [hgr,hgs];exact (Array.getElem?_eq_some_iff.1 HW2.out.2).1
 have hW4b:Below gr w (W3.alloc (.cells #[.int .u64 1,.int .u64 0,.int .u64 0,.int .u64 1,.int .i64 0] 241)):=by rw [hgr];exact HW2.out.1.alloc HW2.out.1.size _
 have hW4s:(W3.alloc (.cells #[.int .u64 1,.int .u64 0,.int .u64 0,.int .u64 1,.int .i64 0] 241)).heap[gs]?=some (.cells #[.int .u64 1,.int .u64 0,.int .u64 0,.int .u64 1,.int .i64 0] 241):=by rw [hgs];exact heap_alloc_new _ _
 have hW4r:(W3.alloc (.cells #[.int .u64 1,.int .u64 0,.int .u64 0,.int .u64 1,.int .i64 0] 241)).heap[gr]?=some eQ:=by rw [hgr];exact (Below.heap_alloc W3 _ _ (by rw [← hgr,← hgs];exact hlt)).trans HW2.out.2
 have HW4:=aH (aI hW4b (aI hW4s hW4r))
 rw [← hgr,← hgs]
 clear hW4b hW4s hW4r HW2 hgs
 have HGR:=aH hgr
 clear hgr
 generalize W3.alloc (.cells #[.int .u64 1,.int .u64 0,.int .u64 0,.int .u64 1,.int .i64 0] 241)=W4 at *
 go_loopw [7,8] (fun p q wr => ∃ x y oa ob na nb s:Nat,p = .int .u64 (x:Int)∧q = .int .u64 (y:Int)∧Hid (Pl.Steps x0 y0 x y oa ob na nb s∧vT x y ob nb s)∧SimB x0 x y s∧wr.heap[gs]?=some (oL oa ob na nb s)∧wr.heap[gr]?=some eQ∧Below gr w wr) (fun _ q _=>(intOf q).toNat)
 case atStart=>exact ⟨x0,y0,1,0,0,1,0,rfl,rfl,⟨Pl.Steps.start _ _ HK.out.2.2,fun h=>absurd h (by omega)⟩,⟨HK.out.2.1,aR _,HK.out.2.2,by omega⟩,HW4.out.2.1,HW4.out.2.2,HW4.out.1⟩
 case round =>
  obtain ⟨x,y,oa,ob,na,nb,s,rfl,rfl,hst,hsb,hbs,hbr,hbe⟩:=hrel
  obtain ⟨m1,m2,m3,m4⟩:=hsb
  obtain ⟨c0,c1,c2,c3,c4,z0,z1,z2,z3,z4⟩:=bM hbs
  obtain ⟨d0,d1,d2,d3,d4,w0,w1,w2,w3,w4⟩:=bM (dI▸hbr)
  have hne:¬ gs=gr:=by omega
  have hne' : ¬ gr=gs:=by omega
  have hgsl:gs<wr.heap.size:=(Array.getElem?_eq_some_iff.1 hbs).1
  have hgrl:gr<wr.heap.size:=(Array.getElem?_eq_some_iff.1 hbr).1
  have HB:=aH (aI hbs (aI hbr hbe))
  clear hbs hbr hbe
  rcases Nat.eq_zero_or_pos y with rfl|hy
  ·simp only [Int.natCast_zero]
   go_wp2
   exact bodyPost_ret (v:=oK oa ob na nb s) (dS _ (fC (dI▸HB.out.2.1)) rfl) rfl ⟨⟨oa,ob,na,nb,s,x,0,rfl,hst.out.1,hst.out.2⟩,by rw [← HGR.out];exact bN HB.out.2.2 (aR _) _ _ _ _ _⟩
  ·have hs1:=hst.out.1.next hy
   obtain ⟨q,hq⟩:∃ q:Nat,q=x/y:=⟨_,rfl⟩
   obtain ⟨r,hr⟩:∃ r:Nat,r=x%y:=⟨_,rfl⟩
   rw [← hq,← hr] at hs1
   have f1:(x:Int).tdiv y=q:=by rw [hq,Int.tdiv_eq_ediv_of_nonneg (by omega),Int.natCast_ediv]
   have f2:(x:Int)/y=q:=by rw [hq,Int.natCast_ediv]
   have f3:(x:Int).tmod y=r:=by rw [hr,Int.tmod_eq_emod_of_nonneg (by omega),Int.natCast_emod]
   have f4:(x:Int)%y=r:=by rw [hr,Int.natCast_emod]
   have hry:r<y:=by rw [hr];exact Nat.mod_lt _ hy
   have hqx:q≤x:=by rw [hq];exact Nat.div_le_self _ _
   obtain ⟨oa2,hoa2⟩:∃ k:Nat,oa+q*na=k:=⟨_,rfl⟩
   obtain ⟨ob2,hob2⟩:∃ k:Nat,ob+q*nb=k:=⟨_,rfl⟩
   rw [hoa2,hob2] at hs1
   have l1:=hs1.na_le hy
   have l2:=hs1.nb_le hy
   have hy0x:=HK.out.2.2
   have cn:=aH (fun w=>yH oa ob na nb s q oa2 ob2 w hoa2 hob2 (by omega) (by omega) m4)
   have HS1:=aH (aI hs1 (aI l1 l2))
   have hxi:(x:Int)≤18446744073709551615:=by omega
   have hyn:¬ ((y:Int)=0):=by omega
   have hy' : (0:Int)<y:=by omega
   have hqi:(q:Int)≤18446744073709551615:=by omega
   have hri:(r:Int)≤18446744073709551615:=by omega
   have HM:=aH (aI m1 (aI m2 (aI m3 m4)))
   clear hs1 l1 l2 hq hr hoa2 hob2 hy m1 m2 m3 m4 hy0x d0 d1 d2 d3 d4 w0 w1 w2 w3 w4 z0 z1 z2 z3 z4 hqx
   go_wp2
   go_region_with ((go_at_call 239;refine (cn.out _).mono ?_;rintro e w5 ⟨rfl,hb5⟩;first|(have hk0:=iP hb5;obtain ⟨v0,v1,v2,v3,v4,x0',x1',x2',x3',x4'⟩:=bM hk0)|(have hk0:=kept_alloc hb5;obtain ⟨v0,v1,v2,v3,v4,x0',x1',x2',x3',x4'⟩:=bM hk0)|skip))
   all_goals first
    | (have hW:=Behind.fresh (W0:=w) (gr:=gr) (gs:=gs) (na:=na) (nb:=nb) (oa2:=oa2) (ob2:=ob2) (aB _ _) hb5 HB.out.1 HB.out.2.1 HB.out.2.2
       have HW6:=aH hW
       generalize w5.alloc (.cells #[.int .u64 (na:Int),.int .u64 (nb:Int),.int .u64 (oa2:Int),.int .u64 (ob2:Int),.int .i64 ((s:Int)+1)] 241)=W6 at HW6 ⊢
       generalize w5.heap.size=gn at HW6 ⊢)
    | (have hW:=Behind.fresh (W0:=w) (gr:=gr) (gs:=gs) (na:=na) (nb:=nb) (oa2:=oa2) (ob2:=ob2) (aB _ _).drew hb5 HB.out.1 HB.out.2.1 HB.out.2.2
       have HW6:=aH hW
       generalize w5.alloc (.cells #[.int .u64 (na:Int),.int .u64 (nb:Int),.int .u64 (oa2:Int),.int .u64 (ob2:Int),.int .i64 ((s:Int)+1)] 241)=W6 at HW6 ⊢
       generalize w5.heap.size=gn at HW6 ⊢)
    | (have hW:=Behind.laid (W0:=w) (gr:=gr) (gs:=gs) (na:=na) (nb:=nb) (oa2:=oa2) (ob2:=ob2) ((aB _ _).alloc (aR _) _) hb5 hk0 HB.out.1 HB.out.2.1 HB.out.2.2
       have HW6:=aH hW
       generalize (((((w5.setCell ⟨wr.heap.size,0,none⟩ (.int .u64 (na:Int))).setCell ⟨wr.heap.size,1,none⟩ (.int .u64 (nb:Int))).setCell ⟨wr.heap.size,2,none⟩ (.int .u64 (oa2:Int))).setCell ⟨wr.heap.size,3,none⟩ (.int .u64 (ob2:Int))).setCell ⟨wr.heap.size,4,none⟩ (.int .i64 ((s:Int)+1)))=W6 at HW6 ⊢
       generalize wr.heap.size=gn at HW6 ⊢)
    | (have hW:=Behind.laid (W0:=w) (gr:=gr) (gs:=gs) (na:=na) (nb:=nb) (oa2:=oa2) (ob2:=ob2) ((aB _ _).alloc (aR _) _).drew hb5 hk0 HB.out.1 HB.out.2.1 HB.out.2.2
       have HW6:=aH hW
       generalize (((((w5.setCell ⟨wr.heap.size,0,none⟩ (.int .u64 (na:Int))).setCell ⟨wr.heap.size,1,none⟩ (.int .u64 (nb:Int))).setCell ⟨wr.heap.size,2,none⟩ (.int .u64 (oa2:Int))).setCell ⟨wr.heap.size,3,none⟩ (.int .u64 (ob2:Int))).setCell ⟨wr.heap.size,4,none⟩ (.int .i64 ((s:Int)+1)))=W6 at HW6 ⊢
       generalize wr.heap.size=gn at HW6 ⊢)
   all_goals clear cn c0 c1 c2 c3 c4 hgsl hgrl hb5
   all_goals try clear hk0
   all_goals try clear v0 v1 v2 v3 v4 x0' x1' x2' x3' x4'
   all_goals
    go_wp2
    go_quiet (fail)
    have HW7:=aH (show Behind w (W6.drewN nq) gr gs gn oa ob na nb s oa2 ob2 na nb (s+1) from ⟨HW6.out.1,HW6.out.2.1,HW6.out.2.2.1,bZ HW6.out.2.2.2.1 _,HW6.out.2.2.2.2⟩)
    clear HW6
    generalize W6.drewN nq=W7 at HW7 ⊢
    obtain ⟨n0,n1,n2,n3,n4,p0,p1,p2,p3,p4⟩:=bM HW7.out.1
    obtain ⟨c0,c1,c2,c3,c4,z0,z1,z2,z3,z4⟩:=bM HW7.out.2.1
    obtain ⟨d0,d1,d2,d3,d4,w0,w1,w2,w3,w4⟩:=bM (dI▸HW7.out.2.2.1)
    have q1:¬ gn=gs:=HW7.out.2.2.2.2.1
    have q2:¬ gn=gr:=HW7.out.2.2.2.2.2
    have q3:¬ gs=gn:=fun h=>q1 h.symm
    have q4:¬ gr=gn:=fun h=>q2 h.symm
    have hsum:(nb:Int)+ob2≤18446744073709551615∨r<ob2:=by
     rcases Nat.lt_or_ge r ob2 with h|h
     ·exact .inr h
     ·have hrp:0<r:=Nat.lt_of_lt_of_le HS1.out.1.nb1 h
      have:=HS1.out.1.sum_le hrp
      have:=HM.out.1
      have:=aL
      exact .inl (by omega)
    have hyr:(0:Int)≤(y:Int)-r:=by omega
    have hwr:IntKind.u64.wrap ((y:Int)-r)=(y:Int)-r:=by rw [IntKind.wrap_u64];have:=HM.out;have:=aL;omega
    by_cases t1:r<ob2
    ·have t1' : (r:Int)<ob2:=by omega
     clear hsum t1
     go_wp2
     exact bodyPost_ret (v:=oK oa ob na nb s) (dS _ (fC (dI▸HW7.out.2.2.1)) rfl) rfl ⟨⟨oa,ob,na,nb,s,x,y,rfl,hst.out.1,hst.out.2⟩,by rw [← HGR.out];exact bN HW7.out.2.2.2.1 (aR _) _ _ _ _ _⟩
    ·have t1' : ¬ (r:Int)<ob2:=by omega
     have hsum' : (nb:Int)+ob2≤18446744073709551615:=by omega
     by_cases t2:(y:Int)-r<(nb:Int)+ob2
     ·clear hsum t1
      go_wp2
      exact bodyPost_ret (v:=oK oa ob na nb s) (dS _ (fC (dI▸HW7.out.2.2.1)) rfl) rfl ⟨⟨oa,ob,na,nb,s,x,y,rfl,hst.out.1,hst.out.2⟩,by rw [← HGR.out];exact bN HW7.out.2.2.2.1 (aR _) _ _ _ _ _⟩
     ·have htk:vT y r nb ob2 (s+1):=fun _=>⟨by omega,by omega⟩
      have hsm:SimB x0 y r (s+1):=⟨HM.out.1,by have:=HM.out;omega,by omega,(SimOk.of_steps HS1.out.1 htk HM.out.1 HK.out.2.2 (K:=1) (α:=0) (β:=0) rfl rfl (by omega) (by omega)).1⟩
      have HT:=aH (aI htk hsm)
      have t3:decide ((y:Int)-r<(nb:Int)+ob2)=false:=by simp;omega
      have t4:(nb:Int)+ob2≤(y:Int)-r:=by omega
      clear hsum t1 htk hsm t2
      go_wp2
      go_roundw
      case rel=>exact ⟨y,r,na,nb,oa2,ob2,s+1,rfl,rfl,⟨HS1.out.1,HT.out.1⟩,HT.out.2,fC HW7.out.2.1,(fI hne' _ _ _ _ _).trans HW7.out.2.2.1,bN HW7.out.2.2.2.1 (Nat.le_of_lt hlt) _ _ _ _ _⟩
      case measure=>simp [intOf];omega
set_option maxRecDepth 100000 in
theorem simulate_one (A:Option Addr) (n c:Nat) (xs:List Nat) (A' : Option Addr) (n' c' : Nat) (ys:List Nat) (sh x0 y0:Nat) (w:World) (h:Rd w A n c xs) (h' : Rd w A' n' c' ys)
 (hd:Dig aD xs) (hd' : Dig aD ys) (hn:2≤n) (hn' : 2≤n') (hle:n'≤n) (hnn:n'=n-1) (a1 a2 b1 b2 ah bh:Nat) (hs:sh≤63) (hbl:Hid ((64:Int)-Lib.bitLen a1=sh))
 (g1:xs[n-1]?=some a1) (g2:xs[n-2]?=some a2) (k1:n'=n→ys[n-1]?=some b1) (k2:n-1≤n'→ys[n-2]?=some b2)
 (e1:IntKind.u64.wrap ((a1:Int)*2^sh)=(ah:Int)) (e2:bits .or .u64 (ah:Int) ((a2:Int)/2^(64-sh))=(x0:Int))
 (e3:IntKind.u64.wrap ((b1:Int)*2^sh)=(bh:Int)) (e4:n'=n→bits .or .u64 (bh:Int) ((b2:Int)/2^(64-sh))=(y0:Int)) (e5:n'=n-1→(b2:Int)/2^(64-sh)=(y0:Int)) (e6:n'<n-1→y0=0)
 (hx0:x0<aD) (hy0:y0≤x0) :
 Calls Tryz.prog 205 #[.slice A n c,.slice A' n' c'] w fun e w' =>
  SimRes x0 y0 e∧Below w.heap.size w w':=by
 have hnc:n≤c:=h.cap
 have hcm:c≤9223372036854775807:=h.2.2.1
 have hnc' : n'≤c':=h'.cap
 have hcm' : c'≤9223372036854775807:=h'.2.2.1
 obtain ⟨ad,a1',hA,hal,ha1,hc1⟩:=h.at_ (k:=n-1) (by omega)
 obtain ⟨ad2,a2',hA2,_,ha2,hc2⟩:=h.at_ (k:=n-2) (by omega)
 obtain ⟨ad',hA',hal',hcb⟩:=h'.2.2.2 (by omega)
 subst hA
 injection hA2 with hA2
 subst hA2
 rw [g1] at ha1
 injection ha1 with ha1
 subst ha1
 rw [g2] at ha2
 injection ha2 with ha2
 subst ha2
 subst hA'
 have hab:a1≤18446744073709551615:=by have:=hd.at_ g1;have:=aL;omega
 have cl:=aH (fun w=>Tryz.bits_LeadingZeros64 (a1:Int) w (by omega) (by omega))
 have HX:=aH (aI hd hd')
 have HC:=aH hcb
 have hx0' : (x0:Int)≤18446744073709551615:=by have:=aL;omega
 have hq1:(ad.add (n-1)).block<w.heap.size:=by rw [bK];exact hal
 have hq2:(ad.add (n-2)).block<w.heap.size:=by rw [bK];exact hal
 have hq3:(ad'.add (n-1)).block<w.heap.size:=by rw [bK];exact hal'
 have hq4:(ad'.add (n-2)).block<w.heap.size:=by rw [bK];exact hal'
 clear h h' hd hd' hcb g1 g2 hab
 have hnn2:¬ n'=n:=by omega
 have e5':=e5 hnn
 have hc4:=HC.out (n-2) b2 (k2 (by omega))
 have hsw1:((n' : Int)==n)=false:=by simp;omega
 have hsw2:((n' : Int)==(n:Int)-1)=true:=by simp;omega
 have HK:=aH (aI e6 (aI hx0 hy0))
 have hidx:n-2<n':=by omega
 clear e4 e5 e6 k1 k2 hx0 hy0 hnn hnn2
 go_enter Tryz.func205,Tryz.ntmps205
 go_wp2_with (go_at_call 238;refine (cl.out _).mono ?_;rintro e w' ⟨rfl,hw⟩;rw [hw];rw [Int.toNat_natCast,hbl.out])
 go_quiet (fail)
 have hbW:Below w.heap.size w ((w.alloc eQ).drewN nq):=bZ ((aB _ _).alloc (aR _) _) _
 have hrW:((w.alloc eQ).drewN nq).heap[w.heap.size]?=some eQ:=heap_alloc_new w _
 have hc4':=(hbW.cell (p:=ad'.add (n-2)) hq4).trans hc4
 unfold eQ at hbW hrW hc4'
 have HW2:=aH (aI hbW hrW)
 clear hbW hrW hc1 hc2 hc4 hq1 hq2 hq3 hq4
 generalize (w.alloc (.cells #[.int .u64 0,.int .u64 0,.int .u64 0,.int .u64 0,.int .i64 0] 241)).drewN nq=W3 at *
 go_wp2
 obtain ⟨gr,hgr⟩:∃ gr,gr=w.heap.size:=⟨_,rfl⟩
 obtain ⟨gs,hgs⟩:∃ gs,gs=W3.heap.size:=⟨_,rfl⟩
 have hlt:gr<gs:=by rw [hgr,hgs];exact (Array.getElem?_eq_some_iff.1 HW2.out.2).1
 have hW4b:Below gr w (W3.alloc (.cells #[.int .u64 1,.int .u64 0,.int .u64 0,.int .u64 1,.int .i64 0] 241)):=by rw [hgr];exact HW2.out.1.alloc HW2.out.1.size _
 have hW4s:(W3.alloc (.cells #[.int .u64 1,.int .u64 0,.int .u64 0,.int .u64 1,.int .i64 0] 241)).heap[gs]?=some (.cells #[.int .u64 1,.int .u64 0,.int .u64 0,.int .u64 1,.int .i64 0] 241):=by rw [hgs];exact heap_alloc_new _ _
 have hW4r:(W3.alloc (.cells #[.int .u64 1,.int .u64 0,.int .u64 0,.int .u64 1,.int .i64 0] 241)).heap[gr]?=some eQ:=by rw [hgr];exact (Below.heap_alloc W3 _ _ (by rw [← hgr,← hgs];exact hlt)).trans HW2.out.2
 have HW4:=aH (aI hW4b (aI hW4s hW4r))
 rw [← hgr,← hgs]
 clear hW4b hW4s hW4r HW2 hgs
 have HGR:=aH hgr
 clear hgr
 generalize W3.alloc (.cells #[.int .u64 1,.int .u64 0,.int .u64 0,.int .u64 1,.int .i64 0] 241)=W4 at *
 go_loopw [7,8] (fun p q wr => ∃ x y oa ob na nb s:Nat,p = .int .u64 (x:Int)∧q = .int .u64 (y:Int)∧Hid (Pl.Steps x0 y0 x y oa ob na nb s∧vT x y ob nb s)∧SimB x0 x y s∧wr.heap[gs]?=some (oL oa ob na nb s)∧wr.heap[gr]?=some eQ∧Below gr w wr) (fun _ q _=>(intOf q).toNat)
 case atStart=>exact ⟨x0,y0,1,0,0,1,0,rfl,rfl,⟨Pl.Steps.start _ _ HK.out.2.2,fun h=>absurd h (by omega)⟩,⟨HK.out.2.1,aR _,HK.out.2.2,by omega⟩,HW4.out.2.1,HW4.out.2.2,HW4.out.1⟩
 case round =>
  obtain ⟨x,y,oa,ob,na,nb,s,rfl,rfl,hst,hsb,hbs,hbr,hbe⟩:=hrel
  obtain ⟨m1,m2,m3,m4⟩:=hsb
  obtain ⟨c0,c1,c2,c3,c4,z0,z1,z2,z3,z4⟩:=bM hbs
  obtain ⟨d0,d1,d2,d3,d4,w0,w1,w2,w3,w4⟩:=bM (dI▸hbr)
  have hne:¬ gs=gr:=by omega
  have hne' : ¬ gr=gs:=by omega
  have hgsl:gs<wr.heap.size:=(Array.getElem?_eq_some_iff.1 hbs).1
  have hgrl:gr<wr.heap.size:=(Array.getElem?_eq_some_iff.1 hbr).1
  have HB:=aH (aI hbs (aI hbr hbe))
  clear hbs hbr hbe
  rcases Nat.eq_zero_or_pos y with rfl|hy
  ·simp only [Int.natCast_zero]
   go_wp2
   exact bodyPost_ret (v:=oK oa ob na nb s) (dS _ (fC (dI▸HB.out.2.1)) rfl) rfl ⟨⟨oa,ob,na,nb,s,x,0,rfl,hst.out.1,hst.out.2⟩,by rw [← HGR.out];exact bN HB.out.2.2 (aR _) _ _ _ _ _⟩
  ·have hs1:=hst.out.1.next hy
   obtain ⟨q,hq⟩:∃ q:Nat,q=x/y:=⟨_,rfl⟩
   obtain ⟨r,hr⟩:∃ r:Nat,r=x%y:=⟨_,rfl⟩
   rw [← hq,← hr] at hs1
   have f1:(x:Int).tdiv y=q:=by rw [hq,Int.tdiv_eq_ediv_of_nonneg (by omega),Int.natCast_ediv]
   have f2:(x:Int)/y=q:=by rw [hq,Int.natCast_ediv]
   have f3:(x:Int).tmod y=r:=by rw [hr,Int.tmod_eq_emod_of_nonneg (by omega),Int.natCast_emod]
   have f4:(x:Int)%y=r:=by rw [hr,Int.natCast_emod]
   have hry:r<y:=by rw [hr];exact Nat.mod_lt _ hy
   have hqx:q≤x:=by rw [hq];exact Nat.div_le_self _ _
   obtain ⟨oa2,hoa2⟩:∃ k:Nat,oa+q*na=k:=⟨_,rfl⟩
   obtain ⟨ob2,hob2⟩:∃ k:Nat,ob+q*nb=k:=⟨_,rfl⟩
   rw [hoa2,hob2] at hs1
   have l1:=hs1.na_le hy
   have l2:=hs1.nb_le hy
   have hy0x:=HK.out.2.2
   have cn:=aH (fun w=>yH oa ob na nb s q oa2 ob2 w hoa2 hob2 (by omega) (by omega) m4)
   have HS1:=aH (aI hs1 (aI l1 l2))
   have hxi:(x:Int)≤18446744073709551615:=by omega
   have hyn:¬ ((y:Int)=0):=by omega
   have hy' : (0:Int)<y:=by omega
   have hqi:(q:Int)≤18446744073709551615:=by omega
   have hri:(r:Int)≤18446744073709551615:=by omega
   have HM:=aH (aI m1 (aI m2 (aI m3 m4)))
   clear hs1 l1 l2 hq hr hoa2 hob2 hy m1 m2 m3 m4 hy0x d0 d1 d2 d3 d4 w0 w1 w2 w3 w4 z0 z1 z2 z3 z4 hqx
   go_wp2
   go_region_with ((go_at_call 239;refine (cn.out _).mono ?_;rintro e w5 ⟨rfl,hb5⟩;first|(have hk0:=iP hb5;obtain ⟨v0,v1,v2,v3,v4,x0',x1',x2',x3',x4'⟩:=bM hk0)|(have hk0:=kept_alloc hb5;obtain ⟨v0,v1,v2,v3,v4,x0',x1',x2',x3',x4'⟩:=bM hk0)|skip))
   all_goals first
    | (have hW:=Behind.fresh (W0:=w) (gr:=gr) (gs:=gs) (na:=na) (nb:=nb) (oa2:=oa2) (ob2:=ob2) (aB _ _) hb5 HB.out.1 HB.out.2.1 HB.out.2.2
       have HW6:=aH hW
       generalize w5.alloc (.cells #[.int .u64 (na:Int),.int .u64 (nb:Int),.int .u64 (oa2:Int),.int .u64 (ob2:Int),.int .i64 ((s:Int)+1)] 241)=W6 at HW6 ⊢
       generalize w5.heap.size=gn at HW6 ⊢)
    | (have hW:=Behind.fresh (W0:=w) (gr:=gr) (gs:=gs) (na:=na) (nb:=nb) (oa2:=oa2) (ob2:=ob2) (aB _ _).drew hb5 HB.out.1 HB.out.2.1 HB.out.2.2
       have HW6:=aH hW
       generalize w5.alloc (.cells #[.int .u64 (na:Int),.int .u64 (nb:Int),.int .u64 (oa2:Int),.int .u64 (ob2:Int),.int .i64 ((s:Int)+1)] 241)=W6 at HW6 ⊢
       generalize w5.heap.size=gn at HW6 ⊢)
    | (have hW:=Behind.laid (W0:=w) (gr:=gr) (gs:=gs) (na:=na) (nb:=nb) (oa2:=oa2) (ob2:=ob2) ((aB _ _).alloc (aR _) _) hb5 hk0 HB.out.1 HB.out.2.1 HB.out.2.2
       have HW6:=aH hW
       generalize (((((w5.setCell ⟨wr.heap.size,0,none⟩ (.int .u64 (na:Int))).setCell ⟨wr.heap.size,1,none⟩ (.int .u64 (nb:Int))).setCell ⟨wr.heap.size,2,none⟩ (.int .u64 (oa2:Int))).setCell ⟨wr.heap.size,3,none⟩ (.int .u64 (ob2:Int))).setCell ⟨wr.heap.size,4,none⟩ (.int .i64 ((s:Int)+1)))=W6 at HW6 ⊢
       generalize wr.heap.size=gn at HW6 ⊢)
    | (have hW:=Behind.laid (W0:=w) (gr:=gr) (gs:=gs) (na:=na) (nb:=nb) (oa2:=oa2) (ob2:=ob2) ((aB _ _).alloc (aR _) _).drew hb5 hk0 HB.out.1 HB.out.2.1 HB.out.2.2
       have HW6:=aH hW
       generalize (((((w5.setCell ⟨wr.heap.size,0,none⟩ (.int .u64 (na:Int))).setCell ⟨wr.heap.size,1,none⟩ (.int .u64 (nb:Int))).setCell ⟨wr.heap.size,2,none⟩ (.int .u64 (oa2:Int))).setCell ⟨wr.heap.size,3,none⟩ (.int .u64 (ob2:Int))).setCell ⟨wr.heap.size,4,none⟩ (.int .i64 ((s:Int)+1)))=W6 at HW6 ⊢
       generalize wr.heap.size=gn at HW6 ⊢)
   all_goals clear cn c0 c1 c2 c3 c4 hgsl hgrl hb5
   all_goals try clear hk0
   all_goals try clear v0 v1 v2 v3 v4 x0' x1' x2' x3' x4'
   all_goals
    go_wp2
    go_quiet (fail)
    have HW7:=aH (show Behind w (W6.drewN nq) gr gs gn oa ob na nb s oa2 ob2 na nb (s+1) from ⟨HW6.out.1,HW6.out.2.1,HW6.out.2.2.1,bZ HW6.out.2.2.2.1 _,HW6.out.2.2.2.2⟩)
    clear HW6
    generalize W6.drewN nq=W7 at HW7 ⊢
    obtain ⟨n0,n1,n2,n3,n4,p0,p1,p2,p3,p4⟩:=bM HW7.out.1
    obtain ⟨c0,c1,c2,c3,c4,z0,z1,z2,z3,z4⟩:=bM HW7.out.2.1
    obtain ⟨d0,d1,d2,d3,d4,w0,w1,w2,w3,w4⟩:=bM (dI▸HW7.out.2.2.1)
    have q1:¬ gn=gs:=HW7.out.2.2.2.2.1
    have q2:¬ gn=gr:=HW7.out.2.2.2.2.2
    have q3:¬ gs=gn:=fun h=>q1 h.symm
    have q4:¬ gr=gn:=fun h=>q2 h.symm
    have hsum:(nb:Int)+ob2≤18446744073709551615∨r<ob2:=by
     rcases Nat.lt_or_ge r ob2 with h|h
     ·exact .inr h
     ·have hrp:0<r:=Nat.lt_of_lt_of_le HS1.out.1.nb1 h
      have:=HS1.out.1.sum_le hrp
      have:=HM.out.1
      have:=aL
      exact .inl (by omega)
    have hyr:(0:Int)≤(y:Int)-r:=by omega
    have hwr:IntKind.u64.wrap ((y:Int)-r)=(y:Int)-r:=by rw [IntKind.wrap_u64];have:=HM.out;have:=aL;omega
    by_cases t1:r<ob2
    ·have t1' : (r:Int)<ob2:=by omega
     clear hsum t1
     go_wp2
     exact bodyPost_ret (v:=oK oa ob na nb s) (dS _ (fC (dI▸HW7.out.2.2.1)) rfl) rfl ⟨⟨oa,ob,na,nb,s,x,y,rfl,hst.out.1,hst.out.2⟩,by rw [← HGR.out];exact bN HW7.out.2.2.2.1 (aR _) _ _ _ _ _⟩
    ·have t1' : ¬ (r:Int)<ob2:=by omega
     have hsum' : (nb:Int)+ob2≤18446744073709551615:=by omega
     by_cases t2:(y:Int)-r<(nb:Int)+ob2
     ·clear hsum t1
      go_wp2
      exact bodyPost_ret (v:=oK oa ob na nb s) (dS _ (fC (dI▸HW7.out.2.2.1)) rfl) rfl ⟨⟨oa,ob,na,nb,s,x,y,rfl,hst.out.1,hst.out.2⟩,by rw [← HGR.out];exact bN HW7.out.2.2.2.1 (aR _) _ _ _ _ _⟩
     ·have htk:vT y r nb ob2 (s+1):=fun _=>⟨by omega,by omega⟩
      have hsm:SimB x0 y r (s+1):=⟨HM.out.1,by have:=HM.out;omega,by omega,(SimOk.of_steps HS1.out.1 htk HM.out.1 HK.out.2.2 (K:=1) (α:=0) (β:=0) rfl rfl (by omega) (by omega)).1⟩
      have HT:=aH (aI htk hsm)
      have t3:decide ((y:Int)-r<(nb:Int)+ob2)=false:=by simp;omega
      have t4:(nb:Int)+ob2≤(y:Int)-r:=by omega
      clear hsum t1 htk hsm t2
      go_wp2
      go_roundw
      case rel=>exact ⟨y,r,na,nb,oa2,ob2,s+1,rfl,rfl,⟨HS1.out.1,HT.out.1⟩,HT.out.2,fC HW7.out.2.1,(fI hne' _ _ _ _ _).trans HW7.out.2.2.1,bN HW7.out.2.2.2.1 (Nat.le_of_lt hlt) _ _ _ _ _⟩
      case measure=>simp [intOf];omega
set_option maxRecDepth 100000 in
theorem zT (A:Option Addr) (n c:Nat) (xs:List Nat) (A' : Option Addr) (n' c' : Nat) (ys:List Nat) (sh x0 y0:Nat) (w:World) (h:Rd w A n c xs) (h' : Rd w A' n' c' ys)
 (hd:Dig aD xs) (hd' : Dig aD ys) (hn:2≤n) (hn' : 2≤n') (hle:n'≤n) (hnn:n'<n-1) (a1 a2 b1 b2 ah bh:Nat) (hs:sh≤63) (hbl:Hid ((64:Int)-Lib.bitLen a1=sh))
 (g1:xs[n-1]?=some a1) (g2:xs[n-2]?=some a2) (k1:n'=n→ys[n-1]?=some b1) (k2:n-1≤n'→ys[n-2]?=some b2)
 (e1:IntKind.u64.wrap ((a1:Int)*2^sh)=(ah:Int)) (e2:bits .or .u64 (ah:Int) ((a2:Int)/2^(64-sh))=(x0:Int))
 (e3:IntKind.u64.wrap ((b1:Int)*2^sh)=(bh:Int)) (e4:n'=n→bits .or .u64 (bh:Int) ((b2:Int)/2^(64-sh))=(y0:Int)) (e5:n'=n-1→(b2:Int)/2^(64-sh)=(y0:Int)) (e6:n'<n-1→y0=0)
 (hx0:x0<aD) (hy0:y0≤x0) :
 Calls Tryz.prog 205 #[.slice A n c,.slice A' n' c'] w fun e w' =>
  SimRes x0 y0 e∧Below w.heap.size w w':=by
 have hnc:n≤c:=h.cap
 have hcm:c≤9223372036854775807:=h.2.2.1
 have hnc' : n'≤c':=h'.cap
 have hcm' : c'≤9223372036854775807:=h'.2.2.1
 obtain ⟨ad,a1',hA,hal,ha1,hc1⟩:=h.at_ (k:=n-1) (by omega)
 obtain ⟨ad2,a2',hA2,_,ha2,hc2⟩:=h.at_ (k:=n-2) (by omega)
 obtain ⟨ad',hA',hal',hcb⟩:=h'.2.2.2 (by omega)
 subst hA
 injection hA2 with hA2
 subst hA2
 rw [g1] at ha1
 injection ha1 with ha1
 subst ha1
 rw [g2] at ha2
 injection ha2 with ha2
 subst ha2
 subst hA'
 have hab:a1≤18446744073709551615:=by have:=hd.at_ g1;have:=aL;omega
 have cl:=aH (fun w=>Tryz.bits_LeadingZeros64 (a1:Int) w (by omega) (by omega))
 have HX:=aH (aI hd hd')
 have HC:=aH hcb
 have hx0' : (x0:Int)≤18446744073709551615:=by have:=aL;omega
 have hq1:(ad.add (n-1)).block<w.heap.size:=by rw [bK];exact hal
 have hq2:(ad.add (n-2)).block<w.heap.size:=by rw [bK];exact hal
 have hq3:(ad'.add (n-1)).block<w.heap.size:=by rw [bK];exact hal'
 have hq4:(ad'.add (n-2)).block<w.heap.size:=by rw [bK];exact hal'
 clear h h' hd hd' hcb g1 g2 hab
 have hsw1:((n' : Int)==n)=false:=by simp;omega
 have hsw2:((n' : Int)==(n:Int)-1)=false:=by simp;omega
 have HY0:=aH (e6 hnn)
 have HK:=aH (aI e6 (aI hx0 hy0))
 clear e4 e5 e6 k1 k2 hx0 hy0 hnn
 go_enter Tryz.func205,Tryz.ntmps205
 go_wp2_with (go_at_call 238;refine (cl.out _).mono ?_;rintro e w' ⟨rfl,hw⟩;rw [hw];rw [Int.toNat_natCast,hbl.out])
 go_quiet (fail)
 have hbW:Below w.heap.size w ((w.alloc eQ).drewN nq):=bZ ((aB _ _).alloc (aR _) _) _
 have hrW:((w.alloc eQ).drewN nq).heap[w.heap.size]?=some eQ:=heap_alloc_new w _
 unfold eQ at hbW hrW
 have HW2:=aH (aI hbW hrW)
 clear hbW hrW hc1 hc2 hq1 hq2 hq3 hq4
 generalize (w.alloc (.cells #[.int .u64 0,.int .u64 0,.int .u64 0,.int .u64 0,.int .i64 0] 241)).drewN nq=W3 at *
 go_wp2
 obtain ⟨gr,hgr⟩:∃ gr,gr=w.heap.size:=⟨_,rfl⟩
 obtain ⟨gs,hgs⟩:∃ gs,gs=W3.heap.size:=⟨_,rfl⟩
 have hlt:gr<gs:=by rw [hgr,hgs];exact (Array.getElem?_eq_some_iff.1 HW2.out.2).1
 have hW4b:Below gr w (W3.alloc (.cells #[.int .u64 1,.int .u64 0,.int .u64 0,.int .u64 1,.int .i64 0] 241)):=by rw [hgr];exact HW2.out.1.alloc HW2.out.1.size _
 have hW4s:(W3.alloc (.cells #[.int .u64 1,.int .u64 0,.int .u64 0,.int .u64 1,.int .i64 0] 241)).heap[gs]?=some (.cells #[.int .u64 1,.int .u64 0,.int .u64 0,.int .u64 1,.int .i64 0] 241):=by rw [hgs];exact heap_alloc_new _ _
 have hW4r:(W3.alloc (.cells #[.int .u64 1,.int .u64 0,.int .u64 0,.int .u64 1,.int .i64 0] 241)).heap[gr]?=some eQ:=by rw [hgr];exact (Below.heap_alloc W3 _ _ (by rw [← hgr,← hgs];exact hlt)).trans HW2.out.2
 have HW4:=aH (aI hW4b (aI hW4s hW4r))
 rw [← hgr,← hgs]
 clear hW4b hW4s hW4r HW2 hgs
 have HGR:=aH hgr
 clear hgr
 generalize W3.alloc (.cells #[.int .u64 1,.int .u64 0,.int .u64 0,.int .u64 1,.int .i64 0] 241)=W4 at *
 go_loopw [7,8] (fun p q wr => ∃ x y oa ob na nb s:Nat,p = .int .u64 (x:Int)∧q = .int .u64 (y:Int)∧Hid (Pl.Steps x0 y0 x y oa ob na nb s∧vT x y ob nb s)∧SimB x0 x y s∧wr.heap[gs]?=some (oL oa ob na nb s)∧wr.heap[gr]?=some eQ∧Below gr w wr) (fun _ q _=>(intOf q).toNat)
 case atStart=>exact ⟨x0,y0,1,0,0,1,0,rfl,(by rw [HY0.out];rfl),⟨Pl.Steps.start _ _ HK.out.2.2,fun h=>absurd h (by omega)⟩,⟨HK.out.2.1,aR _,HK.out.2.2,by omega⟩,HW4.out.2.1,HW4.out.2.2,HW4.out.1⟩
 case round =>
  obtain ⟨x,y,oa,ob,na,nb,s,rfl,rfl,hst,hsb,hbs,hbr,hbe⟩:=hrel
  obtain ⟨m1,m2,m3,m4⟩:=hsb
  obtain ⟨c0,c1,c2,c3,c4,z0,z1,z2,z3,z4⟩:=bM hbs
  obtain ⟨d0,d1,d2,d3,d4,w0,w1,w2,w3,w4⟩:=bM (dI▸hbr)
  have hne:¬ gs=gr:=by omega
  have hne' : ¬ gr=gs:=by omega
  have hgsl:gs<wr.heap.size:=(Array.getElem?_eq_some_iff.1 hbs).1
  have hgrl:gr<wr.heap.size:=(Array.getElem?_eq_some_iff.1 hbr).1
  have HB:=aH (aI hbs (aI hbr hbe))
  clear hbs hbr hbe
  rcases Nat.eq_zero_or_pos y with rfl|hy
  ·simp only [Int.natCast_zero]
   go_wp2
   exact bodyPost_ret (v:=oK oa ob na nb s) (dS _ (fC (dI▸HB.out.2.1)) rfl) rfl ⟨⟨oa,ob,na,nb,s,x,0,rfl,hst.out.1,hst.out.2⟩,by rw [← HGR.out];exact bN HB.out.2.2 (aR _) _ _ _ _ _⟩
  ·have hs1:=hst.out.1.next hy
   obtain ⟨q,hq⟩:∃ q:Nat,q=x/y:=⟨_,rfl⟩
   obtain ⟨r,hr⟩:∃ r:Nat,r=x%y:=⟨_,rfl⟩
   rw [← hq,← hr] at hs1
   have f1:(x:Int).tdiv y=q:=by rw [hq,Int.tdiv_eq_ediv_of_nonneg (by omega),Int.natCast_ediv]
   have f2:(x:Int)/y=q:=by rw [hq,Int.natCast_ediv]
   have f3:(x:Int).tmod y=r:=by rw [hr,Int.tmod_eq_emod_of_nonneg (by omega),Int.natCast_emod]
   have f4:(x:Int)%y=r:=by rw [hr,Int.natCast_emod]
   have hry:r<y:=by rw [hr];exact Nat.mod_lt _ hy
   have hqx:q≤x:=by rw [hq];exact Nat.div_le_self _ _
   obtain ⟨oa2,hoa2⟩:∃ k:Nat,oa+q*na=k:=⟨_,rfl⟩
   obtain ⟨ob2,hob2⟩:∃ k:Nat,ob+q*nb=k:=⟨_,rfl⟩
   rw [hoa2,hob2] at hs1
   have l1:=hs1.na_le hy
   have l2:=hs1.nb_le hy
   have hy0x:=HK.out.2.2
   have cn:=aH (fun w=>yH oa ob na nb s q oa2 ob2 w hoa2 hob2 (by omega) (by omega) m4)
   have HS1:=aH (aI hs1 (aI l1 l2))
   have hxi:(x:Int)≤18446744073709551615:=by omega
   have hyn:¬ ((y:Int)=0):=by omega
   have hy' : (0:Int)<y:=by omega
   have hqi:(q:Int)≤18446744073709551615:=by omega
   have hri:(r:Int)≤18446744073709551615:=by omega
   have HM:=aH (aI m1 (aI m2 (aI m3 m4)))
   clear hs1 l1 l2 hq hr hoa2 hob2 hy m1 m2 m3 m4 hy0x d0 d1 d2 d3 d4 w0 w1 w2 w3 w4 z0 z1 z2 z3 z4 hqx
   go_wp2
   go_region_with ((go_at_call 239;refine (cn.out _).mono ?_;rintro e w5 ⟨rfl,hb5⟩;first|(have hk0:=iP hb5;obtain ⟨v0,v1,v2,v3,v4,x0',x1',x2',x3',x4'⟩:=bM hk0)|(have hk0:=kept_alloc hb5;obtain ⟨v0,v1,v2,v3,v4,x0',x1',x2',x3',x4'⟩:=bM hk0)|skip))
   all_goals first
    | (have hW:=Behind.fresh (W0:=w) (gr:=gr) (gs:=gs) (na:=na) (nb:=nb) (oa2:=oa2) (ob2:=ob2) (aB _ _) hb5 HB.out.1 HB.out.2.1 HB.out.2.2
       have HW6:=aH hW
       generalize w5.alloc (.cells #[.int .u64 (na:Int),.int .u64 (nb:Int),.int .u64 (oa2:Int),.int .u64 (ob2:Int),.int .i64 ((s:Int)+1)] 241)=W6 at HW6 ⊢
       generalize w5.heap.size=gn at HW6 ⊢)
    | (have hW:=Behind.fresh (W0:=w) (gr:=gr) (gs:=gs) (na:=na) (nb:=nb) (oa2:=oa2) (ob2:=ob2) (aB _ _).drew hb5 HB.out.1 HB.out.2.1 HB.out.2.2
       have HW6:=aH hW
       generalize w5.alloc (.cells #[.int .u64 (na:Int),.int .u64 (nb:Int),.int .u64 (oa2:Int),.int .u64 (ob2:Int),.int .i64 ((s:Int)+1)] 241)=W6 at HW6 ⊢
       generalize w5.heap.size=gn at HW6 ⊢)
    | (have hW:=Behind.laid (W0:=w) (gr:=gr) (gs:=gs) (na:=na) (nb:=nb) (oa2:=oa2) (ob2:=ob2) ((aB _ _).alloc (aR _) _) hb5 hk0 HB.out.1 HB.out.2.1 HB.out.2.2
       have HW6:=aH hW
       generalize (((((w5.setCell ⟨wr.heap.size,0,none⟩ (.int .u64 (na:Int))).setCell ⟨wr.heap.size,1,none⟩ (.int .u64 (nb:Int))).setCell ⟨wr.heap.size,2,none⟩ (.int .u64 (oa2:Int))).setCell ⟨wr.heap.size,3,none⟩ (.int .u64 (ob2:Int))).setCell ⟨wr.heap.size,4,none⟩ (.int .i64 ((s:Int)+1)))=W6 at HW6 ⊢
       generalize wr.heap.size=gn at HW6 ⊢)
    | (have hW:=Behind.laid (W0:=w) (gr:=gr) (gs:=gs) (na:=na) (nb:=nb) (oa2:=oa2) (ob2:=ob2) ((aB _ _).alloc (aR _) _).drew hb5 hk0 HB.out.1 HB.out.2.1 HB.out.2.2
       have HW6:=aH hW
       generalize (((((w5.setCell ⟨wr.heap.size,0,none⟩ (.int .u64 (na:Int))).setCell ⟨wr.heap.size,1,none⟩ (.int .u64 (nb:Int))).setCell ⟨wr.heap.size,2,none⟩ (.int .u64 (oa2:Int))).setCell ⟨wr.heap.size,3,none⟩ (.int .u64 (ob2:Int))).setCell ⟨wr.heap.size,4,none⟩ (.int .i64 ((s:Int)+1)))=W6 at HW6 ⊢
       generalize wr.heap.size=gn at HW6 ⊢)
   all_goals clear cn c0 c1 c2 c3 c4 hgsl hgrl hb5
   all_goals try clear hk0
   all_goals try clear v0 v1 v2 v3 v4 x0' x1' x2' x3' x4'
   all_goals
    go_wp2
    go_quiet (fail)
    have HW7:=aH (show Behind w (W6.drewN nq) gr gs gn oa ob na nb s oa2 ob2 na nb (s+1) from ⟨HW6.out.1,HW6.out.2.1,HW6.out.2.2.1,bZ HW6.out.2.2.2.1 _,HW6.out.2.2.2.2⟩)
    clear HW6
    generalize W6.drewN nq=W7 at HW7 ⊢
    obtain ⟨n0,n1,n2,n3,n4,p0,p1,p2,p3,p4⟩:=bM HW7.out.1
    obtain ⟨c0,c1,c2,c3,c4,z0,z1,z2,z3,z4⟩:=bM HW7.out.2.1
    obtain ⟨d0,d1,d2,d3,d4,w0,w1,w2,w3,w4⟩:=bM (dI▸HW7.out.2.2.1)
    have q1:¬ gn=gs:=HW7.out.2.2.2.2.1
    have q2:¬ gn=gr:=HW7.out.2.2.2.2.2
    have q3:¬ gs=gn:=fun h=>q1 h.symm
    have q4:¬ gr=gn:=fun h=>q2 h.symm
    have hsum:(nb:Int)+ob2≤18446744073709551615∨r<ob2:=by
     rcases Nat.lt_or_ge r ob2 with h|h
     ·exact .inr h
     ·have hrp:0<r:=Nat.lt_of_lt_of_le HS1.out.1.nb1 h
      have:=HS1.out.1.sum_le hrp
      have:=HM.out.1
      have:=aL
      exact .inl (by omega)
    have hyr:(0:Int)≤(y:Int)-r:=by omega
    have hwr:IntKind.u64.wrap ((y:Int)-r)=(y:Int)-r:=by rw [IntKind.wrap_u64];have:=HM.out;have:=aL;omega
    by_cases t1:r<ob2
    ·have t1' : (r:Int)<ob2:=by omega
     clear hsum t1
     go_wp2
     exact bodyPost_ret (v:=oK oa ob na nb s) (dS _ (fC (dI▸HW7.out.2.2.1)) rfl) rfl ⟨⟨oa,ob,na,nb,s,x,y,rfl,hst.out.1,hst.out.2⟩,by rw [← HGR.out];exact bN HW7.out.2.2.2.1 (aR _) _ _ _ _ _⟩
    ·have t1' : ¬ (r:Int)<ob2:=by omega
     have hsum' : (nb:Int)+ob2≤18446744073709551615:=by omega
     by_cases t2:(y:Int)-r<(nb:Int)+ob2
     ·clear hsum t1
      go_wp2
      exact bodyPost_ret (v:=oK oa ob na nb s) (dS _ (fC (dI▸HW7.out.2.2.1)) rfl) rfl ⟨⟨oa,ob,na,nb,s,x,y,rfl,hst.out.1,hst.out.2⟩,by rw [← HGR.out];exact bN HW7.out.2.2.2.1 (aR _) _ _ _ _ _⟩
     ·have htk:vT y r nb ob2 (s+1):=fun _=>⟨by omega,by omega⟩
      have hsm:SimB x0 y r (s+1):=⟨HM.out.1,by have:=HM.out;omega,by omega,(SimOk.of_steps HS1.out.1 htk HM.out.1 HK.out.2.2 (K:=1) (α:=0) (β:=0) rfl rfl (by omega) (by omega)).1⟩
      have HT:=aH (aI htk hsm)
      have t3:decide ((y:Int)-r<(nb:Int)+ob2)=false:=by simp;omega
      have t4:(nb:Int)+ob2≤(y:Int)-r:=by omega
      clear hsum t1 htk hsm t2
      go_wp2
      go_roundw
      case rel=>exact ⟨y,r,na,nb,oa2,ob2,s+1,rfl,rfl,⟨HS1.out.1,HT.out.1⟩,HT.out.2,fC HW7.out.2.1,(fI hne' _ _ _ _ _).trans HW7.out.2.2.1,bN HW7.out.2.2.2.1 (Nat.le_of_lt hlt) _ _ _ _ _⟩
      case measure=>simp [intOf];omega
def yJ (a b:Nat) (w:World) (e:Ending) (w' : World):Prop := ∃ oa ob na nb s:Nat,e = .returned (oK oa ob na nb s)∧SimOk a b oa ob na nb s∧Below w.heap.size w w'
theorem simulate_any (A:Option Addr) (n c:Nat) (xs:List Nat) (A' : Option Addr) (n' c' : Nat) (ys:List Nat) (w:World) (h:Rd w A n c xs) (h' : Rd w A' n' c' ys)
 (hd:Dig aD xs) (hd' : Dig aD ys) (hx:Norm xs) (hn' : 2≤n') (hle:n'≤n) (hge:val aD ys≤val aD xs) :
 Calls Tryz.prog 205 #[.slice A n c,.slice A' n' c'] w (yJ (val aD xs) (val aD ys) w):=by
 have hW:=aL
 have hlx:=h.len
 have hly:=h'.len
 obtain ⟨a1,g1⟩:∃ a1,xs[n-1]?=some a1:=⟨_,List.getElem?_eq_getElem (by omega)⟩
 obtain ⟨a2,g2⟩:∃ a2,xs[n-2]?=some a2:=⟨_,List.getElem?_eq_getElem (by omega)⟩
 have l1:=hd.at_ g1
 have l2:=hd.at_ g2
 have ha1:0<a1:=by
  have hne:xs≠[]:=by rintro rfl;simp at g1
  have:=hx hne
  rw [List.getLast_eq_getElem] at this
  obtain ⟨k,ey⟩:=List.getElem?_eq_some_iff.1 g1
  simp only [hlx,ey] at this
  omega
 obtain ⟨sh,hs,hbl,s1,s2⟩:=qX a1 ha1 l1
 obtain ⟨t1,t2,α,eα,lα⟩:=lead_bits (a1:=a1) (a2:=a2) hd (n:=n) (by omega) (by omega) hs (by rw [List.getD,g1];rfl) (by rw [List.getD,g2];rfl) s2
 obtain ⟨b1,hb1⟩:∃ b1,ys.getD (n-1) 0=b1:=⟨_,rfl⟩
 obtain ⟨b2,hb2⟩:∃ b2,ys.getD (n-2) 0=b2:=⟨_,rfl⟩
 have hba:b1≤a1:=by
  rcases Nat.lt_or_ge a1 b1 with hlt|hge'
  ·exfalso
   have hk:n-1<ys.length:=by
    rcases Nat.lt_or_ge (n-1) ys.length with h|h
    ·exact h
    ·rw [List.getD,List.getElem?_eq_none h] at hb1
     have:(0:Nat)=b1:=hb1
     omega
   have e1:val aD xs=val aD (xs.take (n-1))+aD^(n-1)*a1:=by
    have:val aD xs=val aD (xs.take (n-1+1)):=by rw [List.take_of_length_le (by omega)]
    obtain ⟨k,ey⟩:=List.getElem?_eq_some_iff.1 g1
    rw [this,aF _ _ _ k,ey]
   have e2:val aD ys=val aD (ys.take (n-1))+aD^(n-1)*b1:=by
    have:val aD ys=val aD (ys.take (n-1+1)):=by rw [List.take_of_length_le (by omega)]
    rw [this,aF _ _ _ hk]
    rw [List.getD,List.getElem?_eq_getElem hk] at hb1
    have:ys[n-1]=b1:=hb1
    rw [this]
   have e3:=bW (hd.take (n-1))
   rw [List.length_take,Nat.min_eq_left (by omega)] at e3
   have e4:aD^(n-1)*(a1+1)≤aD^(n-1)*b1:=Nat.mul_le_mul_left _ hlt
   rw [Nat.mul_add,Nat.mul_one] at e4
   omega
  ·exact hge'
 have hb1s:b1*2^sh<aD:=Nat.lt_of_le_of_lt (Nat.mul_le_mul_right _ hba) s2
 obtain ⟨u1,u2,β,eβ,lβ⟩:=lead_bits hd' (n:=n) (by omega) (by omega) hs hb1 hb2 hb1s
 obtain ⟨K,hK⟩:∃ K,K=2^(64-sh)*aD^(n-2):=⟨_,rfl⟩
 obtain ⟨x0,hx0⟩:∃ x0,x0=a1*2^sh+a2/2^(64-sh):=⟨_,rfl⟩
 obtain ⟨y0,hy0⟩:∃ y0,y0=b1*2^sh+b2/2^(64-sh):=⟨_,rfl⟩
 rw [← hx0,← hK] at eα
 rw [← hy0,← hK] at eβ
 rw [← hK] at lα lβ
 have hyx:y0≤x0:=by
  have:y0*K<(x0+1)*K:=by rw [Nat.add_mul,Nat.one_mul];omega
  have:=Nat.lt_of_mul_lt_mul_right this
  omega
 have e1:IntKind.u64.wrap ((a1:Int)*2^sh)=((a1*2^sh:Nat):Int):=by rw [show (a1:Int)*2^sh=((a1*2^sh:Nat):Int) from by simp,lS _ (by omega)]
 have e2:bits .or .u64 ((a1*2^sh:Nat):Int) ((a2:Int)/2^(64-sh))=(x0:Int):=by
  rw [show (a2:Int)/2^(64-sh)=((a2/2^(64-sh):Nat):Int) from by simp,hx0]
  exact yC _ _ _ t1 (by omega)
 have e3:IntKind.u64.wrap ((b1:Int)*2^sh)=((b1*2^sh:Nat):Int):=by rw [show (b1:Int)*2^sh=((b1*2^sh:Nat):Int) from by simp,lS _ (by omega)]
 have e4:bits .or .u64 ((b1*2^sh:Nat):Int) ((b2:Int)/2^(64-sh))=(y0:Int):=by
  rw [show (b2:Int)/2^(64-sh)=((b2/2^(64-sh):Nat):Int) from by simp,hy0]
  exact yC _ _ _ u1 (by omega)
 have e5:n'<n→(b2:Int)/2^(64-sh)=(y0:Int):=by
  intro hlt
  have:b1=0:=by rw [← hb1,List.getD,List.getElem?_eq_none (by omega)];rfl
  rw [hy0,this]
  simp
 have e6:n'<n-1→y0=0:=by
  intro hlt
  have q1:b1=0:=by rw [← hb1,List.getD,List.getElem?_eq_none (by omega)];rfl
  have q2:b2=0:=by rw [← hb2,List.getD,List.getElem?_eq_none (by omega)];rfl
  rw [hy0,q1,q2]
  simp
 have k1:n'=n→ys[n-1]?=some b1:=by
  intro hh
  rw [List.getD,List.getElem?_eq_getElem (by omega)] at hb1
  rw [List.getElem?_eq_getElem (by omega)]
  exact congrArg some hb1
 have k2:n-1≤n'→ys[n-2]?=some b2:=by
  intro hh
  rw [List.getD,List.getElem?_eq_getElem (by omega)] at hb2
  rw [List.getElem?_eq_getElem (by omega)]
  exact congrArg some hb2
 have fin:∀ e w',SimRes x0 y0 e∧Below w.heap.size w w'→yJ (val aD xs) (val aD ys) w e w':=by
  rintro e w' ⟨⟨oa,ob,na,nb,s,x,y,he,hst,htk⟩,hb⟩
  exact ⟨oa,ob,na,nb,s,he,SimOk.of_steps hst htk (by omega) hyx eα eβ lα lβ,hb⟩
 have hcase:n'=n∨n'=n-1∨n'<n-1:=by omega
 rcases hcase with hh|hh|hh
 ·exact (simulate_eq A n c xs A' n' c' ys sh x0 y0 w h h' hd hd' (by omega) hn' hle hh a1 a2 b1 b2 _ _ hs hbl g1 g2 k1 k2 e1 e2 e3 (fun _=>e4) (fun _=>e5 (by omega)) e6 (by omega) hyx).mono fin
 ·exact (simulate_one A n c xs A' n' c' ys sh x0 y0 w h h' hd hd' (by omega) hn' hle hh a1 a2 b1 b2 _ _ hs hbl g1 g2 k1 k2 e1 e2 e3 (fun _=>e4) (fun _=>e5 (by omega)) e6 (by omega) hyx).mono fin
 ·exact (zT A n c xs A' n' c' ys sh x0 y0 w h h' hd hd' (by omega) hn' hle hh a1 a2 b1 b2 _ _ hs hbl g1 g2 k1 k2 e1 e2 e3 (fun _=>e4) (fun _=>e5 (by omega)) e6 (by omega) hyx).mono fin
end
end Go.Proofs.YtklnecajplnboaaGreatDoor
