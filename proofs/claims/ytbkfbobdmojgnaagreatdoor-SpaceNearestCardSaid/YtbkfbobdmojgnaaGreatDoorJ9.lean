/- Parts of the proof, joined. -/
import Derived.Test.YtbkfbobdmojgnaaGreatDoorShelf
import Derived.Lib.Walk
import Derived.Lib.ItoaMem
import Derived.WalkKit
import Derived.BigCall
import Derived.BigGuard
import Derived.Lib.Hide
import Derived.Test.YtbkfbobdmojgnaaGreatDoorJ1
import Derived.Laws.Bits64
import Derived.Laws.Shifts
import Derived.Test.YtbkfbobdmojgnaaGreatDoorJ0
set_option linter.unusedSimpArgs false
set_option linter.unusedVariables false
namespace Go.Proofs
open Go.Shelf
def BldRen:Shelf.Ren:=⟨fun|166=>218|240=>248|276=>274|n=>n,fun|0=>0|3=>3|4=>4|5=>5|9=>9|20=>20|37=>256|70=>255|72=>258|75=>217|80=>262|164=>299|n=>n,fun|n=>n⟩
theorem BldLays:Go.Proofs.Lays.n166 Tryz.prog BldRen := {
 mixed:=by kernel_rfl
 f166:=Tryz.func218.trans (congrArg some (by kernel_rfl))
 f240:=Tryz.func248.trans (congrArg some (by kernel_rfl))
 f276:=Tryz.func274.trans (congrArg some (by kernel_rfl))
 t0:=Tryz.underlying0
 a0:=Tryz.isAgg0
 z0:=Tryz.sizeOf0
 v0:=Tryz.zeroValue0
 t3:=Tryz.underlying3
 a3:=Tryz.isAgg3
 z3:=Tryz.sizeOf3
 v3:=Tryz.zeroValue3
 t4:=Tryz.underlying4
 a4:=Tryz.isAgg4
 z4:=Tryz.sizeOf4
 v4:=Tryz.zeroValue4
 t9:=Tryz.underlying9
 a9:=Tryz.isAgg9
 z9:=Tryz.sizeOf9
 v9:=Tryz.zeroValue9
 t20:=Tryz.underlying20
 a20:=Tryz.isAgg20
 z20:=Tryz.sizeOf20
 v20:=Tryz.zeroValue20
 t37:=Tryz.underlying256
 a37:=Tryz.isAgg256
 z37:=Tryz.sizeOf256
 v37:=Tryz.zeroValue256
 t70:=Tryz.underlying255
 a70:=Tryz.isAgg255
 z70:=Tryz.sizeOf255
 v70:=Tryz.zeroValue255
 t72:=Tryz.underlying258
 a72:=Tryz.isAgg258
 z72:=Tryz.sizeOf258
 v72:=Tryz.zeroValue258
 t75:=Tryz.underlying217
 a75:=Tryz.isAgg217
 z75:=Tryz.sizeOf217
 v75:=Tryz.zeroValue217
 t164:=Tryz.underlying299
 a164:=Tryz.isAgg299
 z164:=Tryz.sizeOf299
 v164:=Tryz.zeroValue299
}
theorem BldExtra:Builder.Extra Tryz.prog BldRen := {
 sizeBuilder:=by kernel_rfl
 liesBuilder:=by kernel_rfl
 t5:=Tryz.underlying5
 a5:=Tryz.isAgg5
 z5:=Tryz.sizeOf5
 v5:=Tryz.zeroValue5
 infoByte:=by kernel_rfl
 cellsByte:=by kernel_rfl
 sizeByte:=by kernel_rfl
 neB5:=by decide
}
open Go.RowKit in
theorem write_string (B b:Nat) (bs:List Value) (s:ByteArray) (w:World) (h:Lib.IsBuilder 258 5 B b bs w) (hl:bs.length+s.size≤140737488355328) (hB:B≤w.heap.size) :
 Calls Tryz.prog 218 #[.pointer (some ⟨b,0,none⟩),.string s] w fun e w'=>e = .returned (.tuple #[.int .i64 s.size,.nilIface])∧Lib.BuilderAt 258 5 B b (.pointer (some ⟨b,0,none⟩)) (bs++Lib.strCells s) w'∧Below B w w' :=
 Any.Builder_WriteString BldLays BldExtra B b bs s w h hl hB
end Go.Proofs
namespace Go.Proofs.YtbkfbobdmojgnaaGreatDoor
open Go.RowKit Go.Sort Go.Lib
def Laid (w:World):Prop:=TabIs Tryz.prog w "internal/strconv.uint64pow10" .u64 pow10Tab
theorem Laid.below {w w' : World} (h:Laid w) (hb:Below w.heap.size w w'):Laid w':=by
 unfold Laid TabIs World.var? at *
 cases hg:Tryz.prog.globalNamed "internal/strconv.uint64pow10" with
 | none=>simp [hg] at h
 | some g =>
   simp only [hg,Option.bind_some] at h ⊢
   have hlt:g<w.heap.size:=by
    rcases Nat.lt_or_ge g w.heap.size with h'|h'
    ·exact h'
    ·rw [Array.getElem?_eq_none h'] at h;simp at h
   rw [hb.block g hlt]
   exact h
theorem below_grow (w:World) (os:Array Obj):Below w.heap.size w (grow w os) :=
 ⟨rfl,rfl,rfl,by simp [grow],fun k hk=>by simp only [grow];rw [Array.getElem?_append_left hk]⟩
theorem below_drewN (w:World) (k:Nat):Below w.heap.size w (w.drewN k):=⟨rfl,rfl,rfl,Nat.le_refl _,fun _ _=>rfl⟩
theorem fin_zero (w:World) (o:Obj) (dk:Array UInt8) (k:Nat):∃ os,(putRow (fun (b:UInt8)=>Value.int .u8 (b.toNat:Int)) (w.alloc o) w.heap.size 0 dk).drewN k=grow (w.drewN k) os:=by
 rw [alloc_eq_grow]
 obtain ⟨os',_,e⟩:=putRow_grow_new (fun (b:UInt8)=>Value.int .u8 (b.toNat:Int)) w #[o] w.heap.size 0 dk (Nat.le_refl _)
 exact ⟨os',by rw [e];rfl⟩
theorem holds_zero0 (w:World) (T:TypeId) (nd:Nat) (hs:nd≤24):Holds (fun (b:UInt8)=>Value.int .u8 (b.toNat:Int)) (w.alloc (.cells zeros24 T)) w.heap.size 0 (Array.replicate nd (0:UInt8)):=fun j hj=>by
 have hj' : j<nd:=by simpa using hj
 refine ⟨?_,World.frozen?_alloc_new _ _ _ _⟩
 rw [World.cell?_alloc_new,zeros24_at _ (by omega),getElem!_pos _ j hj]
 simp
set_option maxHeartbeats 6400000 in
set_option maxRecDepth 100000 in
theorem formatUint_inner (u:Nat) (hu64:u<18446744073709551616) (w:World) (htab:Laid w) :
 Calls Tryz.prog 282 #[.int .u64 (u:Int),.int .i64 10] w fun e w'=>e = .returned (.string ⟨(decDigits u).toArray⟩)∧Below w.heap.size w w':=by
 by_cases hs:u<100
 ·go_enter Tryz.func282,Tryz.ntmps282
  go_wp2_with (go_at_call 263;refine (Tryz.internal_strconv_small u hs _).mono ?_;rintro e w' ⟨rfl,rfl⟩)
  go_ret
  exact ⟨rfl,Below.refl _ _⟩
 ·have hu1:1≤u:=by omega
  have hnd20:nDigits u≤20:=by have:=numDigits_eq u hu1 hu64;split at this <;> omega
  have hal:Tryz.prog.arrayLen 294=24:=by simp [Program.arrayLen,Tryz.underlying294]
  have hsl1:∀ W,(Instr.sliceAt 294 (.pointer (some ⟨w.heap.size,0,none⟩)) none (some (.int .i64 (nDigits u:Int))) none).run Tryz.prog W = .ok (.slice (some ⟨w.heap.size,0,none⟩) (nDigits u) 24) W:=fun W=>by
   rw [run_sliceAt_array_h W 294 ⟨w.heap.size,0,none⟩ (by simp [Program.arrayLen,Program.elem,Tryz.underlying294]) .i64 (nDigits u:Int) (by omega) (by rw [hal];omega)]
   go_simp
  have hH0:=holds_zero0 w 294 (nDigits u) (by omega)
  have hfmt:=Tryz.internal_strconv_formatBase10 w.heap.size 0 24 u (Array.replicate (nDigits u) 0) (w.alloc (.cells zeros24 294)) hH0 (by rw [Array.size_replicate];exact lt_pow_nDigits u) hu64 (by rw [Array.size_replicate];omega)
  rw [Array.size_replicate] at hfmt
  have HH0:=Lib.hid hH0
  clear hH0 hal
  go_enter Tryz.func282,Tryz.ntmps282
  go_wp2_with (first
   | (go_at_call 264;refine (Tryz.internal_strconv_numDigits u hu1 hu64 _ (tabIs_alloc htab _)).mono ?_;rintro e w' ⟨rfl,rfl⟩))
  refine hfmt.mono ?_
  rintro e w' ⟨rfl,k,v',dk,rfl,hF⟩
  have hcv:(convert 256 9 (.slice (some ⟨w.heap.size,0,none⟩) (nDigits u) 24)).run Tryz.prog ((putRow (fun (b:UInt8)=>Value.int .u8 (b.toNat:Int)) (w.alloc (.cells zeros24 294)) w.heap.size 0 dk).drewN k) = .ok (.string ⟨(decDigits u).toArray⟩) ((putRow (fun (b:UInt8)=>Value.int .u8 (b.toNat:Int)) (w.alloc (.cells zeros24 294)) w.heap.size 0 dk).drewN k):=by
   have h:=run_convert_bytes_back (P:=Tryz.prog) ((putRow (fun (b:UInt8)=>Value.int .u8 (b.toNat:Int)) (w.alloc (.cells zeros24 294)) w.heap.size 0 dk).drewN k) 256 9 5 ⟨w.heap.size,0,none⟩ 24 (decDigits u) Tryz.underlying256 Tryz.underlying5 Tryz.underlying9 (fun j hj=>by
    rw [row_is_numeral hF j hj,add_plain,World.cell?_drewN]
    exact cell?_putRow (fun (b:UInt8)=>Value.int .u8 (b.toNat:Int)) _ w.heap.size 0 _ dk HH0.out (by rw [hF.size,Array.size_replicate]) j (by rw [hF.size];rw [decDigits_length] at hj;exact hj))
   rw [decDigits_length] at h
   exact h
  go_wp2
  go_ret
  obtain ⟨os,eo⟩:=fin_zero w (.cells zeros24 294) dk k
  refine ⟨rfl,?_⟩
  rw [eo]
  exact (below_drewN w k).trans (below_grow (w.drewN k) os)
theorem formatUint_any (u:Nat) (hu64:u<18446744073709551616) (w:World) (htab:Laid w) :
 Calls Tryz.prog 262 #[.int .u64 (u:Int),.int .i64 10] w fun e w'=>e = .returned (.string ⟨(decDigits u).toArray⟩)∧Below w.heap.size w w':=by
 have H:=Lib.hid htab
 clear htab
 go_enter Tryz.func262,Tryz.ntmps262
 go_wp2_with (go_at_call 282;refine (formatUint_inner u hu64 _ H.out).mono ?_;rintro e w' ⟨rfl,hb⟩)
 go_ret
 exact ⟨rfl,hb⟩
end Go.Proofs.YtbkfbobdmojgnaaGreatDoor
namespace Go.Proofs.YtbkfbobdmojgnaaGreatDoor.Pl
structure Steps (x0 y0 x y oa ob na nb s:Nat):Prop where
 i1:nb*x+ob*y=x0
 i2:na*x+oa*y=y0
 det:(s%2=0→oa*nb=ob*na+1)∧(s%2=1→ob*na=oa*nb+1)
 zero:s=0→oa=1∧ob=0∧na=0∧nb=1
 ord:0<s→oa≤ob∧na≤nb∧0<na∧0<ob
 nb1:0<nb
 sb:s≤nb
 lt:y≤x
theorem Steps.start (x0 y0:Nat) (h:y0≤x0):Steps x0 y0 x0 y0 1 0 0 1 0 :=
 ⟨by simp,by simp,by simp,by simp,by omega,by omega,by omega,h⟩
theorem Steps.next {x0 y0 x y oa ob na nb s:Nat} (h:Steps x0 y0 x y oa ob na nb s) (hy:0<y) :
 Steps x0 y0 y (x%y) na nb (oa+x/y*na) (ob+x/y*nb) (s+1):=by
 have hx:y*(x/y)+x%y=x:=Nat.div_add_mod x y
 have hq:1≤x/y:=(Nat.one_le_div_iff hy).2 h.lt
 have hm:x%y<y:=Nat.mod_lt _ hy
 generalize x/y=q at *
 generalize x%y=r at *
 have hb:nb≤q*nb:=Nat.le_mul_of_pos_left _ hq
 have ha:na≤q*na:=Nat.le_mul_of_pos_left _ hq
 have n1:=h.nb1
 have sb:=h.sb
 refine ⟨?_,?_,⟨?_,?_⟩,by omega,?_,?_,?_,by omega⟩
 ·rw [← h.i1,← hx];grind
 ·rw [← h.i2,← hx];grind
 ·intro e
  have:=h.det.2 (by omega)
  grind
 ·intro e
  have:=h.det.1 (by omega)
  grind
 ·intro _
  rcases Nat.eq_zero_or_pos s with e|hs
  ·obtain ⟨rfl,rfl,rfl,rfl⟩:=h.zero e
   simp;omega
  ·obtain ⟨o1,o2,o3,o4⟩:=h.ord hs
   have:=Nat.mul_le_mul_left q o2
   refine ⟨o2,by omega,by omega,n1⟩
 ·omega
 ·rcases Nat.eq_zero_or_pos s with e|hs
  ·omega
  ·have:=(h.ord hs).2.2.2;omega
theorem Steps.nb_le {x0 y0 x y oa ob na nb s:Nat} (h:Steps x0 y0 x y oa ob na nb s) (hx:0<x):nb≤x0:=by
 have:=Nat.le_mul_of_pos_right nb hx
 have:=h.i1
 omega
theorem Steps.na_le {x0 y0 x y oa ob na nb s:Nat} (h:Steps x0 y0 x y oa ob na nb s) (hx:0<x):na≤y0:=by
 have:=Nat.le_mul_of_pos_right na hx
 have:=h.i2
 omega
theorem Steps.sum_le {x0 y0 x y oa ob na nb s:Nat} (h:Steps x0 y0 x y oa ob na nb s) (hy:0<y):ob+nb≤x0:=by
 have hx:0<x:=Nat.lt_of_lt_of_le hy h.lt
 have:=Nat.le_mul_of_pos_right nb hx
 have:=Nat.le_mul_of_pos_right ob hy
 have:=h.i1
 omega
theorem Steps.lift {x0 y0 x y oa ob na nb s:Nat} (h:Steps x0 y0 x y oa ob na nb s) (hs:0<s) (c1:nb≤y) (c2:ob+nb≤x-y)
 {K α β a b:Nat} (ha:a=x0*K+α) (hb:b=y0*K+β) (hα:α<K) (hβ:β<K) :
 ∃ a' b',a=nb*a'+ob*b'∧b=na*a'+oa*b'∧b'<a' ∧
   (s%2=0→oa*a=a'+ob*b∧nb*b=b'+na*a)∧(s%2=1→ob*b=a'+oa*a∧na*a=b'+nb*b):=by
 obtain ⟨o1,o2,o3,o4⟩:=h.ord hs
 have hlt:=h.lt
 have k1:na*α≤nb*K:=Nat.mul_le_mul o2 (Nat.le_of_lt hα)
 have k2:nb*β≤nb*K:=Nat.mul_le_mul_left _ (Nat.le_of_lt hβ)
 have k3:oa*α≤ob*K:=Nat.mul_le_mul o1 (Nat.le_of_lt hα)
 have k4:ob*β≤ob*K:=Nat.mul_le_mul_left _ (Nat.le_of_lt hβ)
 have k5:nb*K≤y*K:=Nat.mul_le_mul_right _ c1
 have k6:(ob+nb)*K+y*K≤x*K:=by rw [← Nat.add_mul];exact Nat.mul_le_mul_right _ (by omega)
 rw [Nat.add_mul] at k6
 have k7:nb*β<nb*K:=Nat.mul_lt_mul_of_pos_left hβ h.nb1
 have k8:na*α<na*K:=Nat.mul_lt_mul_of_pos_left hα o3
 have k9:na*K≤nb*K:=Nat.mul_le_mul_right _ o2
 have e1:=h.i1
 have e2:=h.i2
 rcases Nat.mod_two_eq_zero_or_one s with e|e
 ·have d:=h.det.1 e
  have x1:oa*x0=x+ob*y0:=by rw [← e1,← e2];grind
  have y1:nb*y0=y+na*x0:=by rw [← e1,← e2];grind
  refine ⟨x*K+oa*α-ob*β,y*K+nb*β-na*α,?_,?_,by omega,fun _=>⟨?_,?_⟩,by omega⟩
  ·have p:ob*β≤x*K+oa*α:=by omega
   have p2:na*α≤y*K+nb*β:=by omega
   obtain ⟨u,hu⟩:=Nat.exists_eq_add_of_le p
   obtain ⟨v,hv⟩:=Nat.exists_eq_add_of_le p2
   rw [hu,hv,Nat.add_sub_cancel_left,Nat.add_sub_cancel_left,ha,← e1]
   grind
  ·have p:ob*β≤x*K+oa*α:=by omega
   have p2:na*α≤y*K+nb*β:=by omega
   obtain ⟨u,hu⟩:=Nat.exists_eq_add_of_le p
   obtain ⟨v,hv⟩:=Nat.exists_eq_add_of_le p2
   rw [hu,hv,Nat.add_sub_cancel_left,Nat.add_sub_cancel_left,hb,← e2]
   grind
  ·have p:ob*β≤x*K+oa*α:=by omega
   obtain ⟨u,hu⟩:=Nat.exists_eq_add_of_le p
   rw [hu,Nat.add_sub_cancel_left,ha,hb]
   grind
  ·have p2:na*α≤y*K+nb*β:=by omega
   obtain ⟨v,hv⟩:=Nat.exists_eq_add_of_le p2
   rw [hv,Nat.add_sub_cancel_left,ha,hb]
   grind
 ·have d:=h.det.2 e
  have x1:ob*y0=x+oa*x0:=by rw [← e1,← e2];grind
  have y1:na*x0=y+nb*y0:=by rw [← e1,← e2];grind
  refine ⟨x*K+ob*β-oa*α,y*K+na*α-nb*β,?_,?_,by omega,by omega,fun _=>⟨?_,?_⟩⟩
  ·have p:oa*α≤x*K+ob*β:=by omega
   have p2:nb*β≤y*K+na*α:=by omega
   obtain ⟨u,hu⟩:=Nat.exists_eq_add_of_le p
   obtain ⟨v,hv⟩:=Nat.exists_eq_add_of_le p2
   rw [hu,hv,Nat.add_sub_cancel_left,Nat.add_sub_cancel_left,ha,← e1]
   grind
  ·have p:oa*α≤x*K+ob*β:=by omega
   have p2:nb*β≤y*K+na*α:=by omega
   obtain ⟨u,hu⟩:=Nat.exists_eq_add_of_le p
   obtain ⟨v,hv⟩:=Nat.exists_eq_add_of_le p2
   rw [hu,hv,Nat.add_sub_cancel_left,Nat.add_sub_cancel_left,hb,← e2]
   grind
  ·have p:oa*α≤x*K+ob*β:=by omega
   obtain ⟨u,hu⟩:=Nat.exists_eq_add_of_le p
   rw [hu,Nat.add_sub_cancel_left,ha,hb]
   grind
  ·have p2:nb*β≤y*K+na*α:=by omega
   obtain ⟨v,hv⟩:=Nat.exists_eq_add_of_le p2
   rw [hv,Nat.add_sub_cancel_left,ha,hb]
   grind
theorem gcd_of_lift {a b a' b' oa ob na nb s:Nat} (e1:a=nb*a'+ob*b') (e2:b=na*a'+oa*b')
 (h0:s%2=0→oa*a=a'+ob*b∧nb*b=b'+na*a) (h1:s%2=1→ob*b=a'+oa*a∧na*a=b'+nb*b):Nat.gcd a' b'=Nat.gcd a b:=by
 apply Nat.dvd_antisymm
 ·apply Nat.dvd_gcd
  ·rw [e1];exact Nat.dvd_add (Nat.dvd_mul_left_of_dvd (Nat.gcd_dvd_left _ _) _) (Nat.dvd_mul_left_of_dvd (Nat.gcd_dvd_right _ _) _)
  ·rw [e2];exact Nat.dvd_add (Nat.dvd_mul_left_of_dvd (Nat.gcd_dvd_left _ _) _) (Nat.dvd_mul_left_of_dvd (Nat.gcd_dvd_right _ _) _)
 ·have da:∀ k,Nat.gcd a b ∣ k*a:=fun k=>Nat.dvd_mul_left_of_dvd (Nat.gcd_dvd_left _ _) _
  have db:∀ k,Nat.gcd a b ∣ k*b:=fun k=>Nat.dvd_mul_left_of_dvd (Nat.gcd_dvd_right _ _) _
  rcases Nat.mod_two_eq_zero_or_one s with e|e
  ·obtain ⟨p,q⟩:=h0 e
   apply Nat.dvd_gcd
   ·exact (Nat.dvd_add_left (db ob)).1 (p▸da oa)
   ·exact (Nat.dvd_add_left (da na)).1 (q▸db nb)
  ·obtain ⟨p,q⟩:=h1 e
   apply Nat.dvd_gcd
   ·exact (Nat.dvd_add_left (da oa)).1 (p▸db ob)
   ·exact (Nat.dvd_add_left (db nb)).1 (q▸da na)
end Go.Proofs.YtbkfbobdmojgnaaGreatDoor.Pl
namespace Go.Proofs.YtbkfbobdmojgnaaGreatDoor
open Go.RowKit Pl
def Away (A:Option Addr) (n g:Nat):Prop:=0<n→∀ ad,A=some ad→ad.block≠g
theorem Rd.away {w:World} {A:Option Addr} {n c:Nat} {xs:List Nat} (h:Rd w A n c xs) {g:Nat} (hg:w.heap.size≤g):Away A n g:=by
 intro hn ad hA
 obtain ⟨ad',hA',hl,_⟩:=h.2.2.2 hn
 rw [hA] at hA'
 injection hA' with e
 subst e
 omega
theorem Rd.only {w w' : World} {A:Option Addr} {n c g:Nat} {xs:List Nat} (h:Rd w A n c xs) (ha:Away A n g) (hg:w.grownBy w' (some g)):Rd w' A n c xs:=by
 refine ⟨h.1,h.2.1,h.2.2.1,fun hn=>?_⟩
 obtain ⟨ad,e,hl,hc⟩:=h.2.2.2 hn
 have hne:=ha hn ad e
 have:=hg.size
 exact ⟨ad,e,by omega,fun j x hx=>hg.cell (hc j x hx) (by rw [block_add];intro e2;injection e2 with e2;exact hne e2)⟩
theorem only_refl (w:World) (g:Nat):w.grownBy w (some g):=⟨rfl,rfl,rfl,Nat.le_refl _,fun _ _ _=>rfl⟩
theorem only_trans {w w' w'' : World} {g:Nat} (h:w.grownBy w' (some g)) (h' : w'.grownBy w'' (some g)):w.grownBy w'' (some g) :=
 ⟨h'.os.trans h.os,h'.tape.trans h.tape,h'.output.trans h.output,Nat.le_trans h.size h'.size,fun k hk hne=>(h'.block k (Nat.lt_of_lt_of_le hk h.size) hne).trans (h.block k hk hne)⟩
theorem only_set (w:World) (g i:Nat) (u:Value):w.grownBy (w.setCell ⟨g,i,none⟩ u) (some g) :=
 ⟨rfl,rfl,rfl,by simp [World.setCell],fun k _ hne=>Below.heap_setCell w _ u k (fun e=>hne (by rw [e]))⟩
def put (ys:List Nat) (o:Nat) (zs:List Nat):List Nat:=ys.take o++(zs++ys.drop (o+zs.length))
theorem put_nil (ys:List Nat) (o:Nat):put ys o []=ys:=by simp [put]
theorem put_length {ys:List Nat} {o:Nat} {zs:List Nat} (h:o+zs.length≤ys.length):(put ys o zs).length=ys.length:=by
 simp only [put,List.length_append,List.length_take,List.length_drop];omega
theorem put_get {ys:List Nat} {o k:Nat} {zs:List Nat} (hz:zs.length≤k) (h:o+k<ys.length):(put ys o zs)[o+k]?=ys[o+k]?:=by
 unfold put
 rw [List.getElem?_append_right (by simp;omega),List.getElem?_append_right (by simp;omega),List.getElem?_drop]
 congr 1
 simp only [List.length_take]
 omega
theorem put_set {ys:List Nat} {o k:Nat} {zs:List Nat} {z:Nat} (hz:zs.length=k) (h:o+k<ys.length):(put ys o zs).set (o+k) z=put ys o (zs ++ [z]):=by
 subst hz
 unfold put
 rw [List.set_append_right _ _ (by simp;omega),List.set_append_right _ _ (by simp;omega)]
 have e:o+zs.length-(ys.take o).length-zs.length=0:=by simp;omega
 rw [e,List.drop_eq_getElem_cons h]
 simp [Nat.add_assoc]
theorem mul_step {x m cv y:Nat} (hx:x<W64) (hm:m<W64) (hc:cv<W64) (hy:y<W64) :
 ∃ hi lo s1 c1 r c2:Nat,x*m/W64=hi∧x*m%W64=lo∧(lo+cv+0)%W64=s1∧(lo+cv+0)/W64=c1∧(y+s1+0)%W64=r∧(y+s1+0)/W64=c2 ∧
   hi+c1<W64∧hi+c1+c2<W64∧r<W64∧r+W64*(hi+c1+c2)=y+x*m+cv:=by
 refine ⟨_,_,_,_,_,_,rfl,rfl,rfl,rfl,rfl,rfl,?_⟩
 have h1:=Nat.div_add_mod (x*m) W64
 have hp:x*m≤18446744073709551615*18446744073709551615:=Nat.mul_le_mul (by have:=W64_eq;omega) (by have:=W64_eq;omega)
 generalize x*m=p at *
 simp only [W64_eq] at *
 omega
set_option maxHeartbeats 1000000 in
theorem addMultiple_any (g o n cS:Nat) (t:TypeId) (ys:List Nat) (A:Option Addr) (n' c:Nat) (xs:List Nat) (m:Nat) (w:World) (hb:Blk w g t ys) (hys:Dig W64 ys) (hwin:o+n'≤ys.length) (hn:n'≤n) (hcS:n≤cS)
 (hm63:cS≤9223372036854775807) (h:Rd w A n' c xs) (hd:Dig W64 xs) (ha:Away A n' g) (hm:m<W64) :
 Calls Tryz.prog 230 #[.slice (some ⟨g,o,none⟩) n cS,.slice A n' c,.int .u64 (m:Int)] w fun e w' =>
  Hid (∃ (zs:List Nat) (cy:Nat),e = .returned (.int .u64 (cy:Int))∧zs.length=n'∧Dig W64 zs∧cy<W64∧val W64 zs+W64^n'*cy=val W64 ((ys.drop o).take n')+m*val W64 xs∧Blk w' g t (put ys o zs)∧w.grownBy w' (some g)):=by
 have HX:=Lib.hid (And.intro h (And.intro hd (And.intro hys ha)))
 have HB:=Lib.hid hb
 have hnc:n'≤c:=h.cap
 have hcm:c≤9223372036854775807:=h.2.2.1
 clear h hd hys ha hb
 go_enter Tryz.func230,Tryz.ntmps230
 go_wp2
 go_loopw [7,14] (fun cy i wr => ∃ (k cv:Nat) (zs:List Nat),k≤n'∧i = .int .i64 (k:Int)∧cy = .int .u64 (cv:Int)∧cv<W64∧zs.length=k∧Dig W64 zs ∧
  val W64 zs+W64^k*cv=val W64 ((ys.drop o).take k)+m*val W64 (xs.take k)∧Blk wr g t (put ys o zs)∧w.grownBy wr (some g)) (fun _ i _=>n'-(intOf i).toNat)
 case atStart=>exact ⟨0,0,[],Nat.zero_le _,rfl,rfl,W64_pos,rfl,Dig.nil _,by simp [val],by rw [put_nil];exact HB.out,only_refl _ _⟩
 case round =>
  obtain ⟨k,cv,zs,hk,rfl,rfl,hcv,hzl,hzd,hval,hblk,hg⟩:=hrel
  by_cases hlt:k<n'
  ·obtain ⟨ad,x,hA,_,hx,hcx⟩:=(HX.out.1.only HX.out.2.2.2 hg).at_ (k:=k) hlt
   subst hA
   obtain ⟨y,hy⟩:∃ y,ys[o+k]?=some y:=⟨_,List.getElem?_eq_getElem (by omega)⟩
   have hcy:wr.cell? ⟨g,o+k,none⟩=some (.int .u64 (y:Int)):=hblk.cell (by rw [put_get (by omega) (by omega)];exact hy)
   have hfz:=hblk.frozen (o+k)
   obtain ⟨hi,lo,s1,c1,r,c2,e1,e2,e3,e4,e5,e6,b1,b2,b3,e7⟩:=mul_step (HX.out.2.1.at_ hx) hm hcv (HX.out.2.2.1.at_ hy)
   have hmul:=Lib.hid (fun w=>(Tryz.bits_Mul64 x m (HX.out.2.1.at_ hx) hm w).mono (fun e w' h=>(show e = .returned (.tuple #[.int .u64 (hi:Int),.int .u64 (lo:Int)])∧w=w' from ⟨by rw [h.1,← e1,← e2];rfl,h.2.symm⟩)))
   have ha1:=fun w=>run_add64' lo cv 0 (by omega) w
   have ha2:=fun w=>run_add64' y s1 0 (by omega) w
   rw [e3,e4] at ha1
   rw [e5,e6] at ha2
   simp only [Int.natCast_zero] at ha1 ha2
   have HE:=Lib.hid (And.intro hx (And.intro hy (And.intro hblk (And.intro e7 (And.intro hval (And.intro hzl hzd))))))
   have B1:(hi:Int)+c1≤18446744073709551615:=by have:=W64_eq;omega
   have B2:(hi:Int)+c1+c2≤18446744073709551615:=by have:=W64_eq;omega
   have HB3:=Lib.hid (And.intro b2 b3)
   clear hx hy hblk e1 e2 e3 e4 e5 e6 e7 hval hzl hzd b1 b2 b3 hcv
   go_wp2_with (go_at_call 241;refine (hmul.out _).mono ?_;rintro e w' ⟨rfl,rfl⟩)
   go_roundw
   case rel =>
    obtain ⟨hx,hy,hblk,e7,hval,hzl,hzd⟩:=HE.out
    refine ⟨k+1,hi+c1+c2,zs ++ [r],by omega,by go_num,by go_num,HB3.out.1,by simp [hzl],hzd.app (Dig.cons HB3.out.2 (Dig.nil _)),?_,?_,only_trans hg (only_set _ _ _ _)⟩
    ·obtain ⟨h1,ex⟩:=List.getElem?_eq_some_iff.1 hx
     have hyd:(ys.drop o)[k]?=some y:=by rw [List.getElem?_drop];exact hy
     obtain ⟨h2,ey⟩:=List.getElem?_eq_some_iff.1 hyd
     rw [val_snoc,val_take_succ _ _ _ h1,val_take_succ _ _ _ h2,ex,ey,hzl,Nat.pow_succ]
     generalize W64^k=P at *
     generalize W64=V at *
     grind
    ·rw [← put_set hzl (by omega)]
     exact hblk.set_ _ _
   case measure=>simp [intOf];omega
  ·obtain rfl:k=n':=by omega
   have HE:=Lib.hid (And.intro hblk (And.intro hval (And.intro hzl (And.intro hzd hcv))))
   clear hblk hval hzl hzd hcv
   go_wp2
   go_ret
   refine ⟨zs,cv,rfl,HE.out.2.2.1,HE.out.2.2.2.1,HE.out.2.2.2.2,?_,HE.out.1,hg⟩
   have:=HE.out.2.1
   rwa [List.take_of_length_le (l:=xs) (by rw [HX.out.1.len];omega)] at this
theorem mul_take {x m cv y:Nat} (hx:x<W64) (hm:m<W64) (hc:cv<W64) (hy:y<W64) :
 ∃ hi lo s1 c1 r c2:Nat,x*m/W64=hi∧x*m%W64=lo∧(lo+cv+0)%W64=s1∧(lo+cv+0)/W64=c1∧(y+W64-s1-0)%W64=r∧(if y<s1+0 then 1 else 0)=c2 ∧
   hi+c1<W64∧hi+c1+c2<W64∧r<W64∧r+x*m+cv=y+W64*(hi+c1+c2):=by
 refine ⟨_,_,_,_,_,_,rfl,rfl,rfl,rfl,rfl,rfl,?_⟩
 have h1:=Nat.div_add_mod (x*m) W64
 have hp:x*m≤18446744073709551615*18446744073709551615:=Nat.mul_le_mul (by have:=W64_eq;omega) (by have:=W64_eq;omega)
 generalize x*m=p at *
 have hA:=Nat.div_add_mod (p%W64+cv+0) W64
 have hA2:(p%W64+cv+0)%W64<W64:=Nat.mod_lt _ W64_pos
 generalize (p%W64+cv+0)%W64=s1 at *
 generalize (p%W64+cv+0)/W64=c1 at *
 rcases Nat.lt_or_ge y s1 with hlt|hlt
 ·rw [if_pos (by omega)]
  simp only [W64_eq] at *
  omega
 ·rw [if_neg (by omega)]
  simp only [W64_eq] at *
  omega
set_option maxHeartbeats 1000000 in
theorem takeMultiple_any (g o n cS:Nat) (t:TypeId) (ys:List Nat) (A:Option Addr) (n' c:Nat) (xs:List Nat) (m:Nat) (w:World) (hb:Blk w g t ys) (hys:Dig W64 ys) (hwin:o+n'≤ys.length) (hn:n'≤n) (hcS:n≤cS)
 (hm63:cS≤9223372036854775807) (h:Rd w A n' c xs) (hd:Dig W64 xs) (ha:Away A n' g) (hm:m<W64) :
 Calls Tryz.prog 272 #[.slice (some ⟨g,o,none⟩) n cS,.slice A n' c,.int .u64 (m:Int)] w fun e w' =>
  Hid (∃ (zs:List Nat) (cy:Nat),e = .returned (.int .u64 (cy:Int))∧zs.length=n'∧Dig W64 zs∧cy<W64∧val W64 zs+m*val W64 xs=val W64 ((ys.drop o).take n')+W64^n'*cy∧Blk w' g t (put ys o zs)∧w.grownBy w' (some g)):=by
 have HX:=Lib.hid (And.intro h (And.intro hd (And.intro hys ha)))
 have HB:=Lib.hid hb
 have hnc:n'≤c:=h.cap
 have hcm:c≤9223372036854775807:=h.2.2.1
 clear h hd hys ha hb
 go_enter Tryz.func272,Tryz.ntmps272
 go_wp2
 go_loopw [7,14] (fun cy i wr => ∃ (k cv:Nat) (zs:List Nat),k≤n'∧i = .int .i64 (k:Int)∧cy = .int .u64 (cv:Int)∧cv<W64∧zs.length=k∧Dig W64 zs ∧
  val W64 zs+m*val W64 (xs.take k)=val W64 ((ys.drop o).take k)+W64^k*cv∧Blk wr g t (put ys o zs)∧w.grownBy wr (some g)) (fun _ i _=>n'-(intOf i).toNat)
 case atStart=>exact ⟨0,0,[],Nat.zero_le _,rfl,rfl,W64_pos,rfl,Dig.nil _,by simp [val],by rw [put_nil];exact HB.out,only_refl _ _⟩
 case round =>
  obtain ⟨k,cv,zs,hk,rfl,rfl,hcv,hzl,hzd,hval,hblk,hg⟩:=hrel
  by_cases hlt:k<n'
  ·obtain ⟨ad,x,hA,_,hx,hcx⟩:=(HX.out.1.only HX.out.2.2.2 hg).at_ (k:=k) hlt
   subst hA
   obtain ⟨y,hy⟩:∃ y,ys[o+k]?=some y:=⟨_,List.getElem?_eq_getElem (by omega)⟩
   have hcy:wr.cell? ⟨g,o+k,none⟩=some (.int .u64 (y:Int)):=hblk.cell (by rw [put_get (by omega) (by omega)];exact hy)
   have hfz:=hblk.frozen (o+k)
   obtain ⟨hi,lo,s1,c1,r,c2,e1,e2,e3,e4,e5,e6,b1,b2,b3,e7⟩:=mul_take (HX.out.2.1.at_ hx) hm hcv (HX.out.2.2.1.at_ hy)
   have hmul:=Lib.hid (fun w=>(Tryz.bits_Mul64 x m (HX.out.2.1.at_ hx) hm w).mono (fun e w' h=>(show e = .returned (.tuple #[.int .u64 (hi:Int),.int .u64 (lo:Int)])∧w=w' from ⟨by rw [h.1,← e1,← e2];rfl,h.2.symm⟩)))
   have ha1:=fun w=>run_add64' lo cv 0 (by omega) w
   have ha2:=fun w=>run_sub64' y s1 0 (by omega) w
   rw [e3,e4] at ha1
   rw [e5,e6] at ha2
   simp only [Int.natCast_zero] at ha1 ha2
   have HE:=Lib.hid (And.intro hx (And.intro hy (And.intro hblk (And.intro e7 (And.intro hval (And.intro hzl hzd))))))
   have B1:(hi:Int)+c1≤18446744073709551615:=by have:=W64_eq;omega
   have B2:(hi:Int)+c1+c2≤18446744073709551615:=by have:=W64_eq;omega
   have HB3:=Lib.hid (And.intro b2 b3)
   clear hx hy hblk e1 e2 e3 e4 e5 e6 e7 hval hzl hzd b1 b2 b3 hcv
   go_wp2_with (go_at_call 241;refine (hmul.out _).mono ?_;rintro e w' ⟨rfl,rfl⟩)
   go_roundw
   case rel =>
    obtain ⟨hx,hy,hblk,e7,hval,hzl,hzd⟩:=HE.out
    refine ⟨k+1,hi+c1+c2,zs ++ [r],by omega,by go_num,by go_num,HB3.out.1,by simp [hzl],hzd.app (Dig.cons HB3.out.2 (Dig.nil _)),?_,?_,only_trans hg (only_set _ _ _ _)⟩
    ·obtain ⟨h1,ex⟩:=List.getElem?_eq_some_iff.1 hx
     have hyd:(ys.drop o)[k]?=some y:=by rw [List.getElem?_drop];exact hy
     obtain ⟨h2,ey⟩:=List.getElem?_eq_some_iff.1 hyd
     rw [val_snoc,val_take_succ _ _ _ h1,val_take_succ _ _ _ h2,ex,ey,hzl,Nat.pow_succ]
     generalize W64^k=P at *
     generalize W64=V at *
     grind
    ·rw [← put_set hzl (by omega)]
     exact hblk.set_ _ _
   case measure=>simp [intOf];omega
  ·obtain rfl:k=n':=by omega
   have HE:=Lib.hid (And.intro hblk (And.intro hval (And.intro hzl (And.intro hzd hcv))))
   clear hblk hval hzl hzd hcv
   go_wp2
   go_ret
   refine ⟨zs,cv,rfl,HE.out.2.2.1,HE.out.2.2.2.1,HE.out.2.2.2.2,?_,HE.out.1,hg⟩
   have:=HE.out.2.1
   rwa [List.take_of_length_le (l:=xs) (by rw [HX.out.1.len];omega)] at this
def MulInv (xs ys zs:List Nat) (k:Nat):Prop :=
 Dig W64 zs∧zs.length=xs.length+ys.length∧val W64 (zs.take (k+xs.length))=val W64 xs*val W64 (ys.take k)
theorem MulInv.start (xs ys:List Nat):MulInv xs ys (List.replicate (xs.length+ys.length) 0) 0:=by
 refine ⟨Dig.replicate W64_pos _,by simp,?_⟩
 rw [List.take_replicate,val_zeros]
 simp [val]
theorem put_take {ys zs:List Nat} {o:Nat} (h:o+zs.length≤ys.length):val W64 ((put ys o zs).take (o+zs.length))=val W64 (ys.take o)+W64^o*val W64 zs:=by
 have e:(put ys o zs).take (o+zs.length)=ys.take o++zs:=by
  unfold put
  rw [← List.append_assoc,List.take_append_of_le_length (by simp;omega),List.take_of_length_le (by simp;omega)]
 rw [e,val_append,List.length_take,Nat.min_eq_left (by omega)]
theorem put_dig {ys zs:List Nat} {o:Nat} (hy:Dig W64 ys) (hz:Dig W64 zs):Dig W64 (put ys o zs):=(hy.take _).app (hz.app (hy.drop _))
theorem take_window (zs:List Nat) (o n:Nat) (h:o+n≤zs.length):val W64 (zs.take (o+n))=val W64 (zs.take o)+W64^o*val W64 ((zs.drop o).take n):=by
 rw [List.take_add,val_append,List.length_take,Nat.min_eq_left (by omega)]
theorem MulInv.step {xs ys zs ws:List Nat} {k m cy:Nat} (h:MulInv xs ys zs k) (hm:ys[k]?=some m) (hw:ws.length=xs.length) (hwd:Dig W64 ws) (hcy:cy<W64)
 (hv:val W64 ws+W64^xs.length*cy=val W64 ((zs.drop k).take xs.length)+m*val W64 xs):MulInv xs ys ((put zs k ws).set (k+xs.length) cy) (k+1):=by
 obtain ⟨h1,h2,h3⟩:=h
 obtain ⟨hk,em⟩:=List.getElem?_eq_some_iff.1 hm
 have hl:(put zs k ws).length=zs.length:=put_length (by omega)
 refine ⟨(put_dig h1 hwd).set hcy,by rw [List.length_set,hl,h2],?_⟩
 rw [show k+1+xs.length=k+xs.length+1 from by omega,val_take_succ _ _ _ (by rw [List.length_set,hl];omega),List.take_set_of_le (Nat.le_refl _),List.getElem_set_self,
  show k+xs.length=k+ws.length from by omega,put_take (by omega),val_take_succ _ _ _ hk,em]
 rw [take_window zs k _ (by omega)] at h3
 rw [hw,Nat.pow_add]
 generalize W64^k=P at *
 generalize W64^xs.length=R at *
 grind
theorem MulInv.finish {xs ys zs:List Nat} (h:MulInv xs ys zs ys.length):val W64 zs=val W64 xs*val W64 ys:=by
 obtain ⟨_,h2,h3⟩:=h
 rwa [List.take_of_length_le (by omega),List.take_of_length_le (Nat.le_refl _)] at h3
set_option maxHeartbeats 1000000 in
theorem times_any (A:Option Addr) (n c:Nat) (xs:List Nat) (A' : Option Addr) (n' c' : Nat) (ys:List Nat) (w:World) (h:Rd w A n c xs) (h' : Rd w A' n' c' ys)
 (hd:Dig W64 xs) (hd' : Dig W64 ys) (hn:n≤2199023255552) (hn' : n'≤2199023255552) :
 Calls Tryz.prog 182 #[.slice A n c,.slice A' n' c'] w (GivesNt w (val W64 xs*val W64 ys)):=by
 have HX:=Lib.hid (And.intro h hd)
 have HY:=Lib.hid (And.intro h' hd')
 have hnc:n≤c:=h.cap
 have hcm:c≤9223372036854775807:=h.2.2.1
 have hnc' : n'≤c':=h'.cap
 have hcm' : c'≤9223372036854775807:=h'.2.2.1
 obtain ⟨i0,hi,hz0,hz1,hz2⟩:=info_parts info_word
 have HI:=Lib.hid (And.intro hi (And.intro hz0 (And.intro hz1 hz2)))
 clear h h' hd hd' hi hz0 hz1 hz2
 go_enter Tryz.func182,Tryz.ntmps182
 go_wp2_with (at_make;refine wpList_make_full _ rfl _ _ 160 rfl w.heap.size 193 i0 (.int .u64 0) 1 Tryz.underlying160 HI.out.1 HI.out.2.1 HI.out.2.2.1 _ _ _ _ (n+n') rfl rfl ?b0 ?b1 ?b2 ?b3 (Nat.le_refl _) ?_)
 case b0=>omega
 case b1=>omega
 case b2=>rw [HI.out.2.2.2];omega
 case b3=>show n+n'≤9223372036854775807;omega
 intro w1 hown hg1
 have hb1:Below w.heap.size w w1:=(Below.refl _ _).grown hg1 (Nat.le_refl _) (fun k h=>by cases h)
 have hblk:=blk_of_made hown
 have e0:MulInv xs ys (List.replicate (n+n') 0) 0:=by
  have:=MulInv.start xs ys
  rwa [HX.out.1.len,HY.out.1.len] at this
 have HB:=Lib.hid hblk
 have H0:=Lib.hid e0
 clear hown hg1 hblk e0
 obtain ⟨g,hg⟩:∃ g,g=w.heap.size:=⟨_,rfl⟩
 rw [← hg] at HB ⊢
 have HG:=Lib.hid hg
 clear hg
 go_wp2
 go_loopw [16] (fun i wr => ∃ (k:Nat) (zs:List Nat),k≤n'∧i = .int .i64 (k:Int)∧MulInv xs ys zs k∧Blk wr g 193 zs∧Below w.heap.size w wr) (fun i _=>n'-(intOf i).toNat)
 case atStart=>exact ⟨0,_,Nat.zero_le _,rfl,H0.out,HB.out,hb1⟩
 case round =>
  obtain ⟨k,zs,hk,rfl,hinv,hblk,hb⟩:=hrel
  have hzn:zs.length=n+n':=by rw [hinv.2.1,HX.out.1.len,HY.out.1.len]
  have HV:=Lib.hid hinv
  by_cases hlt:k<n'
  ·obtain ⟨ad',y,hA',_,hy,hcy⟩:=(HY.out.1.below hb).at_ (k:=k) hlt
   subst hA'
   have hncap:¬ n+n'=k:=by omega
   have hadd:=Lib.hid (addMultiple_any g k n (n+n'-k) 193 zs A n c xs y wr hblk hinv.1 (by omega) (Nat.le_refl _) (by omega) (by omega) (HX.out.1.below hb) HX.out.2 (HX.out.1.away (by rw [HG.out];exact Nat.le_refl _)) (HY.out.2.at_ hy))
   have HE:=Lib.hid (And.intro hy hzn)
   clear hy hblk hinv hzn
   go_wp2_with fail
   refine (hadd.out).mono ?_
   rintro e w2 ⟨ws,cy,rfl,hwl,hwd,hcyb,hwv,hblk2,hg2⟩
   have hb2:Below w.heap.size w w2:=hb.grown hg2 hb.size (fun k h=>by injection h with h;rw [← h,HG.out];exact Nat.le_refl _)
   have hzn:=HE.out.2
   obtain ⟨z,hcz⟩:∃ z:Int,w2.cell? ⟨g,k+n,none⟩=some (.int .u64 z):=⟨_,hblk2.cell_get (by rw [put_length (by omega)];omega)⟩
   have hfz:=hblk2.frozen (k+n)
   have HE2:=Lib.hid (And.intro hwl (And.intro hwd (And.intro hcyb (And.intro hwv hblk2))))
   clear hwl hwd hcyb hwv hblk2 hzn hcy hadd hb
   go_wp2
   go_roundw
   case rel =>
    obtain ⟨hwl,hwd,hcyb,hwv,hblk2⟩:=HE2.out
    have hs:=HV.out.step HE.out.1 (by rw [hwl,HX.out.1.len]) hwd hcyb (by rw [HX.out.1.len];exact hwv)
    rw [HX.out.1.len] at hs
    exact ⟨k+1,(put zs k ws).set (k+n) cy,by omega,by go_num,hs,hblk2.set_ _ _,hb2.setCell (by rw [HG.out];exact Nat.le_refl _) _⟩
   case measure=>simp [intOf];omega
  ·obtain rfl:k=n':=by omega
   have hrd:=hblk.rd (by rw [hzn];show n+k≤9223372036854775807;omega)
   rw [hzn] at hrd
   have hfin:=hinv
   rw [← HY.out.1.len] at hfin
   have HF:=Lib.hid (And.intro hinv.1 (And.intro hfin.finish hrd))
   clear hinv hblk hzn hrd hfin hlt
   go_wp2_with (go_at_call 203;refine (trimmed_any _ _ _ zs _ HF.out.2.2 HF.out.1).mono ?_;rintro e w' ⟨⟨v,rfl,hv⟩,rfl⟩)
   go_ret
   exact ⟨v,rfl,by rw [← HF.out.2.1];exact hv,hb⟩
end Go.Proofs.YtbkfbobdmojgnaaGreatDoor
namespace Go.Proofs.YtbkfbobdmojgnaaGreatDoor.Pl
theorem guess_le {u v u3 v2 ul vl M t B:Nat} (hu:u=u3*M+ul) (hv:v=v2*M+vl) (hvl:vl<M) (ht:t*v2≤u3) (htB:t≤B) (hv2:B≤v2):t≤u/v+1:=by
 have hM:0<M:=by omega
 have hBM:B*M≤v2*M:=Nat.mul_le_mul_right _ hv2
 rcases Nat.eq_zero_or_pos t with rfl|ht0
 ·exact Nat.zero_le _
 have hB0:0<B:=by omega
 have hvp:0<v:=by
  have:0<v2*M:=Nat.mul_pos (by omega) hM
  omega
 have h1:(t-1)*v≤u:=by
  have e:t*v=t*v2*M+t*vl:=by rw [hv];grind
  have e1:t*v2*M≤u3*M:=Nat.mul_le_mul_right _ ht
  have e2:t*vl≤B*M:=Nat.mul_le_mul htB (Nat.le_of_lt hvl)
  have e3:(t-1)*v=t*v-v:=by rw [Nat.sub_mul,Nat.one_mul]
  omega
 have:=(Nat.le_div_iff_mul_le hvp).2 h1
 omega
theorem guess_ge {u v u2 v1 ul vl M:Nat} (hu:u=u2*M+ul) (hv:v=v1*M+vl) (hul:ul<M) (hv1:0<v1):u/v≤u2/v1:=by
 have hM:0<M:=by omega
 have hv0:0<v:=by
  have:0<v1*M:=Nat.mul_pos hv1 hM
  omega
 rw [Nat.le_div_iff_mul_le hv1]
 have h:=Nat.div_mul_le_self u v
 have h1:u/v*v=u/v*v1*M+u/v*vl:=by rw [hv];grind
 have h2:u/v*v1*M<(u2+1)*M:=by rw [Nat.add_mul,Nat.one_mul];omega
 have:=Nat.lt_of_mul_lt_mul_right h2
 omega
theorem guess_top {u v v1 ul vl M B:Nat} (hu:v1*B*M≤u) (hv:v=v1*M+vl) (hvl:vl<M) (hb:B≤2*v1) (_hul:0≤ul):B-1≤u/v+1:=by
 have hM:0<M:=by omega
 rcases Nat.lt_or_ge B 2 with h|h
 ·exact Nat.le_trans (by omega:B-1≤1) (Nat.le_add_left 1 _)
 have hv0:0<v:=by
  have:0<v1*M:=Nat.mul_pos (by omega) hM
  omega
 have h1:(B-2)*v≤u:=by
  obtain ⟨c,rfl⟩:=Nat.exists_eq_add_of_le h
  have e : (2 + c - 2) * v = c * v1 * M + c * vl := by rw [hv];have:2+c-2=c:=by omega
                                                       rw [this];grind
  have e2:c*vl≤2*v1*M:=Nat.mul_le_mul (by omega) (Nat.le_of_lt hvl)
  have e3:v1*(2+c)*M=2*v1*M+c*v1*M:=by grind
  omega
 have:=(Nat.le_div_iff_mul_le hv0).2 h1
 omega
theorem take_ok {u v ul T h t x bor:Nat} (hu:u=ul+T*h) (hx:x+t*v=ul+T*bor) (hxT:x<T) (hvT:v≤T) (h0:u/v≤t) (h1:t≤u/v+1) (hv:0<v) :
 (bor≤h→t=u/v∧x=u%v∧bor=h)∧(h<bor→t=u/v+1∧u%v+T=x+v):=by
 have hdm:=Nat.div_add_mod u v
 have hm:=Nat.mod_lt u hv
 generalize u/v=q at *
 generalize u%v=r at *
 have hq:v*q=q*v:=Nat.mul_comm _ _
 constructor
 ·intro hb
  have e:t=q:=by
   rcases Nat.lt_or_ge q t with hlt|hge
   ·exfalso
    have:t=q+1:=by omega
    subst this
    have e1:(q+1)*v=q*v+v:=by grind
    have e2:T*bor≤T*h:=Nat.mul_le_mul_left _ hb
    omega
   ·omega
  subst e
  have e2:T*bor≤T*h:=Nat.mul_le_mul_left _ hb
  rcases Nat.lt_or_ge bor h with hlt|hge
  ·exfalso
   have e3:T*(bor+1)≤T*h:=Nat.mul_le_mul_left _ hlt
   rw [Nat.mul_add,Nat.mul_one] at e3
   omega
  ·have:bor=h:=by omega
   subst this
   exact ⟨rfl,by omega,rfl⟩
 ·intro hb
  have e3:T*(h+1)≤T*bor:=Nat.mul_le_mul_left _ hb
  rw [Nat.mul_add,Nat.mul_one] at e3
  have e:t=q+1:=by
   rcases Nat.lt_or_ge q t with hlt|hge
   ·omega
   ·exfalso
    have:t=q:=by omega
    subst this
    omega
  subst e
  have e1:(q+1)*v=q*v+v:=by grind
  have:bor=h+1:=by
   rcases Nat.lt_or_ge (h+1) bor with hlt|hge
   ·exfalso
    have e4:T*(h+2)≤T*bor:=Nat.mul_le_mul_left _ hlt
    rw [Nat.mul_add] at e4
    omega
   ·omega
  subst this
  rw [Nat.mul_add,Nat.mul_one] at hx
  exact ⟨rfl,by omega⟩
structure Half (U u1 Y v1 v0 Q:Nat):Prop where
 hY:Y=v1*4294967296+v0
 hv0:v0<4294967296
 hv1:2147483648≤v1
 hv1' : v1<4294967296
 hU:U<Y
 hu1:u1<4294967296
 hQ:Q=(U*4294967296+u1)/Y
section
variable {U u1 Y v1 v0 Q:Nat}
theorem Half.q_lt (h:Half U u1 Y v1 v0 Q):Q<4294967296:=by
 have h1:=h.hU
 have h2:=h.hu1
 rw [h.hQ,Nat.div_lt_iff_lt_mul (by omega)]
 omega
theorem Half.le_guess (h:Half U u1 Y v1 v0 Q):Q≤U/v1:=by
 have h1:=h.hv1
 rw [h.hQ]
 exact guess_ge rfl h.hY h.hu1 (by omega)
theorem Half.guess_le (h:Half U u1 Y v1 v0 Q):U/v1≤4294967297:=by
 have h1:=h.hv1
 have h2:=h.hU
 have h3:=h.hv0
 have h4:=h.hY
 have:U/v1<4294967298:=by
  rw [Nat.div_lt_iff_lt_mul (by omega)]
  omega
 omega
theorem Half.le_iff (h:Half U u1 Y v1 v0 Q) {a b:Nat} (hab:a*v1+b=U):a≤Q↔a*v0≤4294967296*b+u1:=by
 have h1:=h.hv1
 have h2:=h.hY
 rw [h.hQ,Nat.le_div_iff_mul_le (by omega)]
 have e:a*Y=a*v1*4294967296+a*v0:=by rw [h2];grind
 rw [e]
 omega
theorem Half.done (h:Half U u1 Y v1 v0 Q) {a b:Nat} (hab:a*v1+b=U) (hq:Q≤a) (ha:a≤4294967296) (hb:4294967296≤b):a=Q:=by
 have h1:=h.hv0
 have:a*v0≤4294967296*4294967296:=Nat.mul_le_mul ha (by omega)
 have:=(h.le_iff hab).2 (by omega)
 omega
theorem Half.rest (h:Half U u1 Y v1 v0 Q):∃ R,R<Y∧U*4294967296+u1=Q*Y+R:=by
 have h1:=h.hv1
 have h2:=h.hY
 refine ⟨(U*4294967296+u1)%Y,Nat.mod_lt _ (by omega),?_⟩
 rw [h.hQ,Nat.mul_comm _ Y,Nat.div_add_mod]
end
theorem halves {N y s U u1 u0 Y Q R Q0 R0:Nat} (hN:N*2^s=(U*4294967296+u1)*4294967296+u0) (hY:Y=y*2^s) (h1:U*4294967296+u1=Q*Y+R) (h0:R*4294967296+u0=Q0*Y+R0) (hR:R0<Y) :
 Q*4294967296+Q0=N/y∧R0/2^s=N%y:=by
 have hp:0<2^s:=Nat.pow_pos (by omega)
 have e:N*2^s=(Q*4294967296+Q0)*Y+R0:=by rw [hN,h1];grind
 have e1:N*2^s/Y=Q*4294967296+Q0:=by
  rw [e,Nat.add_comm,Nat.add_mul_div_right _ _ (by omega),Nat.div_eq_of_lt hR]
  omega
 have e2:N*2^s%Y=R0:=by
  rw [e,Nat.mul_comm _ Y,Nat.mul_add_mod,Nat.mod_eq_of_lt hR]
 constructor
 ·rw [← e1,hY,Nat.mul_div_mul_right _ _ hp]
 ·rw [← e2,hY,Nat.mul_mod_mul_right,Nat.mul_div_cancel _ hp]
end Go.Proofs.YtbkfbobdmojgnaaGreatDoor.Pl
namespace Go.Proofs.YtbkfbobdmojgnaaGreatDoor
open Go.RowKit Pl
theorem bits_or_nat (a b:Nat) (ha:a<18446744073709551616) (hb:b<18446744073709551616):bits .or .u64 (a:Int) (b:Int)=((a ||| b:Nat):Int):=by
 have hx:a ||| b<2^64:=Nat.or_lt_two_pow (by omega) (by omega)
 have h1:(BitVec.ofInt 64 (a:Int)).toNat=a:=by
  rw [BitVec.ofInt_natCast,BitVec.toNat_ofNat];exact Nat.mod_eq_of_lt (by omega)
 have h2:(BitVec.ofInt 64 (b:Int)).toNat=b:=by
  rw [BitVec.ofInt_natCast,BitVec.toNat_ofNat];exact Nat.mod_eq_of_lt (by omega)
 show IntKind.u64.wrap ((BitVec.ofInt 64 (a:Int) ||| BitVec.ofInt 64 (b:Int)).toNat:Int)=_
 rw [BitVec.toNat_or,h1,h2,IntKind.wrap_u64]
 omega
theorem bits_and_nat (a b:Nat) (ha:a<18446744073709551616) (hb:b<18446744073709551616):bits .and .u64 (a:Int) (b:Int)=((a &&& b:Nat):Int):=by
 have hx:a &&& b<2^64:=Nat.and_lt_two_pow _ (by omega)
 have h1:(BitVec.ofInt 64 (a:Int)).toNat=a:=by
  rw [BitVec.ofInt_natCast,BitVec.toNat_ofNat];exact Nat.mod_eq_of_lt (by omega)
 have h2:(BitVec.ofInt 64 (b:Int)).toNat=b:=by
  rw [BitVec.ofInt_natCast,BitVec.toNat_ofNat];exact Nat.mod_eq_of_lt (by omega)
 show IntKind.u64.wrap ((BitVec.ofInt 64 (a:Int) &&& BitVec.ofInt 64 (b:Int)).toNat:Int)=_
 rw [BitVec.toNat_and,h1,h2,IntKind.wrap_u64]
 omega
theorem and_half (a:Nat) (ha:a<18446744073709551616):bits .and .u64 (a:Int) 4294967295=((a%4294967296:Nat):Int):=by
 have:=bits_and_nat a 4294967295 ha (by omega)
 rw [show ((4294967295:Nat):Int)=4294967295 from rfl] at this
 rw [this,show (4294967295:Nat)=2^32-1 from rfl,Nat.and_two_pow_sub_one_eq_mod]
theorem or_shift (a b s:Nat) (hb:b<2^s) (h:a*2^s+b<18446744073709551616):bits .or .u64 ((a*2^s:Nat):Int) (b:Int)=((a*2^s+b:Nat):Int):=by
 rw [bits_or_nat _ _ (by omega) (by omega),Nat.mul_comm,Nat.two_pow_add_eq_or_of_lt hb]
theorem wrap_nat (a:Nat) (ha:a<18446744073709551616):IntKind.u64.wrap (a:Int)=(a:Int):=by rw [IntKind.wrap_u64];omega
theorem wrap_mod (a:Nat):IntKind.u64.wrap (a:Int)=((a%18446744073709551616:Nat):Int):=by rw [IntKind.wrap_u64];omega
end Go.Proofs.YtbkfbobdmojgnaaGreatDoor
