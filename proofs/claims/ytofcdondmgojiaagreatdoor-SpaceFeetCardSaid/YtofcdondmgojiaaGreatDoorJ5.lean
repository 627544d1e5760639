/- Parts of the proof, joined. -/
import Derived.Test.YtofcdondmgojiaaGreatDoorShelf
import Derived.Lib.Walk
import Derived.Lib.ItoaMem
import Derived.WalkKit
import Derived.BigCall
import Derived.BigGuard
import Derived.Lib.Hide
import Derived.Test.YtofcdondmgojiaaGreatDoorJ0
import Derived.Laws.Bits64
import Derived.Laws.Shifts
import Derived.WalkSpells
import Derived.BigQuiet
import Derived.Deep.QuietTactic
import Derived.Lib.ItoaNum
set_option linter.unusedSimpArgs false
set_option linter.unusedVariables false
namespace Go.Proofs
open Go.Shelf
def BldRen:Shelf.Ren:=⟨fun|166=>181|240=>221|276=>250|n=>n,fun|0=>0|3=>3|4=>4|5=>5|9=>9|20=>20|37=>217|70=>216|72=>219|75=>170|80=>223|164=>279|n=>n,fun|n=>n⟩
theorem BldLays:Go.Proofs.Lays.n166 Tryz.prog BldRen := {
 mixed:=by kernel_rfl
 f166:=Tryz.func181.trans (congrArg some (by kernel_rfl))
 f240:=Tryz.func221.trans (congrArg some (by kernel_rfl))
 f276:=Tryz.func250.trans (congrArg some (by kernel_rfl))
 t0:=Tryz.underlying0
 a0:=Tryz.isAgg0
 z0:=Tryz.sizeOf0
 v0:=Tryz.zeroValue0
 t3:=Tryz.underlying3
 a3:=Tryz.isAgg3
 z3:=Tryz.sizeOf3
 v3:=Tryz.zeroValue3
 t4:=Tryz.underlying4
 a4:=Tryz.isAgg4
 z4:=Tryz.sizeOf4
 v4:=Tryz.zeroValue4
 t9:=Tryz.underlying9
 a9:=Tryz.isAgg9
 z9:=Tryz.sizeOf9
 v9:=Tryz.zeroValue9
 t20:=Tryz.underlying20
 a20:=Tryz.isAgg20
 z20:=Tryz.sizeOf20
 v20:=Tryz.zeroValue20
 t37:=Tryz.underlying217
 a37:=Tryz.isAgg217
 z37:=Tryz.sizeOf217
 v37:=Tryz.zeroValue217
 t70:=Tryz.underlying216
 a70:=Tryz.isAgg216
 z70:=Tryz.sizeOf216
 v70:=Tryz.zeroValue216
 t72:=Tryz.underlying219
 a72:=Tryz.isAgg219
 z72:=Tryz.sizeOf219
 v72:=Tryz.zeroValue219
 t75:=Tryz.underlying170
 a75:=Tryz.isAgg170
 z75:=Tryz.sizeOf170
 v75:=Tryz.zeroValue170
 t164:=Tryz.underlying279
 a164:=Tryz.isAgg279
 z164:=Tryz.sizeOf279
 v164:=Tryz.zeroValue279
}
theorem BldExtra:Builder.Extra Tryz.prog BldRen := {
 sizeBuilder:=by kernel_rfl
 liesBuilder:=by kernel_rfl
 t5:=Tryz.underlying5
 a5:=Tryz.isAgg5
 z5:=Tryz.sizeOf5
 v5:=Tryz.zeroValue5
 infoByte:=by kernel_rfl
 cellsByte:=by kernel_rfl
 sizeByte:=by kernel_rfl
 neB5:=by decide
}
open Go.RowKit in
theorem write_string (B b:Nat) (bs:List Value) (s:ByteArray) (w:World) (h:Lib.IsBuilder 219 5 B b bs w) (hl:bs.length+s.size≤140737488355328) (hB:B≤w.heap.size) :
 Calls Tryz.prog 181 #[.pointer (some ⟨b,0,none⟩),.string s] w fun e w'=>e = .returned (.tuple #[.int .i64 s.size,.nilIface])∧Lib.BuilderAt 219 5 B b (.pointer (some ⟨b,0,none⟩)) (bs++Lib.strCells s) w'∧Below B w w' :=
 Any.Builder_WriteString BldLays BldExtra B b bs s w h hl hB
end Go.Proofs
namespace Go.Proofs.YtofcdondmgojiaaGreatDoor
open Go.RowKit Go.Sort Go.Lib
def Laid (w:World):Prop:=TabIs Tryz.prog w "internal/strconv.uint64pow10" .u64 pow10Tab
theorem Laid.below {w w' : World} (h:Laid w) (hb:Below w.heap.size w w'):Laid w':=by
 unfold Laid TabIs World.var? at *
 cases hg:Tryz.prog.globalNamed "internal/strconv.uint64pow10" with
 | none=>simp [hg] at h
 | some g =>
   simp only [hg,Option.bind_some] at h ⊢
   have hlt:g<w.heap.size:=by
    rcases Nat.lt_or_ge g w.heap.size with h'|h'
    ·exact h'
    ·rw [Array.getElem?_eq_none h'] at h;simp at h
   rw [hb.block g hlt]
   exact h
theorem below_grow (w:World) (os:Array Obj):Below w.heap.size w (grow w os) :=
 ⟨rfl,rfl,rfl,by simp [grow],fun k hk=>by simp only [grow];rw [Array.getElem?_append_left hk]⟩
theorem below_drewN (w:World) (k:Nat):Below w.heap.size w (w.drewN k):=⟨rfl,rfl,rfl,Nat.le_refl _,fun _ _=>rfl⟩
theorem fin_zero (w:World) (o:Obj) (dk:Array UInt8) (k:Nat):∃ os,(putRow (fun (b:UInt8)=>Value.int .u8 (b.toNat:Int)) (w.alloc o) w.heap.size 0 dk).drewN k=grow (w.drewN k) os:=by
 rw [alloc_eq_grow]
 obtain ⟨os',_,e⟩:=putRow_grow_new (fun (b:UInt8)=>Value.int .u8 (b.toNat:Int)) w #[o] w.heap.size 0 dk (Nat.le_refl _)
 exact ⟨os',by rw [e];rfl⟩
theorem holds_zero0 (w:World) (T:TypeId) (nd:Nat) (hs:nd≤24):Holds (fun (b:UInt8)=>Value.int .u8 (b.toNat:Int)) (w.alloc (.cells zeros24 T)) w.heap.size 0 (Array.replicate nd (0:UInt8)):=fun j hj=>by
 have hj' : j<nd:=by simpa using hj
 refine ⟨?_,World.frozen?_alloc_new _ _ _ _⟩
 rw [World.cell?_alloc_new,zeros24_at _ (by omega),getElem!_pos _ j hj]
 simp
set_option maxHeartbeats 6400000 in
set_option maxRecDepth 100000 in
theorem formatUint_inner (u:Nat) (hu64:u<18446744073709551616) (w:World) (htab:Laid w) :
 Calls Tryz.prog 264 #[.int .u64 (u:Int),.int .i64 10] w fun e w'=>e = .returned (.string ⟨(decDigits u).toArray⟩)∧Below w.heap.size w w':=by
 by_cases hs:u<100
 ·go_enter Tryz.func264,Tryz.ntmps264
  go_wp2_with (go_at_call 244;refine (Tryz.internal_strconv_small u hs _).mono ?_;rintro e w' ⟨rfl,rfl⟩)
  go_ret
  exact ⟨rfl,Below.refl _ _⟩
 ·have hu1:1≤u:=by omega
  have hnd20:nDigits u≤20:=by have:=numDigits_eq u hu1 hu64;split at this <;> omega
  have hal:Tryz.prog.arrayLen 274=24:=by simp [Program.arrayLen,Tryz.underlying274]
  have hsl1:∀ W,(Instr.sliceAt 274 (.pointer (some ⟨w.heap.size,0,none⟩)) none (some (.int .i64 (nDigits u:Int))) none).run Tryz.prog W = .ok (.slice (some ⟨w.heap.size,0,none⟩) (nDigits u) 24) W:=fun W=>by
   rw [run_sliceAt_array_h W 274 ⟨w.heap.size,0,none⟩ (by simp [Program.arrayLen,Program.elem,Tryz.underlying274]) .i64 (nDigits u:Int) (by omega) (by rw [hal];omega)]
   go_simp
  have hH0:=holds_zero0 w 274 (nDigits u) (by omega)
  have hfmt:=Tryz.internal_strconv_formatBase10 w.heap.size 0 24 u (Array.replicate (nDigits u) 0) (w.alloc (.cells zeros24 274)) hH0 (by rw [Array.size_replicate];exact lt_pow_nDigits u) hu64 (by rw [Array.size_replicate];omega)
  rw [Array.size_replicate] at hfmt
  have HH0:=Lib.hid hH0
  clear hH0 hal
  go_enter Tryz.func264,Tryz.ntmps264
  go_wp2_with (first
   | (go_at_call 245;refine (Tryz.internal_strconv_numDigits u hu1 hu64 _ (tabIs_alloc htab _)).mono ?_;rintro e w' ⟨rfl,rfl⟩))
  refine hfmt.mono ?_
  rintro e w' ⟨rfl,k,v',dk,rfl,hF⟩
  have hcv:(convert 217 9 (.slice (some ⟨w.heap.size,0,none⟩) (nDigits u) 24)).run Tryz.prog ((putRow (fun (b:UInt8)=>Value.int .u8 (b.toNat:Int)) (w.alloc (.cells zeros24 274)) w.heap.size 0 dk).drewN k) = .ok (.string ⟨(decDigits u).toArray⟩) ((putRow (fun (b:UInt8)=>Value.int .u8 (b.toNat:Int)) (w.alloc (.cells zeros24 274)) w.heap.size 0 dk).drewN k):=by
   have h:=run_convert_bytes_back (P:=Tryz.prog) ((putRow (fun (b:UInt8)=>Value.int .u8 (b.toNat:Int)) (w.alloc (.cells zeros24 274)) w.heap.size 0 dk).drewN k) 217 9 5 ⟨w.heap.size,0,none⟩ 24 (decDigits u) Tryz.underlying217 Tryz.underlying5 Tryz.underlying9 (fun j hj=>by
    rw [row_is_numeral hF j hj,add_plain,World.cell?_drewN]
    exact cell?_putRow (fun (b:UInt8)=>Value.int .u8 (b.toNat:Int)) _ w.heap.size 0 _ dk HH0.out (by rw [hF.size,Array.size_replicate]) j (by rw [hF.size];rw [decDigits_length] at hj;exact hj))
   rw [decDigits_length] at h
   exact h
  go_wp2
  go_ret
  obtain ⟨os,eo⟩:=fin_zero w (.cells zeros24 274) dk k
  refine ⟨rfl,?_⟩
  rw [eo]
  exact (below_drewN w k).trans (below_grow (w.drewN k) os)
theorem formatUint_any (u:Nat) (hu64:u<18446744073709551616) (w:World) (htab:Laid w) :
 Calls Tryz.prog 243 #[.int .u64 (u:Int),.int .i64 10] w fun e w'=>e = .returned (.string ⟨(decDigits u).toArray⟩)∧Below w.heap.size w w':=by
 have H:=Lib.hid htab
 clear htab
 go_enter Tryz.func243,Tryz.ntmps243
 go_wp2_with (go_at_call 264;refine (formatUint_inner u hu64 _ H.out).mono ?_;rintro e w' ⟨rfl,hb⟩)
 go_ret
 exact ⟨rfl,hb⟩
end Go.Proofs.YtofcdondmgojiaaGreatDoor
namespace Go.Proofs.YtofcdondmgojiaaGreatDoor.Pl
structure Steps (x0 y0 x y oa ob na nb s:Nat):Prop where
 i1:nb*x+ob*y=x0
 i2:na*x+oa*y=y0
 det:(s%2=0→oa*nb=ob*na+1)∧(s%2=1→ob*na=oa*nb+1)
 zero:s=0→oa=1∧ob=0∧na=0∧nb=1
 ord:0<s→oa≤ob∧na≤nb∧0<na∧0<ob
 nb1:0<nb
 sb:s≤nb
 lt:y≤x
theorem Steps.start (x0 y0:Nat) (h:y0≤x0):Steps x0 y0 x0 y0 1 0 0 1 0 :=
 ⟨by simp,by simp,by simp,by simp,by omega,by omega,by omega,h⟩
theorem Steps.next {x0 y0 x y oa ob na nb s:Nat} (h:Steps x0 y0 x y oa ob na nb s) (hy:0<y) :
 Steps x0 y0 y (x%y) na nb (oa+x/y*na) (ob+x/y*nb) (s+1):=by
 have hx:y*(x/y)+x%y=x:=Nat.div_add_mod x y
 have hq:1≤x/y:=(Nat.one_le_div_iff hy).2 h.lt
 have hm:x%y<y:=Nat.mod_lt _ hy
 generalize x/y=q at *
 generalize x%y=r at *
 have hb:nb≤q*nb:=Nat.le_mul_of_pos_left _ hq
 have ha:na≤q*na:=Nat.le_mul_of_pos_left _ hq
 have n1:=h.nb1
 have sb:=h.sb
 refine ⟨?_,?_,⟨?_,?_⟩,by omega,?_,?_,?_,by omega⟩
 ·rw [← h.i1,← hx];grind
 ·rw [← h.i2,← hx];grind
 ·intro e
  have:=h.det.2 (by omega)
  grind
 ·intro e
  have:=h.det.1 (by omega)
  grind
 ·intro _
  rcases Nat.eq_zero_or_pos s with e|hs
  ·obtain ⟨rfl,rfl,rfl,rfl⟩:=h.zero e
   simp;omega
  ·obtain ⟨o1,o2,o3,o4⟩:=h.ord hs
   have:=Nat.mul_le_mul_left q o2
   refine ⟨o2,by omega,by omega,n1⟩
 ·omega
 ·rcases Nat.eq_zero_or_pos s with e|hs
  ·omega
  ·have:=(h.ord hs).2.2.2;omega
theorem Steps.nb_le {x0 y0 x y oa ob na nb s:Nat} (h:Steps x0 y0 x y oa ob na nb s) (hx:0<x):nb≤x0:=by
 have:=Nat.le_mul_of_pos_right nb hx
 have:=h.i1
 omega
theorem Steps.na_le {x0 y0 x y oa ob na nb s:Nat} (h:Steps x0 y0 x y oa ob na nb s) (hx:0<x):na≤y0:=by
 have:=Nat.le_mul_of_pos_right na hx
 have:=h.i2
 omega
theorem Steps.sum_le {x0 y0 x y oa ob na nb s:Nat} (h:Steps x0 y0 x y oa ob na nb s) (hy:0<y):ob+nb≤x0:=by
 have hx:0<x:=Nat.lt_of_lt_of_le hy h.lt
 have:=Nat.le_mul_of_pos_right nb hx
 have:=Nat.le_mul_of_pos_right ob hy
 have:=h.i1
 omega
theorem Steps.lift {x0 y0 x y oa ob na nb s:Nat} (h:Steps x0 y0 x y oa ob na nb s) (hs:0<s) (c1:nb≤y) (c2:ob+nb≤x-y)
 {K α β a b:Nat} (ha:a=x0*K+α) (hb:b=y0*K+β) (hα:α<K) (hβ:β<K) :
 ∃ a' b',a=nb*a'+ob*b'∧b=na*a'+oa*b'∧b'<a' ∧
   (s%2=0→oa*a=a'+ob*b∧nb*b=b'+na*a)∧(s%2=1→ob*b=a'+oa*a∧na*a=b'+nb*b):=by
 obtain ⟨o1,o2,o3,o4⟩:=h.ord hs
 have hlt:=h.lt
 have k1:na*α≤nb*K:=Nat.mul_le_mul o2 (Nat.le_of_lt hα)
 have k2:nb*β≤nb*K:=Nat.mul_le_mul_left _ (Nat.le_of_lt hβ)
 have k3:oa*α≤ob*K:=Nat.mul_le_mul o1 (Nat.le_of_lt hα)
 have k4:ob*β≤ob*K:=Nat.mul_le_mul_left _ (Nat.le_of_lt hβ)
 have k5:nb*K≤y*K:=Nat.mul_le_mul_right _ c1
 have k6:(ob+nb)*K+y*K≤x*K:=by rw [← Nat.add_mul];exact Nat.mul_le_mul_right _ (by omega)
 rw [Nat.add_mul] at k6
 have k7:nb*β<nb*K:=Nat.mul_lt_mul_of_pos_left hβ h.nb1
 have k8:na*α<na*K:=Nat.mul_lt_mul_of_pos_left hα o3
 have k9:na*K≤nb*K:=Nat.mul_le_mul_right _ o2
 have e1:=h.i1
 have e2:=h.i2
 rcases Nat.mod_two_eq_zero_or_one s with e|e
 ·have d:=h.det.1 e
  have x1:oa*x0=x+ob*y0:=by rw [← e1,← e2];grind
  have y1:nb*y0=y+na*x0:=by rw [← e1,← e2];grind
  refine ⟨x*K+oa*α-ob*β,y*K+nb*β-na*α,?_,?_,by omega,fun _=>⟨?_,?_⟩,by omega⟩
  ·have p:ob*β≤x*K+oa*α:=by omega
   have p2:na*α≤y*K+nb*β:=by omega
   obtain ⟨u,hu⟩:=Nat.exists_eq_add_of_le p
   obtain ⟨v,hv⟩:=Nat.exists_eq_add_of_le p2
   rw [hu,hv,Nat.add_sub_cancel_left,Nat.add_sub_cancel_left,ha,← e1]
   grind
  ·have p:ob*β≤x*K+oa*α:=by omega
   have p2:na*α≤y*K+nb*β:=by omega
   obtain ⟨u,hu⟩:=Nat.exists_eq_add_of_le p
   obtain ⟨v,hv⟩:=Nat.exists_eq_add_of_le p2
   rw [hu,hv,Nat.add_sub_cancel_left,Nat.add_sub_cancel_left,hb,← e2]
   grind
  ·have p:ob*β≤x*K+oa*α:=by omega
   obtain ⟨u,hu⟩:=Nat.exists_eq_add_of_le p
   rw [hu,Nat.add_sub_cancel_left,ha,hb]
   grind
  ·have p2:na*α≤y*K+nb*β:=by omega
   obtain ⟨v,hv⟩:=Nat.exists_eq_add_of_le p2
   rw [hv,Nat.add_sub_cancel_left,ha,hb]
   grind
 ·have d:=h.det.2 e
  have x1:ob*y0=x+oa*x0:=by rw [← e1,← e2];grind
  have y1:na*x0=y+nb*y0:=by rw [← e1,← e2];grind
  refine ⟨x*K+ob*β-oa*α,y*K+na*α-nb*β,?_,?_,by omega,by omega,fun _=>⟨?_,?_⟩⟩
  ·have p:oa*α≤x*K+ob*β:=by omega
   have p2:nb*β≤y*K+na*α:=by omega
   obtain ⟨u,hu⟩:=Nat.exists_eq_add_of_le p
   obtain ⟨v,hv⟩:=Nat.exists_eq_add_of_le p2
   rw [hu,hv,Nat.add_sub_cancel_left,Nat.add_sub_cancel_left,ha,← e1]
   grind
  ·have p:oa*α≤x*K+ob*β:=by omega
   have p2:nb*β≤y*K+na*α:=by omega
   obtain ⟨u,hu⟩:=Nat.exists_eq_add_of_le p
   obtain ⟨v,hv⟩:=Nat.exists_eq_add_of_le p2
   rw [hu,hv,Nat.add_sub_cancel_left,Nat.add_sub_cancel_left,hb,← e2]
   grind
  ·have p:oa*α≤x*K+ob*β:=by omega
   obtain ⟨u,hu⟩:=Nat.exists_eq_add_of_le p
   rw [hu,Nat.add_sub_cancel_left,ha,hb]
   grind
  ·have p2:nb*β≤y*K+na*α:=by omega
   obtain ⟨v,hv⟩:=Nat.exists_eq_add_of_le p2
   rw [hv,Nat.add_sub_cancel_left,ha,hb]
   grind
theorem gcd_of_lift {a b a' b' oa ob na nb s:Nat} (e1:a=nb*a'+ob*b') (e2:b=na*a'+oa*b')
 (h0:s%2=0→oa*a=a'+ob*b∧nb*b=b'+na*a) (h1:s%2=1→ob*b=a'+oa*a∧na*a=b'+nb*b):Nat.gcd a' b'=Nat.gcd a b:=by
 apply Nat.dvd_antisymm
 ·apply Nat.dvd_gcd
  ·rw [e1];exact Nat.dvd_add (Nat.dvd_mul_left_of_dvd (Nat.gcd_dvd_left _ _) _) (Nat.dvd_mul_left_of_dvd (Nat.gcd_dvd_right _ _) _)
  ·rw [e2];exact Nat.dvd_add (Nat.dvd_mul_left_of_dvd (Nat.gcd_dvd_left _ _) _) (Nat.dvd_mul_left_of_dvd (Nat.gcd_dvd_right _ _) _)
 ·have da:∀ k,Nat.gcd a b ∣ k*a:=fun k=>Nat.dvd_mul_left_of_dvd (Nat.gcd_dvd_left _ _) _
  have db:∀ k,Nat.gcd a b ∣ k*b:=fun k=>Nat.dvd_mul_left_of_dvd (Nat.gcd_dvd_right _ _) _
  rcases Nat.mod_two_eq_zero_or_one s with e|e
  ·obtain ⟨p,q⟩:=h0 e
   apply Nat.dvd_gcd
   ·exact (Nat.dvd_add_left (db ob)).1 (p▸da oa)
   ·exact (Nat.dvd_add_left (da na)).1 (q▸db nb)
  ·obtain ⟨p,q⟩:=h1 e
   apply Nat.dvd_gcd
   ·exact (Nat.dvd_add_left (da oa)).1 (p▸db ob)
   ·exact (Nat.dvd_add_left (db nb)).1 (q▸da na)
end Go.Proofs.YtofcdondmgojiaaGreatDoor.Pl
namespace Go.Proofs.YtofcdondmgojiaaGreatDoor
open Go.RowKit Pl
def Away (A:Option Addr) (n g:Nat):Prop:=0<n→∀ ad,A=some ad→ad.block≠g
theorem Rd.away {w:World} {A:Option Addr} {n c:Nat} {xs:List Nat} (h:Rd w A n c xs) {g:Nat} (hg:w.heap.size≤g):Away A n g:=by
 intro hn ad hA
 obtain ⟨ad',hA',hl,_⟩:=h.2.2.2 hn
 rw [hA] at hA'
 injection hA' with e
 subst e
 omega
theorem Rd.only {w w' : World} {A:Option Addr} {n c g:Nat} {xs:List Nat} (h:Rd w A n c xs) (ha:Away A n g) (hg:w.grownBy w' (some g)):Rd w' A n c xs:=by
 refine ⟨h.1,h.2.1,h.2.2.1,fun hn=>?_⟩
 obtain ⟨ad,e,hl,hc⟩:=h.2.2.2 hn
 have hne:=ha hn ad e
 have:=hg.size
 exact ⟨ad,e,by omega,fun j x hx=>hg.cell (hc j x hx) (by rw [bN];intro e2;injection e2 with e2;exact hne e2)⟩
theorem only_refl (w:World) (g:Nat):w.grownBy w (some g):=⟨rfl,rfl,rfl,Nat.le_refl _,fun _ _ _=>rfl⟩
theorem dB {w w' w'' : World} {g:Nat} (h:w.grownBy w' (some g)) (h' : w'.grownBy w'' (some g)):w.grownBy w'' (some g) :=
 ⟨h'.os.trans h.os,h'.tape.trans h.tape,h'.output.trans h.output,Nat.le_trans h.size h'.size,fun k hk hne=>(h'.block k (Nat.lt_of_lt_of_le hk h.size) hne).trans (h.block k hk hne)⟩
theorem eV (w:World) (g i:Nat) (u:Value):w.grownBy (w.setCell ⟨g,i,none⟩ u) (some g) :=
 ⟨rfl,rfl,rfl,by simp [World.setCell],fun k _ hne=>Below.heap_setCell w _ u k (fun e=>hne (by rw [e]))⟩
def put (ys:List Nat) (o:Nat) (zs:List Nat):List Nat:=ys.take o++(zs++ys.drop (o+zs.length))
theorem put_nil (ys:List Nat) (o:Nat):put ys o []=ys:=by simp [put]
theorem dC {ys:List Nat} {o:Nat} {zs:List Nat} (h:o+zs.length≤ys.length):(put ys o zs).length=ys.length:=by
 simp only [put,List.length_append,List.length_take,List.length_drop];omega
theorem put_get {ys:List Nat} {o k:Nat} {zs:List Nat} (hz:zs.length≤k) (h:o+k<ys.length):(put ys o zs)[o+k]?=ys[o+k]?:=by
 unfold put
 rw [List.getElem?_append_right (by simp;omega),List.getElem?_append_right (by simp;omega),List.getElem?_drop]
 congr 1
 simp only [List.length_take]
 omega
theorem put_set {ys:List Nat} {o k:Nat} {zs:List Nat} {z:Nat} (hz:zs.length=k) (h:o+k<ys.length):(put ys o zs).set (o+k) z=put ys o (zs ++ [z]):=by
 subst hz
 unfold put
 rw [List.set_append_right _ _ (by simp;omega),List.set_append_right _ _ (by simp;omega)]
 have e:o+zs.length-(ys.take o).length-zs.length=0:=by simp;omega
 rw [e,List.drop_eq_getElem_cons h]
 simp [Nat.add_assoc]
theorem mul_step {x m cv y:Nat} (hx:x<aD) (hm:m<aD) (hc:cv<aD) (hy:y<aD) :
 ∃ hi lo s1 c1 r c2:Nat,x*m/aD=hi∧x*m%aD=lo∧(lo+cv+0)%aD=s1∧(lo+cv+0)/aD=c1∧(y+s1+0)%aD=r∧(y+s1+0)/aD=c2 ∧
   hi+c1<aD∧hi+c1+c2<aD∧r<aD∧r+aD*(hi+c1+c2)=y+x*m+cv:=by
 refine ⟨_,_,_,_,_,_,rfl,rfl,rfl,rfl,rfl,rfl,?_⟩
 have h1:=Nat.div_add_mod (x*m) aD
 have hp:x*m≤18446744073709551615*18446744073709551615:=Nat.mul_le_mul (by have:=aH;omega) (by have:=aH;omega)
 generalize x*m=p at *
 simp only [aH] at *
 omega
set_option maxHeartbeats 1000000 in
theorem addMultiple_any (g o n cS:Nat) (t:TypeId) (ys:List Nat) (A:Option Addr) (n' c:Nat) (xs:List Nat) (m:Nat) (w:World) (hb:Blk w g t ys) (hys:Dig aD ys) (hwin:o+n'≤ys.length) (hn:n'≤n) (hcS:n≤cS)
 (hm63:cS≤9223372036854775807) (h:Rd w A n' c xs) (hd:Dig aD xs) (ha:Away A n' g) (hm:m<aD) :
 Calls Tryz.prog 197 #[.slice (some ⟨g,o,none⟩) n cS,.slice A n' c,.int .u64 (m:Int)] w fun e w' =>
  Hid (∃ (zs:List Nat) (cy:Nat),e = .returned (.int .u64 (cy:Int))∧zs.length=n'∧Dig aD zs∧cy<aD∧val aD zs+aD^n'*cy=val aD ((ys.drop o).take n')+m*val aD xs∧Blk w' g t (put ys o zs)∧w.grownBy w' (some g)):=by
 have HX:=Lib.hid (And.intro h (And.intro hd (And.intro hys ha)))
 have HB:=Lib.hid hb
 have hnc:n'≤c:=h.cap
 have hcm:c≤9223372036854775807:=h.2.2.1
 clear h hd hys ha hb
 go_enter Tryz.func197,Tryz.ntmps197
 go_wp2
 go_loopw [7,14] (fun cy i wr => ∃ (k cv:Nat) (zs:List Nat),k≤n'∧i = .int .i64 (k:Int)∧cy = .int .u64 (cv:Int)∧cv<aD∧zs.length=k∧Dig aD zs ∧
  val aD zs+aD^k*cv=val aD ((ys.drop o).take k)+m*val aD (xs.take k)∧Blk wr g t (put ys o zs)∧w.grownBy wr (some g)) (fun _ i _=>n'-(intOf i).toNat)
 case atStart=>exact ⟨0,0,[],Nat.zero_le _,rfl,rfl,bD,rfl,Dig.nil _,by simp [val],by rw [put_nil];exact HB.out,only_refl _ _⟩
 case round =>
  obtain ⟨k,cv,zs,hk,rfl,rfl,hcv,hzl,hzd,hval,hblk,hg⟩:=hrel
  by_cases hlt:k<n'
  ·obtain ⟨ad,x,hA,_,hx,hcx⟩:=(HX.out.1.only HX.out.2.2.2 hg).at_ (k:=k) hlt
   subst hA
   obtain ⟨y,hy⟩:∃ y,ys[o+k]?=some y:=⟨_,List.getElem?_eq_getElem (by omega)⟩
   have hcy:wr.cell? ⟨g,o+k,none⟩=some (.int .u64 (y:Int)):=hblk.cell (by rw [put_get (by omega) (by omega)];exact hy)
   have hfz:=hblk.frozen (o+k)
   obtain ⟨hi,lo,s1,c1,r,c2,e1,e2,e3,e4,e5,e6,b1,b2,b3,e7⟩:=mul_step (HX.out.2.1.at_ hx) hm hcv (HX.out.2.2.1.at_ hy)
   have hmul:=Lib.hid (fun w=>(Tryz.bits_Mul64 x m (HX.out.2.1.at_ hx) hm w).mono (fun e w' h=>(show e = .returned (.tuple #[.int .u64 (hi:Int),.int .u64 (lo:Int)])∧w=w' from ⟨by rw [h.1,← e1,← e2];rfl,h.2.symm⟩)))
   have ha1:=fun w=>gC lo cv 0 (by omega) w
   have ha2:=fun w=>gC y s1 0 (by omega) w
   rw [e3,e4] at ha1
   rw [e5,e6] at ha2
   simp only [Int.natCast_zero] at ha1 ha2
   have HE:=Lib.hid (And.intro hx (And.intro hy (And.intro hblk (And.intro e7 (And.intro hval (And.intro hzl hzd))))))
   have B1:(hi:Int)+c1≤18446744073709551615:=by have:=aH;omega
   have B2:(hi:Int)+c1+c2≤18446744073709551615:=by have:=aH;omega
   have HB3:=Lib.hid (And.intro b2 b3)
   clear hx hy hblk e1 e2 e3 e4 e5 e6 e7 hval hzl hzd b1 b2 b3 hcv
   go_wp2_with (go_at_call 220;refine (hmul.out _).mono ?_;rintro e w' ⟨rfl,rfl⟩)
   go_roundw
   case rel =>
    obtain ⟨hx,hy,hblk,e7,hval,hzl,hzd⟩:=HE.out
    refine ⟨k+1,hi+c1+c2,zs ++ [r],by omega,by go_num,by go_num,HB3.out.1,by simp [hzl],hzd.app (Dig.cons HB3.out.2 (Dig.nil _)),?_,?_,dB hg (eV _ _ _ _)⟩
    ·obtain ⟨h1,ex⟩:=List.getElem?_eq_some_iff.1 hx
     have hyd:(ys.drop o)[k]?=some y:=by rw [List.getElem?_drop];exact hy
     obtain ⟨h2,ey⟩:=List.getElem?_eq_some_iff.1 hyd
     rw [cR,aF _ _ _ h1,aF _ _ _ h2,ex,ey,hzl,Nat.pow_succ]
     generalize aD^k=P at *
     generalize aD=V at *
     grind
    ·rw [← put_set hzl (by omega)]
     exact hblk.set_ _ _
   case measure=>simp [intOf];omega
  ·obtain rfl:k=n':=by omega
   have HE:=Lib.hid (And.intro hblk (And.intro hval (And.intro hzl (And.intro hzd hcv))))
   clear hblk hval hzl hzd hcv
   go_wp2
   go_ret
   refine ⟨zs,cv,rfl,HE.out.2.2.1,HE.out.2.2.2.1,HE.out.2.2.2.2,?_,HE.out.1,hg⟩
   have:=HE.out.2.1
   rwa [List.take_of_length_le (l:=xs) (by rw [HX.out.1.len];omega)] at this
theorem mul_take {x m cv y:Nat} (hx:x<aD) (hm:m<aD) (hc:cv<aD) (hy:y<aD) :
 ∃ hi lo s1 c1 r c2:Nat,x*m/aD=hi∧x*m%aD=lo∧(lo+cv+0)%aD=s1∧(lo+cv+0)/aD=c1∧(y+aD-s1-0)%aD=r∧(if y<s1+0 then 1 else 0)=c2 ∧
   hi+c1<aD∧hi+c1+c2<aD∧r<aD∧r+x*m+cv=y+aD*(hi+c1+c2):=by
 refine ⟨_,_,_,_,_,_,rfl,rfl,rfl,rfl,rfl,rfl,?_⟩
 have h1:=Nat.div_add_mod (x*m) aD
 have hp:x*m≤18446744073709551615*18446744073709551615:=Nat.mul_le_mul (by have:=aH;omega) (by have:=aH;omega)
 generalize x*m=p at *
 have hA:=Nat.div_add_mod (p%aD+cv+0) aD
 have hA2:(p%aD+cv+0)%aD<aD:=Nat.mod_lt _ bD
 generalize (p%aD+cv+0)%aD=s1 at *
 generalize (p%aD+cv+0)/aD=c1 at *
 rcases Nat.lt_or_ge y s1 with hlt|hlt
 ·rw [if_pos (by omega)]
  simp only [aH] at *
  omega
 ·rw [if_neg (by omega)]
  simp only [aH] at *
  omega
set_option maxHeartbeats 1000000 in
theorem takeMultiple_any (g o n cS:Nat) (t:TypeId) (ys:List Nat) (A:Option Addr) (n' c:Nat) (xs:List Nat) (m:Nat) (w:World) (hb:Blk w g t ys) (hys:Dig aD ys) (hwin:o+n'≤ys.length) (hn:n'≤n) (hcS:n≤cS)
 (hm63:cS≤9223372036854775807) (h:Rd w A n' c xs) (hd:Dig aD xs) (ha:Away A n' g) (hm:m<aD) :
 Calls Tryz.prog 257 #[.slice (some ⟨g,o,none⟩) n cS,.slice A n' c,.int .u64 (m:Int)] w fun e w' =>
  Hid (∃ (zs:List Nat) (cy:Nat),e = .returned (.int .u64 (cy:Int))∧zs.length=n'∧Dig aD zs∧cy<aD∧val aD zs+m*val aD xs=val aD ((ys.drop o).take n')+aD^n'*cy∧Blk w' g t (put ys o zs)∧w.grownBy w' (some g)):=by
 have HX:=Lib.hid (And.intro h (And.intro hd (And.intro hys ha)))
 have HB:=Lib.hid hb
 have hnc:n'≤c:=h.cap
 have hcm:c≤9223372036854775807:=h.2.2.1
 clear h hd hys ha hb
 go_enter Tryz.func257,Tryz.ntmps257
 go_wp2
 go_loopw [7,14] (fun cy i wr => ∃ (k cv:Nat) (zs:List Nat),k≤n'∧i = .int .i64 (k:Int)∧cy = .int .u64 (cv:Int)∧cv<aD∧zs.length=k∧Dig aD zs ∧
  val aD zs+m*val aD (xs.take k)=val aD ((ys.drop o).take k)+aD^k*cv∧Blk wr g t (put ys o zs)∧w.grownBy wr (some g)) (fun _ i _=>n'-(intOf i).toNat)
 case atStart=>exact ⟨0,0,[],Nat.zero_le _,rfl,rfl,bD,rfl,Dig.nil _,by simp [val],by rw [put_nil];exact HB.out,only_refl _ _⟩
 case round =>
  obtain ⟨k,cv,zs,hk,rfl,rfl,hcv,hzl,hzd,hval,hblk,hg⟩:=hrel
  by_cases hlt:k<n'
  ·obtain ⟨ad,x,hA,_,hx,hcx⟩:=(HX.out.1.only HX.out.2.2.2 hg).at_ (k:=k) hlt
   subst hA
   obtain ⟨y,hy⟩:∃ y,ys[o+k]?=some y:=⟨_,List.getElem?_eq_getElem (by omega)⟩
   have hcy:wr.cell? ⟨g,o+k,none⟩=some (.int .u64 (y:Int)):=hblk.cell (by rw [put_get (by omega) (by omega)];exact hy)
   have hfz:=hblk.frozen (o+k)
   obtain ⟨hi,lo,s1,c1,r,c2,e1,e2,e3,e4,e5,e6,b1,b2,b3,e7⟩:=mul_take (HX.out.2.1.at_ hx) hm hcv (HX.out.2.2.1.at_ hy)
   have hmul:=Lib.hid (fun w=>(Tryz.bits_Mul64 x m (HX.out.2.1.at_ hx) hm w).mono (fun e w' h=>(show e = .returned (.tuple #[.int .u64 (hi:Int),.int .u64 (lo:Int)])∧w=w' from ⟨by rw [h.1,← e1,← e2];rfl,h.2.symm⟩)))
   have ha1:=fun w=>gC lo cv 0 (by omega) w
   have ha2:=fun w=>run_sub64' y s1 0 (by omega) w
   rw [e3,e4] at ha1
   rw [e5,e6] at ha2
   simp only [Int.natCast_zero] at ha1 ha2
   have HE:=Lib.hid (And.intro hx (And.intro hy (And.intro hblk (And.intro e7 (And.intro hval (And.intro hzl hzd))))))
   have B1:(hi:Int)+c1≤18446744073709551615:=by have:=aH;omega
   have B2:(hi:Int)+c1+c2≤18446744073709551615:=by have:=aH;omega
   have HB3:=Lib.hid (And.intro b2 b3)
   clear hx hy hblk e1 e2 e3 e4 e5 e6 e7 hval hzl hzd b1 b2 b3 hcv
   go_wp2_with (go_at_call 220;refine (hmul.out _).mono ?_;rintro e w' ⟨rfl,rfl⟩)
   go_roundw
   case rel =>
    obtain ⟨hx,hy,hblk,e7,hval,hzl,hzd⟩:=HE.out
    refine ⟨k+1,hi+c1+c2,zs ++ [r],by omega,by go_num,by go_num,HB3.out.1,by simp [hzl],hzd.app (Dig.cons HB3.out.2 (Dig.nil _)),?_,?_,dB hg (eV _ _ _ _)⟩
    ·obtain ⟨h1,ex⟩:=List.getElem?_eq_some_iff.1 hx
     have hyd:(ys.drop o)[k]?=some y:=by rw [List.getElem?_drop];exact hy
     obtain ⟨h2,ey⟩:=List.getElem?_eq_some_iff.1 hyd
     rw [cR,aF _ _ _ h1,aF _ _ _ h2,ex,ey,hzl,Nat.pow_succ]
     generalize aD^k=P at *
     generalize aD=V at *
     grind
    ·rw [← put_set hzl (by omega)]
     exact hblk.set_ _ _
   case measure=>simp [intOf];omega
  ·obtain rfl:k=n':=by omega
   have HE:=Lib.hid (And.intro hblk (And.intro hval (And.intro hzl (And.intro hzd hcv))))
   clear hblk hval hzl hzd hcv
   go_wp2
   go_ret
   refine ⟨zs,cv,rfl,HE.out.2.2.1,HE.out.2.2.2.1,HE.out.2.2.2.2,?_,HE.out.1,hg⟩
   have:=HE.out.2.1
   rwa [List.take_of_length_le (l:=xs) (by rw [HX.out.1.len];omega)] at this
def MulInv (xs ys zs:List Nat) (k:Nat):Prop :=
 Dig aD zs∧zs.length=xs.length+ys.length∧val aD (zs.take (k+xs.length))=val aD xs*val aD (ys.take k)
theorem MulInv.start (xs ys:List Nat):MulInv xs ys (List.replicate (xs.length+ys.length) 0) 0:=by
 refine ⟨Dig.replicate bD _,by simp,?_⟩
 rw [List.take_replicate,val_zeros]
 simp [val]
theorem put_take {ys zs:List Nat} {o:Nat} (h:o+zs.length≤ys.length):val aD ((put ys o zs).take (o+zs.length))=val aD (ys.take o)+aD^o*val aD zs:=by
 have e:(put ys o zs).take (o+zs.length)=ys.take o++zs:=by
  unfold put
  rw [← List.append_assoc,List.take_append_of_le_length (by simp;omega),List.take_of_length_le (by simp;omega)]
 rw [e,gB,List.length_take,Nat.min_eq_left (by omega)]
theorem put_dig {ys zs:List Nat} {o:Nat} (hy:Dig aD ys) (hz:Dig aD zs):Dig aD (put ys o zs):=(hy.take _).app (hz.app (hy.drop _))
theorem take_window (zs:List Nat) (o n:Nat) (h:o+n≤zs.length):val aD (zs.take (o+n))=val aD (zs.take o)+aD^o*val aD ((zs.drop o).take n):=by
 rw [List.take_add,gB,List.length_take,Nat.min_eq_left (by omega)]
theorem MulInv.step {xs ys zs ws:List Nat} {k m cy:Nat} (h:MulInv xs ys zs k) (hm:ys[k]?=some m) (hw:ws.length=xs.length) (hwd:Dig aD ws) (hcy:cy<aD)
 (hv:val aD ws+aD^xs.length*cy=val aD ((zs.drop k).take xs.length)+m*val aD xs):MulInv xs ys ((put zs k ws).set (k+xs.length) cy) (k+1):=by
 obtain ⟨h1,h2,h3⟩:=h
 obtain ⟨hk,em⟩:=List.getElem?_eq_some_iff.1 hm
 have hl:(put zs k ws).length=zs.length:=dC (by omega)
 refine ⟨(put_dig h1 hwd).set hcy,by rw [List.length_set,hl,h2],?_⟩
 rw [show k+1+xs.length=k+xs.length+1 from by omega,aF _ _ _ (by rw [List.length_set,hl];omega),List.take_set_of_le (Nat.le_refl _),List.getElem_set_self,
  show k+xs.length=k+ws.length from by omega,put_take (by omega),aF _ _ _ hk,em]
 rw [take_window zs k _ (by omega)] at h3
 rw [hw,Nat.pow_add]
 generalize aD^k=P at *
 generalize aD^xs.length=R at *
 grind
theorem MulInv.finish {xs ys zs:List Nat} (h:MulInv xs ys zs ys.length):val aD zs=val aD xs*val aD ys:=by
 obtain ⟨_,h2,h3⟩:=h
 rwa [List.take_of_length_le (by omega),List.take_of_length_le (Nat.le_refl _)] at h3
set_option maxHeartbeats 1000000 in
theorem times_any (A:Option Addr) (n c:Nat) (xs:List Nat) (A' : Option Addr) (n' c' : Nat) (ys:List Nat) (w:World) (h:Rd w A n c xs) (h' : Rd w A' n' c' ys)
 (hd:Dig aD xs) (hd' : Dig aD ys) (hn:n≤2199023255552) (hn' : n'≤2199023255552) :
 Calls Tryz.prog 131 #[.slice A n c,.slice A' n' c'] w (GivesNt w (val aD xs*val aD ys)):=by
 have HX:=Lib.hid (And.intro h hd)
 have HY:=Lib.hid (And.intro h' hd')
 have hnc:n≤c:=h.cap
 have hcm:c≤9223372036854775807:=h.2.2.1
 have hnc' : n'≤c':=h'.cap
 have hcm' : c'≤9223372036854775807:=h'.2.2.1
 obtain ⟨i0,hi,hz0,hz1,hz2⟩:=info_parts eY
 have HI:=Lib.hid (And.intro hi (And.intro hz0 (And.intro hz1 hz2)))
 clear h h' hd hd' hi hz0 hz1 hz2
 go_enter Tryz.func131,Tryz.ntmps131
 go_wp2_with (at_make;refine wpList_make_full _ rfl _ _ 102 rfl w.heap.size 151 i0 (.int .u64 0) 1 Tryz.underlying102 HI.out.1 HI.out.2.1 HI.out.2.2.1 _ _ _ _ (n+n') rfl rfl ?b0 ?b1 ?b2 ?b3 (Nat.le_refl _) ?_)
 case b0=>omega
 case b1=>omega
 case b2=>rw [HI.out.2.2.2];omega
 case b3=>show n+n'≤9223372036854775807;omega
 intro w1 hown hg1
 have hb1:Below w.heap.size w w1:=(Below.refl _ _).grown hg1 (Nat.le_refl _) (fun k h=>by cases h)
 have hblk:=dV hown
 have e0:MulInv xs ys (List.replicate (n+n') 0) 0:=by
  have:=MulInv.start xs ys
  rwa [HX.out.1.len,HY.out.1.len] at this
 have HB:=Lib.hid hblk
 have H0:=Lib.hid e0
 clear hown hg1 hblk e0
 obtain ⟨g,hg⟩:∃ g,g=w.heap.size:=⟨_,rfl⟩
 rw [← hg] at HB ⊢
 have HG:=Lib.hid hg
 clear hg
 go_wp2
 go_loopw [16] (fun i wr => ∃ (k:Nat) (zs:List Nat),k≤n'∧i = .int .i64 (k:Int)∧MulInv xs ys zs k∧Blk wr g 151 zs∧Below w.heap.size w wr) (fun i _=>n'-(intOf i).toNat)
 case atStart=>exact ⟨0,_,Nat.zero_le _,rfl,H0.out,HB.out,hb1⟩
 case round =>
  obtain ⟨k,zs,hk,rfl,hinv,hblk,hb⟩:=hrel
  have hzn:zs.length=n+n':=by rw [hinv.2.1,HX.out.1.len,HY.out.1.len]
  have HV:=Lib.hid hinv
  by_cases hlt:k<n'
  ·obtain ⟨ad',y,hA',_,hy,hcy⟩:=(HY.out.1.below hb).at_ (k:=k) hlt
   subst hA'
   have hncap:¬ n+n'=k:=by omega
   have hadd:=Lib.hid (addMultiple_any g k n (n+n'-k) 151 zs A n c xs y wr hblk hinv.1 (by omega) (Nat.le_refl _) (by omega) (by omega) (HX.out.1.below hb) HX.out.2 (HX.out.1.away (by rw [HG.out];exact Nat.le_refl _)) (HY.out.2.at_ hy))
   have HE:=Lib.hid (And.intro hy hzn)
   clear hy hblk hinv hzn
   go_wp2_with fail
   refine (hadd.out).mono ?_
   rintro e w2 ⟨ws,cy,rfl,hwl,hwd,hcyb,hwv,hblk2,hg2⟩
   have hb2:Below w.heap.size w w2:=hb.grown hg2 hb.size (fun k h=>by injection h with h;rw [← h,HG.out];exact Nat.le_refl _)
   have hzn:=HE.out.2
   obtain ⟨z,hcz⟩:∃ z:Int,w2.cell? ⟨g,k+n,none⟩=some (.int .u64 z):=⟨_,hblk2.cell_get (by rw [dC (by omega)];omega)⟩
   have hfz:=hblk2.frozen (k+n)
   have HE2:=Lib.hid (And.intro hwl (And.intro hwd (And.intro hcyb (And.intro hwv hblk2))))
   clear hwl hwd hcyb hwv hblk2 hzn hcy hadd hb
   go_wp2
   go_roundw
   case rel =>
    obtain ⟨hwl,hwd,hcyb,hwv,hblk2⟩:=HE2.out
    have hs:=HV.out.step HE.out.1 (by rw [hwl,HX.out.1.len]) hwd hcyb (by rw [HX.out.1.len];exact hwv)
    rw [HX.out.1.len] at hs
    exact ⟨k+1,(put zs k ws).set (k+n) cy,by omega,by go_num,hs,hblk2.set_ _ _,hb2.setCell (by rw [HG.out];exact Nat.le_refl _) _⟩
   case measure=>simp [intOf];omega
  ·obtain rfl:k=n':=by omega
   have hrd:=hblk.rd (by rw [hzn];show n+k≤9223372036854775807;omega)
   rw [hzn] at hrd
   have hfin:=hinv
   rw [← HY.out.1.len] at hfin
   have HF:=Lib.hid (And.intro hinv.1 (And.intro hfin.finish hrd))
   clear hinv hblk hzn hrd hfin hlt
   go_wp2_with (go_at_call 158;refine (eJ _ _ _ zs _ HF.out.2.2 HF.out.1).mono ?_;rintro e w' ⟨⟨v,rfl,hv⟩,rfl⟩)
   go_ret
   exact ⟨v,rfl,by rw [← HF.out.2.1];exact hv,hb⟩
end Go.Proofs.YtofcdondmgojiaaGreatDoor
namespace Go.Proofs.YtofcdondmgojiaaGreatDoor.Pl
theorem guess_le {u v u3 v2 ul vl M t B:Nat} (hu:u=u3*M+ul) (hv:v=v2*M+vl) (hvl:vl<M) (ht:t*v2≤u3) (htB:t≤B) (hv2:B≤v2):t≤u/v+1:=by
 have hM:0<M:=by omega
 have hBM:B*M≤v2*M:=Nat.mul_le_mul_right _ hv2
 rcases Nat.eq_zero_or_pos t with rfl|ht0
 ·exact Nat.zero_le _
 have hB0:0<B:=by omega
 have hvp:0<v:=by
  have:0<v2*M:=Nat.mul_pos (by omega) hM
  omega
 have h1:(t-1)*v≤u:=by
  have e:t*v=t*v2*M+t*vl:=by rw [hv];grind
  have e1:t*v2*M≤u3*M:=Nat.mul_le_mul_right _ ht
  have e2:t*vl≤B*M:=Nat.mul_le_mul htB (Nat.le_of_lt hvl)
  have e3:(t-1)*v=t*v-v:=by rw [Nat.sub_mul,Nat.one_mul]
  omega
 have:=(Nat.le_div_iff_mul_le hvp).2 h1
 omega
theorem guess_ge {u v u2 v1 ul vl M:Nat} (hu:u=u2*M+ul) (hv:v=v1*M+vl) (hul:ul<M) (hv1:0<v1):u/v≤u2/v1:=by
 have hM:0<M:=by omega
 have hv0:0<v:=by
  have:0<v1*M:=Nat.mul_pos hv1 hM
  omega
 rw [Nat.le_div_iff_mul_le hv1]
 have h:=Nat.div_mul_le_self u v
 have h1:u/v*v=u/v*v1*M+u/v*vl:=by rw [hv];grind
 have h2:u/v*v1*M<(u2+1)*M:=by rw [Nat.add_mul,Nat.one_mul];omega
 have:=Nat.lt_of_mul_lt_mul_right h2
 omega
theorem guess_top {u v v1 ul vl M B:Nat} (hu:v1*B*M≤u) (hv:v=v1*M+vl) (hvl:vl<M) (hb:B≤2*v1) (_hul:0≤ul):B-1≤u/v+1:=by
 have hM:0<M:=by omega
 rcases Nat.lt_or_ge B 2 with h|h
 ·exact Nat.le_trans (by omega:B-1≤1) (Nat.le_add_left 1 _)
 have hv0:0<v:=by
  have:0<v1*M:=Nat.mul_pos (by omega) hM
  omega
 have h1:(B-2)*v≤u:=by
  obtain ⟨c,rfl⟩:=Nat.exists_eq_add_of_le h
  have e : (2 + c - 2) * v = c * v1 * M + c * vl := by rw [hv];have:2+c-2=c:=by omega
                                                       rw [this];grind
  have e2:c*vl≤2*v1*M:=Nat.mul_le_mul (by omega) (Nat.le_of_lt hvl)
  have e3:v1*(2+c)*M=2*v1*M+c*v1*M:=by grind
  omega
 have:=(Nat.le_div_iff_mul_le hv0).2 h1
 omega
theorem take_ok {u v ul T h t x bor:Nat} (hu:u=ul+T*h) (hx:x+t*v=ul+T*bor) (hxT:x<T) (hvT:v≤T) (h0:u/v≤t) (h1:t≤u/v+1) (hv:0<v) :
 (bor≤h→t=u/v∧x=u%v∧bor=h)∧(h<bor→t=u/v+1∧u%v+T=x+v):=by
 have hdm:=Nat.div_add_mod u v
 have hm:=Nat.mod_lt u hv
 generalize u/v=q at *
 generalize u%v=r at *
 have hq:v*q=q*v:=Nat.mul_comm _ _
 constructor
 ·intro hb
  have e:t=q:=by
   rcases Nat.lt_or_ge q t with hlt|hge
   ·exfalso
    have:t=q+1:=by omega
    subst this
    have e1:(q+1)*v=q*v+v:=by grind
    have e2:T*bor≤T*h:=Nat.mul_le_mul_left _ hb
    omega
   ·omega
  subst e
  have e2:T*bor≤T*h:=Nat.mul_le_mul_left _ hb
  rcases Nat.lt_or_ge bor h with hlt|hge
  ·exfalso
   have e3:T*(bor+1)≤T*h:=Nat.mul_le_mul_left _ hlt
   rw [Nat.mul_add,Nat.mul_one] at e3
   omega
  ·have:bor=h:=by omega
   subst this
   exact ⟨rfl,by omega,rfl⟩
 ·intro hb
  have e3:T*(h+1)≤T*bor:=Nat.mul_le_mul_left _ hb
  rw [Nat.mul_add,Nat.mul_one] at e3
  have e:t=q+1:=by
   rcases Nat.lt_or_ge q t with hlt|hge
   ·omega
   ·exfalso
    have:t=q:=by omega
    subst this
    omega
  subst e
  have e1:(q+1)*v=q*v+v:=by grind
  have:bor=h+1:=by
   rcases Nat.lt_or_ge (h+1) bor with hlt|hge
   ·exfalso
    have e4:T*(h+2)≤T*bor:=Nat.mul_le_mul_left _ hlt
    rw [Nat.mul_add] at e4
    omega
   ·omega
  subst this
  rw [Nat.mul_add,Nat.mul_one] at hx
  exact ⟨rfl,by omega⟩
structure Half (U u1 Y v1 v0 Q:Nat):Prop where
 hY:Y=v1*4294967296+v0
 hv0:v0<4294967296
 hv1:2147483648≤v1
 hv1' : v1<4294967296
 hU:U<Y
 hu1:u1<4294967296
 hQ:Q=(U*4294967296+u1)/Y
section
variable {U u1 Y v1 v0 Q:Nat}
theorem Half.q_lt (h:Half U u1 Y v1 v0 Q):Q<4294967296:=by
 have h1:=h.hU
 have h2:=h.hu1
 rw [h.hQ,Nat.div_lt_iff_lt_mul (by omega)]
 omega
theorem Half.le_guess (h:Half U u1 Y v1 v0 Q):Q≤U/v1:=by
 have h1:=h.hv1
 rw [h.hQ]
 exact guess_ge rfl h.hY h.hu1 (by omega)
theorem Half.guess_le (h:Half U u1 Y v1 v0 Q):U/v1≤4294967297:=by
 have h1:=h.hv1
 have h2:=h.hU
 have h3:=h.hv0
 have h4:=h.hY
 have:U/v1<4294967298:=by
  rw [Nat.div_lt_iff_lt_mul (by omega)]
  omega
 omega
theorem Half.le_iff (h:Half U u1 Y v1 v0 Q) {a b:Nat} (hab:a*v1+b=U):a≤Q↔a*v0≤4294967296*b+u1:=by
 have h1:=h.hv1
 have h2:=h.hY
 rw [h.hQ,Nat.le_div_iff_mul_le (by omega)]
 have e:a*Y=a*v1*4294967296+a*v0:=by rw [h2];grind
 rw [e]
 omega
theorem Half.done (h:Half U u1 Y v1 v0 Q) {a b:Nat} (hab:a*v1+b=U) (hq:Q≤a) (ha:a≤4294967296) (hb:4294967296≤b):a=Q:=by
 have h1:=h.hv0
 have:a*v0≤4294967296*4294967296:=Nat.mul_le_mul ha (by omega)
 have:=(h.le_iff hab).2 (by omega)
 omega
theorem Half.rest (h:Half U u1 Y v1 v0 Q):∃ R,R<Y∧U*4294967296+u1=Q*Y+R:=by
 have h1:=h.hv1
 have h2:=h.hY
 refine ⟨(U*4294967296+u1)%Y,Nat.mod_lt _ (by omega),?_⟩
 rw [h.hQ,Nat.mul_comm _ Y,Nat.div_add_mod]
end
theorem halves {N y s U u1 u0 Y Q R Q0 R0:Nat} (hN:N*2^s=(U*4294967296+u1)*4294967296+u0) (hY:Y=y*2^s) (h1:U*4294967296+u1=Q*Y+R) (h0:R*4294967296+u0=Q0*Y+R0) (hR:R0<Y) :
 Q*4294967296+Q0=N/y∧R0/2^s=N%y:=by
 have hp:0<2^s:=Nat.pow_pos (by omega)
 have e:N*2^s=(Q*4294967296+Q0)*Y+R0:=by rw [hN,h1];grind
 have e1:N*2^s/Y=Q*4294967296+Q0:=by
  rw [e,Nat.add_comm,Nat.add_mul_div_right _ _ (by omega),Nat.div_eq_of_lt hR]
  omega
 have e2:N*2^s%Y=R0:=by
  rw [e,Nat.mul_comm _ Y,Nat.mul_add_mod,Nat.mod_eq_of_lt hR]
 constructor
 ·rw [← e1,hY,Nat.mul_div_mul_right _ _ hp]
 ·rw [← e2,hY,Nat.mul_mod_mul_right,Nat.mul_div_cancel _ hp]
end Go.Proofs.YtofcdondmgojiaaGreatDoor.Pl
namespace Go.Proofs.YtofcdondmgojiaaGreatDoor
open Go.RowKit Pl
theorem bits_or_nat (a b:Nat) (ha:a<18446744073709551616) (hb:b<18446744073709551616):bits .or .u64 (a:Int) (b:Int)=((a ||| b:Nat):Int):=by
 have hx:a ||| b<2^64:=Nat.or_lt_two_pow (by omega) (by omega)
 have h1:(BitVec.ofInt 64 (a:Int)).toNat=a:=by
  rw [BitVec.ofInt_natCast,BitVec.toNat_ofNat];exact Nat.mod_eq_of_lt (by omega)
 have h2:(BitVec.ofInt 64 (b:Int)).toNat=b:=by
  rw [BitVec.ofInt_natCast,BitVec.toNat_ofNat];exact Nat.mod_eq_of_lt (by omega)
 show IntKind.u64.wrap ((BitVec.ofInt 64 (a:Int) ||| BitVec.ofInt 64 (b:Int)).toNat:Int)=_
 rw [BitVec.toNat_or,h1,h2,IntKind.wrap_u64]
 omega
theorem bits_and_nat (a b:Nat) (ha:a<18446744073709551616) (hb:b<18446744073709551616):bits .and .u64 (a:Int) (b:Int)=((a &&& b:Nat):Int):=by
 have hx:a &&& b<2^64:=Nat.and_lt_two_pow _ (by omega)
 have h1:(BitVec.ofInt 64 (a:Int)).toNat=a:=by
  rw [BitVec.ofInt_natCast,BitVec.toNat_ofNat];exact Nat.mod_eq_of_lt (by omega)
 have h2:(BitVec.ofInt 64 (b:Int)).toNat=b:=by
  rw [BitVec.ofInt_natCast,BitVec.toNat_ofNat];exact Nat.mod_eq_of_lt (by omega)
 show IntKind.u64.wrap ((BitVec.ofInt 64 (a:Int) &&& BitVec.ofInt 64 (b:Int)).toNat:Int)=_
 rw [BitVec.toNat_and,h1,h2,IntKind.wrap_u64]
 omega
theorem and_half (a:Nat) (ha:a<18446744073709551616):bits .and .u64 (a:Int) 4294967295=((a%4294967296:Nat):Int):=by
 have:=bits_and_nat a 4294967295 ha (by omega)
 rw [show ((4294967295:Nat):Int)=4294967295 from rfl] at this
 rw [this,show (4294967295:Nat)=2^32-1 from rfl,Nat.and_two_pow_sub_one_eq_mod]
theorem or_shift (a b s:Nat) (hb:b<2^s) (h:a*2^s+b<18446744073709551616):bits .or .u64 ((a*2^s:Nat):Int) (b:Int)=((a*2^s+b:Nat):Int):=by
 rw [bits_or_nat _ _ (by omega) (by omega),Nat.mul_comm,Nat.two_pow_add_eq_or_of_lt hb]
theorem wrap_nat (a:Nat) (ha:a<18446744073709551616):IntKind.u64.wrap (a:Int)=(a:Int):=by rw [IntKind.wrap_u64];omega
theorem fT (a:Nat):IntKind.u64.wrap (a:Int)=((a%18446744073709551616:Nat):Int):=by rw [IntKind.wrap_u64];omega
end Go.Proofs.YtofcdondmgojiaaGreatDoor
namespace Go.Proofs.YtofcdondmgojiaaGreatDoor
open Pl
theorem W64_pow {s:Nat} (hs:s≤64):aD=2^(64-s)*2^s:=by
 rw [← Nat.pow_add,show 64-s+s=64 from by omega,aH]
theorem shl_parts {x s:Nat} (hs:s≤64):x*2^s%aD=x%2^(64-s)*2^s∧x*2^s%aD+aD*(x/2^(64-s))=x*2^s:=by
 have e:x*2^s%aD=x%2^(64-s)*2^s:=by rw [W64_pow hs,Nat.mul_mod_mul_right]
 refine ⟨e,?_⟩
 rw [e,W64_pow hs]
 have:=Nat.div_add_mod x (2^(64-s))
 generalize x/2^(64-s)=q at *
 generalize x%2^(64-s)=r at *
 generalize 2^(64-s)=P at *
 subst this
 grind
theorem hi_lt {x s:Nat} (hs:s≤64) (hx:x<aD):x/2^(64-s)<2^s:=by
 rw [Nat.div_lt_iff_lt_mul (Nat.pow_pos (by omega)),Nat.mul_comm,← W64_pow hs]
 exact hx
def UpInv (xs zs:List Nat) (s k:Nat):Prop :=
 Dig aD zs∧zs.length=xs.length+1∧val aD (zs.take (k+1))=val aD (xs.take k)*2^s∧zs.getD k 0<2^s
theorem UpInv.start (xs:List Nat) (s:Nat):UpInv xs (List.replicate (xs.length+1) 0) s 0:=by
 refine ⟨Dig.replicate bD _,by simp,?_,?_⟩
 ·rw [List.take_replicate,val_zeros];simp [val]
 ·rw [List.getD,List.getElem?_replicate]
  split <;> exact Nat.pow_pos (by omega)
theorem UpInv.step {xs zs:List Nat} {s k x c:Nat} (h:UpInv xs zs s k) (hs:s≤63) (hx:xs[k]?=some x) (hd:Dig aD xs) (hc:zs[k]?=some c) :
 UpInv xs ((zs.set k (x*2^s%aD+c)).set (k+1) (x/2^(64-s))) s (k+1)∧c<2^s∧x%2^(64-s)*2^s+c<aD∧x/2^(64-s)<aD:=by
 obtain ⟨h1,h2,h3,h4⟩:=h
 obtain ⟨hk,ex⟩:=List.getElem?_eq_some_iff.1 hx
 obtain ⟨hkz,ez⟩:=List.getElem?_eq_some_iff.1 hc
 have hcl:c<2^s:=by rw [List.getD,hc] at h4;exact h4
 have hxl:=hd.at_ hx
 obtain ⟨p1,p2⟩:=shl_parts (x:=x) (s:=s) (by omega)
 have hlow:x%2^(64-s)*2^s+c<aD:=by
  have hm:x%2^(64-s)<2^(64-s):=Nat.mod_lt _ (Nat.pow_pos (by omega))
  have:(x%2^(64-s)+1)*2^s≤2^(64-s)*2^s:=Nat.mul_le_mul_right _ hm
  rw [← W64_pow (by omega),Nat.add_mul,Nat.one_mul] at this
  omega
 have hhi:x/2^(64-s)<aD:=Nat.lt_of_le_of_lt (Nat.div_le_self _ _) hxl
 have hh2:=hi_lt (s:=s) (by omega) hxl
 refine ⟨⟨(h1.set (by rw [p1];exact hlow)).set hhi,by simp [h2],?_,?_⟩,hcl,hlow,hhi⟩
 ·rw [aF _ _ _ (by simp;omega),List.take_set_of_le (Nat.le_refl _),List.getElem_set_self,aF _ _ _ (by simp;omega),List.take_set_of_le (Nat.le_refl _),List.getElem_set_self,
   aF _ _ _ hk,ex]
  rw [aF _ _ _ hkz,ez] at h3
  rw [Nat.pow_succ,Nat.add_mul]
  generalize aD^k=P at *
  generalize 2^s=S at *
  have e:x*S=x*S%aD+aD*(x/2^(64-s)):=p2.symm
  generalize x*S%aD=lo at *
  generalize x/2^(64-s)=hi at *
  generalize aD=V at *
  have:P*x*S=P*(x*S):=by grind
  rw [this,e]
  grind
 ·rw [List.getD,List.getElem?_set_self (by simp;omega)]
  exact hh2
theorem UpInv.finish {xs zs:List Nat} {s:Nat} (h:UpInv xs zs s xs.length):val aD zs=val aD xs*2^s:=by
 obtain ⟨_,h2,h3,_⟩:=h
 rwa [List.take_of_length_le (by omega),List.take_of_length_le (Nat.le_refl _)] at h3
def DownInv (xs zs:List Nat) (s k:Nat):Prop :=
 Dig aD zs∧zs.length=xs.length∧val aD (zs.take k)=val aD (xs.take k)/2^s∧(0<k→zs.getD (k-1) 0<2^(64-s))
theorem DownInv.start (xs:List Nat) (s:Nat):DownInv xs (List.replicate xs.length 0) s 0 :=
 ⟨Dig.replicate bD _,by simp,by simp [val],fun h=>absurd h (by omega)⟩
theorem down_lt {x s:Nat} (hs:s≤63) (hx:x<aD):x/2^s<2^(64-s):=by
 rw [Nat.div_lt_iff_lt_mul (Nat.pow_pos (by omega)),← W64_pow (by omega)]
 exact hx
theorem DownInv.first {xs zs:List Nat} {s x:Nat} (h:DownInv xs zs s 0) (hs:s≤63) (hx:xs[0]?=some x) (hd:Dig aD xs):DownInv xs (zs.set 0 (x/2^s)) s 1:=by
 obtain ⟨h1,h2,_,_⟩:=h
 obtain ⟨hk,ex⟩:=List.getElem?_eq_some_iff.1 hx
 have hxl:=hd.at_ hx
 refine ⟨h1.set (Nat.lt_of_le_of_lt (Nat.div_le_self _ _) hxl),by simp [h2],?_,fun _=>?_⟩
 ·rw [aF _ _ _ (by simp;omega),aF _ _ _ hk,ex]
  simp [val]
 ·rw [List.getD,List.getElem?_set_self (by omega)]
  exact down_lt hs hxl
theorem DownInv.step {xs zs:List Nat} {s k x c:Nat} (h:DownInv xs zs s (k+1)) (hs:s≤63) (hx:xs[k+1]?=some x) (hd:Dig aD xs) (hc:zs[k]?=some c) :
 DownInv xs ((zs.set (k+1) (x/2^s)).set k (c+x*2^(64-s)%aD)) s (k+2)∧c<2^(64-s)∧x%2^s*2^(64-s)+c<aD:=by
 obtain ⟨h1,h2,h3,h4⟩:=h
 obtain ⟨hk,ex⟩:=List.getElem?_eq_some_iff.1 hx
 obtain ⟨hkz,ez⟩:=List.getElem?_eq_some_iff.1 hc
 have hcl:c<2^(64-s):=by have:=h4 (by omega);rw [show k+1-1=k from by omega,List.getD,hc] at this;exact this
 have hxl:=hd.at_ hx
 have hW:aD=2^s*2^(64-s):=by rw [Nat.mul_comm];exact W64_pow (by omega)
 have p1:x*2^(64-s)%aD=x%2^s*2^(64-s):=by rw [hW,Nat.mul_mod_mul_right]
 have hlow:x%2^s*2^(64-s)+c<aD:=by
  have hm:x%2^s<2^s:=Nat.mod_lt _ (Nat.pow_pos (by omega))
  have:(x%2^s+1)*2^(64-s)≤2^s*2^(64-s):=Nat.mul_le_mul_right _ hm
  rw [← hW,Nat.add_mul,Nat.one_mul] at this
  omega
 refine ⟨⟨(h1.set (Nat.lt_of_le_of_lt (Nat.div_le_self _ _) hxl)).set (by rw [p1];omega),by simp [h2],?_,fun _=>?_⟩,hcl,hlow⟩
 ·rw [aF _ _ _ (by simp;omega),List.getElem_set_ne (by omega),List.getElem_set_self,aF _ _ _ (by simp;omega),List.take_set_of_le (Nat.le_refl _),List.take_set_of_le (by omega),List.getElem_set_self,
   aF _ _ _ hk,ex,p1]
  rw [aF _ _ _ hkz,ez] at h3
  have hS:0<2^s:=Nat.pow_pos (by omega)
  have hx2:=Nat.div_add_mod x (2^s)
  have e:aD^(k+1)*x=2^s*(aD^k*(x%2^s*2^(64-s)+aD*(x/2^s))):=by
   rw [Nat.pow_succ]
   generalize x/2^s=q at *
   generalize x%2^s=r at *
   rw [← hx2,hW]
   generalize 2^(64-s)=T at *
   generalize 2^s=S at *
   generalize (S*T)^k=P at *
   grind
  rw [e,Nat.add_mul_div_left _ _ hS,← h3,Nat.pow_succ]
  generalize aD^k=P at *
  generalize aD=V at *
  grind
 ·rw [show k+2-1=k+1 from by omega,List.getD,List.getElem?_set_ne (by omega),List.getElem?_set_self (by omega)]
  exact down_lt hs hxl
end Go.Proofs.YtofcdondmgojiaaGreatDoor
namespace Go.Proofs.YtofcdondmgojiaaGreatDoor
open Go.RowKit Pl
set_option maxHeartbeats 4000000 in
set_option maxRecDepth 100000 in
theorem div64_core (hi lo y s Y H U L u1 u0 v1 v0 q p r Q R Q0 R0 A A2 B q' p' r' C C2 D D2 E F:Nat) (w:World) (h1:0<hi) (h2:hi<y) (h3:y≤18446744073709551615) (_h4:lo≤18446744073709551615)
 (hs:Hid ((64:Int)-Lib.bitLen y=s)) (hs' : s≤63)
 (e1:IntKind.u64.wrap ((y:Int)*2^s)=(Y:Int)) (e2:(Y:Int)/4294967296=(v1:Int)) (e3:bits .and .u64 (Y:Int) 4294967295=(v0:Int))
 (e4:IntKind.u64.wrap ((hi:Int)*2^s)=(H:Int)) (e5:bits .or .u64 (H:Int) ((lo:Int)/2^(64-s))=(U:Int)) (e6:IntKind.u64.wrap ((lo:Int)*2^s)=(L:Int))
 (e7:(L:Int)/4294967296=(u1:Int)) (e8:bits .and .u64 (L:Int) 4294967295=(u0:Int)) (e9:(U:Int).tdiv v1=q) (e9' : (U:Int)/v1=q) (e10:(q:Int)*v1=p) (e11:(U:Int)-p=r)
 (hh:Hid (Half U u1 Y v1 v0 Q∧Half R u0 Y v1 v0 Q0∧q*v1+r=U∧q=U/v1∧q'*v1+r'=R∧q'=R/v1∧r<4294967296∧r'<4294967296))
 (k1:IntKind.u64.wrap ((U:Int)*4294967296)=A) (k2:IntKind.u64.wrap ((A:Int)+u1)=A2) (k3:IntKind.u64.wrap ((Q:Int)*Y)=B) (k4:IntKind.u64.wrap ((A2:Int)-B)=R)
 (k5:(R:Int).tdiv v1=q') (k5' : (R:Int)/v1=q') (k6:(q' : Int)*v1=p') (k7:(R:Int)-p'=r')
 (k8:IntKind.u64.wrap ((Q:Int)*4294967296)=C) (k9:IntKind.u64.wrap ((C:Int)+Q0)=C2) (k10:IntKind.u64.wrap ((R:Int)*4294967296)=D) (k11:IntKind.u64.wrap ((D:Int)+u0)=D2)
 (k12:IntKind.u64.wrap ((Q0:Int)*Y)=E) (k13:IntKind.u64.wrap ((D2:Int)-E)=R0) (k14:(R0:Int)/2^s=F)
 (b1:0<v1) (b2:v1≤4294967295) (b3:U≤18446744073709551615) (b4:R≤18446744073709551615) (b5:u1≤4294967295) (b6:u0≤4294967295) (b7:v0≤4294967295) (b8:q≤4294967297) (b9:q'≤4294967297) (_b10:p≤U) (_b11:p'≤R) (b12:Q≤4294967295) (b13:Q0≤4294967295) :
 Calls Tryz.prog 231 #[.int .u64 (hi:Int),.int .u64 (lo:Int),.int .u64 (y:Int)] w fun e w'=>Hid (e = .returned (.tuple #[.int .u64 (C2:Int),.int .u64 (F:Int)]))∧∃ k,w'=w.drewN k:=by
 have cl:=Lib.hid (Tryz.bits_LeadingZeros64 (y:Int) w (by omega) (by omega))
 have t1:((y:Int)==0)=false:=by simp;omega
 have t2:¬ ((y:Int)≤hi):=by omega
 have t3:((hi:Int)==0)=false:=by simp;omega
 go_enter Tryz.func231,Tryz.ntmps231
 go_wp2_with (go_at_call 228;refine (cl.out).mono ?_;rintro e w' ⟨rfl,hw⟩;rw [hw];rw [Int.toNat_natCast,hs.out])
 go_loop [15,16] (fun sa sb => ∃ a b:Nat,sa = .int .u64 (a:Int)∧sb = .int .u64 (b:Int)∧Hid (a*v1+b=U)∧Q≤a∧a≤4294967297∧b≤4294967295) (fun sa _=>(intOf sa).toNat)
 case atStart =>
  have hf:=hh.out.1
  refine ⟨q,r,rfl,rfl,hh.out.2.2.1,?_,by omega,?_⟩
  ·have:=hf.le_guess
   have e:=hh.out.2.2.2.1
   omega
  ·have:=hh.out.2.2.2.2.2.2
   omega
 case round =>
  obtain ⟨a,b,rfl,rfl,hab,ha1,ha2,hb1⟩:=hrel
  obtain ⟨m,hm⟩:∃ m:Nat,(a:Int)*v0=m:=⟨a*v0,by simp⟩
  have hiff:Hid (a≤Q↔m≤4294967296*b+u1):=by
   have:=(hh.out.1).le_iff hab.out
   have e:m=a*v0:=by have:=hm;rw [← Int.natCast_mul] at this;omega
   rw [e];exact this
  have hm2:a≤4294967295→m≤18446744073709551615:=by
   intro h
   have e:m=a*v0:=by have:=hm;rw [← Int.natCast_mul] at this;omega
   have:a*v0≤4294967295*4294967295:=Nat.mul_le_mul h b7
   omega
  by_cases hex:a≤4294967295∧m≤4294967296*b+u1
  ·obtain ⟨hx1,hx2⟩:=hex
   have hm3:=hm2 hx1
   obtain rfl:a=Q:=by have:=hiff.out.2 hx2;omega
   have hx2' : ¬ (4294967296*(b:Int)+u1<(m:Int)):=by omega
   have hx1' : ¬ (4294967296:Int)≤(a:Int):=by omega
   clear hm2 hiff hab hx2 hx1 ha1 ha2
   go_wp2
   go_loop [18,16] (fun sa sb => ∃ a b:Nat,sa = .int .u64 (a:Int)∧sb = .int .u64 (b:Int)∧Hid (a*v1+b=R)∧Q0≤a∧a≤4294967297∧b≤4294967295) (fun sa _=>(intOf sa).toNat)
   case atStart =>
    have hf:=hh.out.2.1
    refine ⟨q',r',rfl,rfl,hh.out.2.2.2.2.1,?_,by omega,?_⟩
    ·have:=hf.le_guess
     have e:=hh.out.2.2.2.2.2.1
     omega
    ·have:=hh.out.2.2.2.2.2.2
     omega
   case round =>
    obtain ⟨a,b,rfl,rfl,hab,ha1,ha2,hb1⟩:=hrel
    obtain ⟨m,hm⟩:∃ m:Nat,(a:Int)*v0=m:=⟨a*v0,by simp⟩
    have hiff:Hid (a≤Q0↔m≤4294967296*b+u0):=by
     have:=(hh.out.2.1).le_iff hab.out
     have e:m=a*v0:=by have:=hm;rw [← Int.natCast_mul] at this;omega
     rw [e];exact this
    have hm2:a≤4294967295→m≤18446744073709551615:=by
     intro h
     have e:m=a*v0:=by have:=hm;rw [← Int.natCast_mul] at this;omega
     have:a*v0≤4294967295*4294967295:=Nat.mul_le_mul h b7
     omega
    by_cases hex:a≤4294967295∧m≤4294967296*b+u0
    ·obtain ⟨hx1,hx2⟩:=hex
     have hm3:=hm2 hx1
     obtain rfl:a=Q0:=by have:=hiff.out.2 hx2;omega
     have hx2' : ¬ (4294967296*(b:Int)+u0<(m:Int)):=by omega
     have hx1' : ¬ (4294967296:Int)≤(a:Int):=by omega
     clear hm2 hiff hab hx2 hx1 ha1 ha2
     go_wp2
     go_ret2
     exact ⟨rfl,0,rfl⟩
    ·have hgt:Q0+1≤a:=by
      rcases Nat.lt_or_ge Q0 a with h|h
      ·exact h
      ·exfalso
       apply hex
       exact ⟨by omega,hiff.out.1 h⟩
     obtain ⟨a,rfl⟩:∃ k,a=k+1:=⟨a-1,by omega⟩
     have hab2:Hid (a*v1+(b+v1)=R):=by
      have:=hab.out
      have e:(a+1)*v1=a*v1+v1:=by rw [Nat.add_mul,Nat.one_mul]
      unfold Hid
      omega
     simp only [Int.natCast_add,Int.natCast_one] at hm ⊢
     by_cases hbk:4294967296≤b+v1
     ·obtain rfl:a=Q0:=(hh.out.2.1).done hab2.out (by omega) (by omega) hbk
      clear hiff hab hab2
      by_cases hx:4294967296≤a+1
      ·have hx' : (4294967296:Int)≤(a:Int)+1:=by omega
       have hbk' : (4294967296:Int)≤(b:Int)+v1:=by omega
       clear hm2 hm hex hx hbk
       go_wp2
       go_ret2
       exact ⟨rfl,0,rfl⟩
      ·have hm3:=hm2 (by omega)
       have hx2:¬ (m≤4294967296*b+u0):=fun h=>hex ⟨by omega,h⟩
       have hx' : ¬ (4294967296:Int)≤(a:Int)+1:=by omega
       have hx2' : 4294967296*(b:Int)+u0<(m:Int):=by omega
       have hbk' : (4294967296:Int)≤(b:Int)+v1:=by omega
       clear hm2 hex hx hx2 hbk
       go_wp2
       go_ret2
       exact ⟨rfl,0,rfl⟩
     ·by_cases hx:4294967296≤a+1
      ·have hx' : (4294967296:Int)≤(a:Int)+1:=by omega
       have hbk' : ¬ (4294967296:Int)≤(b:Int)+v1:=by omega
       have HB:=Lib.hid hbk
       clear hm2 hm hex hiff hx hbk
       go_wp2
       go_round
       case rel=>exact ⟨a,b+v1,rfl,by go_num,hab2,by omega,by omega,by omega⟩
       case measure=>simp [intOf]
      ·have hm3:=hm2 (by omega)
       have hx2:¬ (m≤4294967296*b+u0):=fun h=>hex ⟨by omega,h⟩
       have hx' : ¬ (4294967296:Int)≤(a:Int)+1:=by omega
       have hx2' : 4294967296*(b:Int)+u0<(m:Int):=by omega
       have hbk' : ¬ (4294967296:Int)≤(b:Int)+v1:=by omega
       have HB:=Lib.hid hbk
       clear hm2 hex hiff hx hx2 hbk
       go_wp2
       go_round
       case rel=>exact ⟨a,b+v1,rfl,by go_num,hab2,by omega,by omega,by omega⟩
       case measure=>simp [intOf]
  ·have hgt:Q+1≤a:=by
    rcases Nat.lt_or_ge Q a with h|h
    ·exact h
    ·exfalso
     apply hex
     exact ⟨by omega,hiff.out.1 h⟩
   obtain ⟨a,rfl⟩:∃ k,a=k+1:=⟨a-1,by omega⟩
   have hab2:Hid (a*v1+(b+v1)=U):=by
    have:=hab.out
    have e:(a+1)*v1=a*v1+v1:=by rw [Nat.add_mul,Nat.one_mul]
    unfold Hid
    omega
   simp only [Int.natCast_add,Int.natCast_one] at hm ⊢
   by_cases hbk:4294967296≤b+v1
   ·obtain rfl:a=Q:=(hh.out.1).done hab2.out (by omega) (by omega) hbk
    clear hiff hab hab2
    by_cases hx:4294967296≤a+1
    ·have hx' : (4294967296:Int)≤(a:Int)+1:=by omega
     have hbk' : (4294967296:Int)≤(b:Int)+v1:=by omega
     clear hm2 hm hex hx hbk
     go_wp2
     go_loop [18,16] (fun sa sb => ∃ a b:Nat,sa = .int .u64 (a:Int)∧sb = .int .u64 (b:Int)∧Hid (a*v1+b=R)∧Q0≤a∧a≤4294967297∧b≤4294967295) (fun sa _=>(intOf sa).toNat)
     case atStart =>
      have hf:=hh.out.2.1
      refine ⟨q',r',rfl,rfl,hh.out.2.2.2.2.1,?_,by omega,?_⟩
      ·have:=hf.le_guess
       have e:=hh.out.2.2.2.2.2.1
       omega
      ·have:=hh.out.2.2.2.2.2.2
       omega
     case round =>
      obtain ⟨a,b,rfl,rfl,hab,ha1,ha2,hb1⟩:=hrel
      obtain ⟨m,hm⟩:∃ m:Nat,(a:Int)*v0=m:=⟨a*v0,by simp⟩
      have hiff:Hid (a≤Q0↔m≤4294967296*b+u0):=by
       have:=(hh.out.2.1).le_iff hab.out
       have e:m=a*v0:=by have:=hm;rw [← Int.natCast_mul] at this;omega
       rw [e];exact this
      have hm2:a≤4294967295→m≤18446744073709551615:=by
       intro h
       have e:m=a*v0:=by have:=hm;rw [← Int.natCast_mul] at this;omega
       have:a*v0≤4294967295*4294967295:=Nat.mul_le_mul h b7
       omega
      by_cases hex:a≤4294967295∧m≤4294967296*b+u0
      ·obtain ⟨hx1,hx2⟩:=hex
       have hm3:=hm2 hx1
       obtain rfl:a=Q0:=by have:=hiff.out.2 hx2;omega
       have hx2' : ¬ (4294967296*(b:Int)+u0<(m:Int)):=by omega
       have hx1' : ¬ (4294967296:Int)≤(a:Int):=by omega
       clear hm2 hiff hab hx2 hx1 ha1 ha2
       go_wp2
       go_ret2
       exact ⟨rfl,0,rfl⟩
      ·have hgt:Q0+1≤a:=by
        rcases Nat.lt_or_ge Q0 a with h|h
        ·exact h
        ·exfalso
         apply hex
         exact ⟨by omega,hiff.out.1 h⟩
       obtain ⟨a,rfl⟩:∃ k,a=k+1:=⟨a-1,by omega⟩
       have hab2:Hid (a*v1+(b+v1)=R):=by
        have:=hab.out
        have e:(a+1)*v1=a*v1+v1:=by rw [Nat.add_mul,Nat.one_mul]
        unfold Hid
        omega
       simp only [Int.natCast_add,Int.natCast_one] at hm ⊢
       by_cases hbk:4294967296≤b+v1
       ·obtain rfl:a=Q0:=(hh.out.2.1).done hab2.out (by omega) (by omega) hbk
        clear hiff hab hab2
        by_cases hx:4294967296≤a+1
        ·have hx' : (4294967296:Int)≤(a:Int)+1:=by omega
         have hbk' : (4294967296:Int)≤(b:Int)+v1:=by omega
         clear hm2 hm hex hx hbk
         go_wp2
         go_ret2
         exact ⟨rfl,0,rfl⟩
        ·have hm3:=hm2 (by omega)
         have hx2:¬ (m≤4294967296*b+u0):=fun h=>hex ⟨by omega,h⟩
         have hx' : ¬ (4294967296:Int)≤(a:Int)+1:=by omega
         have hx2' : 4294967296*(b:Int)+u0<(m:Int):=by omega
         have hbk' : (4294967296:Int)≤(b:Int)+v1:=by omega
         clear hm2 hex hx hx2 hbk
         go_wp2
         go_ret2
         exact ⟨rfl,0,rfl⟩
       ·by_cases hx:4294967296≤a+1
        ·have hx' : (4294967296:Int)≤(a:Int)+1:=by omega
         have hbk' : ¬ (4294967296:Int)≤(b:Int)+v1:=by omega
         have HB:=Lib.hid hbk
         clear hm2 hm hex hiff hx hbk
         go_wp2
         go_round
         case rel=>exact ⟨a,b+v1,rfl,by go_num,hab2,by omega,by omega,by omega⟩
         case measure=>simp [intOf]
        ·have hm3:=hm2 (by omega)
         have hx2:¬ (m≤4294967296*b+u0):=fun h=>hex ⟨by omega,h⟩
         have hx' : ¬ (4294967296:Int)≤(a:Int)+1:=by omega
         have hx2' : 4294967296*(b:Int)+u0<(m:Int):=by omega
         have hbk' : ¬ (4294967296:Int)≤(b:Int)+v1:=by omega
         have HB:=Lib.hid hbk
         clear hm2 hex hiff hx hx2 hbk
         go_wp2
         go_round
         case rel=>exact ⟨a,b+v1,rfl,by go_num,hab2,by omega,by omega,by omega⟩
         case measure=>simp [intOf]
    ·have hm3:=hm2 (by omega)
     have hx2:¬ (m≤4294967296*b+u1):=fun h=>hex ⟨by omega,h⟩
     have hx' : ¬ (4294967296:Int)≤(a:Int)+1:=by omega
     have hx2' : 4294967296*(b:Int)+u1<(m:Int):=by omega
     have hbk' : (4294967296:Int)≤(b:Int)+v1:=by omega
     clear hm2 hex hx hx2 hbk
     go_wp2
     go_loop [18,16] (fun sa sb => ∃ a b:Nat,sa = .int .u64 (a:Int)∧sb = .int .u64 (b:Int)∧Hid (a*v1+b=R)∧Q0≤a∧a≤4294967297∧b≤4294967295) (fun sa _=>(intOf sa).toNat)
     case atStart =>
      have hf:=hh.out.2.1
      refine ⟨q',r',rfl,rfl,hh.out.2.2.2.2.1,?_,by omega,?_⟩
      ·have:=hf.le_guess
       have e:=hh.out.2.2.2.2.2.1
       omega
      ·have:=hh.out.2.2.2.2.2.2
       omega
     case round =>
      obtain ⟨a,b,rfl,rfl,hab,ha1,ha2,hb1⟩:=hrel
      obtain ⟨m,hm⟩:∃ m:Nat,(a:Int)*v0=m:=⟨a*v0,by simp⟩
      have hiff:Hid (a≤Q0↔m≤4294967296*b+u0):=by
       have:=(hh.out.2.1).le_iff hab.out
       have e:m=a*v0:=by have:=hm;rw [← Int.natCast_mul] at this;omega
       rw [e];exact this
      have hm2:a≤4294967295→m≤18446744073709551615:=by
       intro h
       have e:m=a*v0:=by have:=hm;rw [← Int.natCast_mul] at this;omega
       have:a*v0≤4294967295*4294967295:=Nat.mul_le_mul h b7
       omega
      by_cases hex:a≤4294967295∧m≤4294967296*b+u0
      ·obtain ⟨hx1,hx2⟩:=hex
       have hm3:=hm2 hx1
       obtain rfl:a=Q0:=by have:=hiff.out.2 hx2;omega
       have hx2' : ¬ (4294967296*(b:Int)+u0<(m:Int)):=by omega
       have hx1' : ¬ (4294967296:Int)≤(a:Int):=by omega
       clear hm2 hiff hab hx2 hx1 ha1 ha2
       go_wp2
       go_ret2
       exact ⟨rfl,0,rfl⟩
      ·have hgt:Q0+1≤a:=by
        rcases Nat.lt_or_ge Q0 a with h|h
        ·exact h
        ·exfalso
         apply hex
         exact ⟨by omega,hiff.out.1 h⟩
       obtain ⟨a,rfl⟩:∃ k,a=k+1:=⟨a-1,by omega⟩
       have hab2:Hid (a*v1+(b+v1)=R):=by
        have:=hab.out
        have e:(a+1)*v1=a*v1+v1:=by rw [Nat.add_mul,Nat.one_mul]
        unfold Hid
        omega
       simp only [Int.natCast_add,Int.natCast_one] at hm ⊢
       by_cases hbk:4294967296≤b+v1
       ·obtain rfl:a=Q0:=(hh.out.2.1).done hab2.out (by omega) (by omega) hbk
        clear hiff hab hab2
        by_cases hx:4294967296≤a+1
        ·have hx' : (4294967296:Int)≤(a:Int)+1:=by omega
         have hbk' : (4294967296:Int)≤(b:Int)+v1:=by omega
         clear hm2 hm hex hx hbk
         go_wp2
         go_ret2
         exact ⟨rfl,0,rfl⟩
        ·have hm3:=hm2 (by omega)
         have hx2:¬ (m≤4294967296*b+u0):=fun h=>hex ⟨by omega,h⟩
         have hx' : ¬ (4294967296:Int)≤(a:Int)+1:=by omega
         have hx2' : 4294967296*(b:Int)+u0<(m:Int):=by omega
         have hbk' : (4294967296:Int)≤(b:Int)+v1:=by omega
         clear hm2 hex hx hx2 hbk
         go_wp2
         go_ret2
         exact ⟨rfl,0,rfl⟩
       ·by_cases hx:4294967296≤a+1
        ·have hx' : (4294967296:Int)≤(a:Int)+1:=by omega
         have hbk' : ¬ (4294967296:Int)≤(b:Int)+v1:=by omega
         have HB:=Lib.hid hbk
         clear hm2 hm hex hiff hx hbk
         go_wp2
         go_round
         case rel=>exact ⟨a,b+v1,rfl,by go_num,hab2,by omega,by omega,by omega⟩
         case measure=>simp [intOf]
        ·have hm3:=hm2 (by omega)
         have hx2:¬ (m≤4294967296*b+u0):=fun h=>hex ⟨by omega,h⟩
         have hx' : ¬ (4294967296:Int)≤(a:Int)+1:=by omega
         have hx2' : 4294967296*(b:Int)+u0<(m:Int):=by omega
         have hbk' : ¬ (4294967296:Int)≤(b:Int)+v1:=by omega
         have HB:=Lib.hid hbk
         clear hm2 hex hiff hx hx2 hbk
         go_wp2
         go_round
         case rel=>exact ⟨a,b+v1,rfl,by go_num,hab2,by omega,by omega,by omega⟩
         case measure=>simp [intOf]
   ·by_cases hx:4294967296≤a+1
    ·have hx' : (4294967296:Int)≤(a:Int)+1:=by omega
     have hbk' : ¬ (4294967296:Int)≤(b:Int)+v1:=by omega
     have HB:=Lib.hid hbk
     clear hm2 hm hex hiff hx hbk
     go_wp2
     go_round
     case rel=>exact ⟨a,b+v1,rfl,by go_num,hab2,by omega,by omega,by omega⟩
     case measure=>simp [intOf]
    ·have hm3:=hm2 (by omega)
     have hx2:¬ (m≤4294967296*b+u1):=fun h=>hex ⟨by omega,h⟩
     have hx' : ¬ (4294967296:Int)≤(a:Int)+1:=by omega
     have hx2' : 4294967296*(b:Int)+u1<(m:Int):=by omega
     have hbk' : ¬ (4294967296:Int)≤(b:Int)+v1:=by omega
     have HB:=Lib.hid hbk
     clear hm2 hex hiff hx hx2 hbk
     go_wp2
     go_round
     case rel=>exact ⟨a,b+v1,rfl,by go_num,hab2,by omega,by omega,by omega⟩
     case measure=>simp [intOf]
theorem div64_small (lo y:Nat) (w:World) (h2:0<y) (h3:y≤18446744073709551615) (h4:lo≤18446744073709551615) :
 Calls Tryz.prog 231 #[.int .u64 0,.int .u64 (lo:Int),.int .u64 (y:Int)] w fun e w'=>Hid (e = .returned (.tuple #[.int .u64 ((lo/y:Nat):Int),.int .u64 ((lo%y:Nat):Int)]))∧∃ k,w'=w.drewN k:=by
 have t1:((y:Int)==0)=false:=by simp;omega
 have t2:¬ ((y:Int)≤0):=by omega
 obtain ⟨a,ha⟩:∃ a:Nat,a=lo/y:=⟨_,rfl⟩
 obtain ⟨b,hb⟩:∃ b:Nat,b=lo%y:=⟨_,rfl⟩
 have la:a≤lo:=by rw [ha];exact Nat.div_le_self _ _
 have lb:b≤lo:=by rw [hb];exact Nat.mod_le _ _
 have e1:(lo:Int).tdiv y=a:=by rw [ha,Int.tdiv_eq_ediv_of_nonneg (by omega),Int.natCast_ediv]
 have e2:(lo:Int).tmod y=b:=by rw [hb,Int.tmod_eq_emod_of_nonneg (by omega),Int.natCast_emod]
 have e3:(lo:Int)/y=a:=by rw [ha,Int.natCast_ediv]
 have e4:(lo:Int)%y=b:=by rw [hb,Int.natCast_emod]
 rw [← ha,← hb]
 clear ha hb
 go_enter Tryz.func231,Tryz.ntmps231
 go_wp2
 go_quiet (fail)
 go_wp2
 go_ret2
 exact ⟨rfl,_,rfl⟩
theorem norm_shift (y:Nat) (h0:0<y) (h1:y<aD):∃ s:Nat,s≤63∧(64:Int)-Lib.bitLen y=s∧9223372036854775808≤y*2^s∧y*2^s<aD:=by
 have hb:=Lib.bitLenAux_bounds 64 y (by rw [← show aD=2^64 from rfl];exact h1) (by omega)
 have hl:=Lib.bitLen_le y 64 (Nat.le_refl _) (by rw [← show aD=2^64 from rfl];exact h1)
 obtain ⟨b1,b2,b3⟩:=hb
 unfold Lib.bitLen at *
 generalize Lib.bitLenAux 64 y=l at *
 refine ⟨64-l,by omega,by omega,?_,?_⟩
 ·have:2^(l-1)*2^(64-l)≤y*2^(64-l):=Nat.mul_le_mul_right _ b2
  rw [← Nat.pow_add,show l-1+(64-l)=63 from by omega] at this
  exact this
 ·have:y*2^(64-l)<2^l*2^(64-l):=Nat.mul_lt_mul_of_pos_right b3 (Nat.pow_pos (by omega))
  rw [← Nat.pow_add,show l+(64-l)=64 from by omega] at this
  exact this
theorem div64_any (hi lo y:Nat) (w:World) (h2:hi<y) (h3:y<aD) (h4:lo<aD) :
 Calls Tryz.prog 231 #[.int .u64 (hi:Int),.int .u64 (lo:Int),.int .u64 (y:Int)] w fun e w' =>
  Hid (e = .returned (.tuple #[.int .u64 (((hi*aD+lo)/y:Nat):Int),.int .u64 (((hi*aD+lo)%y:Nat):Int)]))∧∃ k,w'=w.drewN k:=by
 have hW:=aH
 rcases Nat.eq_zero_or_pos hi with rfl|h1
 ·simpa using div64_small lo y w h2 (by omega) (by omega)
 ·obtain ⟨s,hs,hbl,n1,n2⟩:=norm_shift y (by omega) h3
  have hp:0<2^s:=Nat.pow_pos (by omega)
  have hT:aD=2^(64-s)*2^s:=W64_pow (by omega)
  obtain ⟨sh1,sh2⟩:=shl_parts (x:=lo) (s:=s) (by omega)
  have hLO:=hi_lt (s:=s) (by omega) h4
  obtain ⟨Y,hY⟩:∃ Y,Y=y*2^s:=⟨_,rfl⟩
  obtain ⟨H,hH⟩:∃ H,H=hi*2^s:=⟨_,rfl⟩
  obtain ⟨L,hL⟩:∃ L,L=lo*2^s%aD:=⟨_,rfl⟩
  obtain ⟨O,hO⟩:∃ O,O=lo/2^(64-s):=⟨_,rfl⟩
  have hLl:L<aD:=by rw [hL];exact Nat.mod_lt _ bD
  have hUY:H+O<Y:=by
   have:(hi+1)*2^s≤y*2^s:=Nat.mul_le_mul_right _ h2
   rw [Nat.add_mul,Nat.one_mul] at this
   rw [hY,hH,hO];omega
  have hN:(hi*aD+lo)*2^s=((H+O)*4294967296+L/4294967296)*4294967296+L%4294967296:=by
   have a1:=Nat.div_add_mod L 4294967296
   have a2:(hi*aD+lo)*2^s=H*aD+(L+aD*O):=by rw [hH,hL,hO,sh2];grind
   rw [a2,hW]
   omega
  have hY1:=Nat.div_add_mod Y 4294967296
  have hf:Half (H+O) (L/4294967296) Y (Y/4294967296) (Y%4294967296) (((H+O)*4294967296+L/4294967296)/Y) :=
   ⟨by omega,by omega,by omega,by omega,hUY,by omega,rfl⟩
  obtain ⟨R,hR1,hR2⟩:=hf.rest
  have hf0:Half R (L%4294967296) Y (Y/4294967296) (Y%4294967296) ((R*4294967296+L%4294967296)/Y) :=
   ⟨by omega,by omega,by omega,by omega,hR1,by omega,rfl⟩
  obtain ⟨R0,hR3,hR4⟩:=hf0.rest
  have hq:=hf.q_lt
  have hq0:=hf0.q_lt
  have hg1:=hf.guess_le
  have hg2:=hf0.guess_le
  obtain ⟨f1,f2⟩:=halves hN hY hR2 hR4 hR3
  obtain ⟨Q,hQ⟩:∃ Q,Q=((H+O)*4294967296+L/4294967296)/Y:=⟨_,rfl⟩
  obtain ⟨Q0,hQ0⟩:∃ Q0,Q0=(R*4294967296+L%4294967296)/Y:=⟨_,rfl⟩
  rw [← hQ] at hf hR2 hq f1
  rw [← hQ0] at hf0 hR4 hq0 f1
  obtain ⟨U,hU⟩:∃ U,U=H+O:=⟨_,rfl⟩
  rw [← hU] at hUY hN hf hR2 hg1 hQ
  have m1:U/(Y/4294967296)*(Y/4294967296)+U%(Y/4294967296)=U:=by rw [Nat.mul_comm];exact Nat.div_add_mod _ _
  have m2:R/(Y/4294967296)*(Y/4294967296)+R%(Y/4294967296)=R:=by rw [Nat.mul_comm];exact Nat.div_add_mod _ _
  have m3:=Nat.mod_lt U (y:=Y/4294967296) (by omega)
  have m4:=Nat.mod_lt R (y:=Y/4294967296) (by omega)
  obtain ⟨v1,hv1⟩:∃ v1,v1=Y/4294967296:=⟨_,rfl⟩
  obtain ⟨v0,hv0⟩:∃ v0,v0=Y%4294967296:=⟨_,rfl⟩
  obtain ⟨u1,hu1⟩:∃ u1,u1=L/4294967296:=⟨_,rfl⟩
  obtain ⟨u0,hu0⟩:∃ u0,u0=L%4294967296:=⟨_,rfl⟩
  rw [← hv1] at hf hf0 hg1 hg2 m1 m2 m3 m4
  rw [← hv0] at hf hf0
  rw [← hu1] at hf hR2 hQ hN
  rw [← hu0] at hf0 hR4 hQ0 hN
  have z1:U/v1*v1≤U:=Nat.div_mul_le_self _ _
  have z2:R/v1*v1≤R:=Nat.div_mul_le_self _ _
  rw [← f1,← f2]
  refine (div64_core hi lo y s Y H U L u1 u0 v1 v0 (U/v1) (U/v1*v1) (U%v1) Q R Q0 R0 (U*4294967296%aD) ((U*4294967296%aD+u1)%aD) (Q*Y%aD) (R/v1) (R/v1*v1) (R%v1)
   (Q*4294967296) (Q*4294967296+Q0) (R*4294967296%aD) ((R*4294967296%aD+u0)%aD) (Q0*Y%aD) (R0/2^s) w h1 h2 (by omega) (by omega) hbl hs ?_ ?_ ?_ ?_ ?_ ?_ ?_ ?_ ?_ ?_ ?_ ?_ ?_ ?_ ?_ ?_ ?_ ?_ ?_ ?_ ?_ ?_ ?_ ?_ ?_ ?_ ?_ ?_ ?_ ?_ ?_ ?_ ?_ ?_ ?_ ?_ ?_ ?_ ?_ ?_ ?_)
  ·rw [show (y:Int)*2^s=((y*2^s:Nat):Int) from by simp,wrap_nat _ (by omega),hY]
  ·rw [hv1];simp
  ·rw [hv0];exact and_half Y (by omega)
  ·rw [show (hi:Int)*2^s=((hi*2^s:Nat):Int) from by simp,wrap_nat _ (by omega),hH]
  ·rw [show (lo:Int)/2^(64-s)=((lo/2^(64-s):Nat):Int) from by simp,← hO,hU,hH]
   exact or_shift hi O s (by rw [hO];exact hLO) (by rw [← hH];omega)
  ·rw [show (lo:Int)*2^s=((lo*2^s:Nat):Int) from by simp,fT,hL,hW]
  ·rw [hu1];simp
  ·rw [hu0];exact and_half L (by omega)
  ·rw [Int.tdiv_eq_ediv_of_nonneg (by omega)];simp
  ·simp
  ·simp
  ·omega
  ·exact ⟨hf,hf0,by omega,rfl,by omega,rfl,by omega,by omega⟩
  ·rw [show (U:Int)*4294967296=((U*4294967296:Nat):Int) from by simp,fT,hW]
  ·rw [show ((U*4294967296%aD:Nat):Int)+u1=((U*4294967296%aD+u1:Nat):Int) from by simp,fT,hW]
  ·rw [show (Q:Int)*Y=((Q*Y:Nat):Int) from by simp,fT,hW]
  ·rw [IntKind.wrap_u64]
   rw [hW]
   generalize Q*Y=QY at *
   omega
  ·rw [Int.tdiv_eq_ediv_of_nonneg (by omega)];simp
  ·simp
  ·simp
  ·omega
  ·rw [show (Q:Int)*4294967296=((Q*4294967296:Nat):Int) from by simp,wrap_nat _ (by omega)]
  ·rw [show ((Q*4294967296:Nat):Int)+Q0=((Q*4294967296+Q0:Nat):Int) from by simp,wrap_nat _ (by omega)]
  ·rw [show (R:Int)*4294967296=((R*4294967296:Nat):Int) from by simp,fT,hW]
  ·rw [show ((R*4294967296%aD:Nat):Int)+u0=((R*4294967296%aD+u0:Nat):Int) from by simp,fT,hW]
  ·rw [show (Q0:Int)*Y=((Q0*Y:Nat):Int) from by simp,fT,hW]
  ·rw [IntKind.wrap_u64]
   rw [hW]
   generalize Q0*Y=QY at *
   omega
  ·simp
  all_goals omega
theorem ret_two {a b c d:Value} (h:a=c) (h' : b=d):Ending.returned (.tuple #[a,b]) = .returned (.tuple #[c,d]):=by rw [h,h']
theorem val_u64 {a b:Nat} (h:a=b):Value.int .u64 (a:Int) = .int .u64 (b:Int):=by rw [h]
theorem div64_q (hi lo y q r:Nat) (w:World) (h2:hi<y) (h3:y<aD) (h4:lo<aD) (hq:q=(hi*aD+lo)/y) (hr:r=(hi*aD+lo)%y) :
 Calls Tryz.prog 231 #[.int .u64 (hi:Int),.int .u64 (lo:Int),.int .u64 (y:Int)] w fun e w'=>e = .returned (.tuple #[.int .u64 (q:Int),.int .u64 (r:Int)])∧∃ k,w'=w.drewN k:=by
 rw [hq,hr]
 exact div64_any hi lo y w h2 h3 h4
def DivInv (xs zs:List Nat) (d k r:Nat):Prop :=
 Dig aD zs∧zs.length=xs.length∧r<d∧val aD (zs.drop k)*d+r=val aD (xs.drop k)
theorem DivInv.step {xs zs:List Nat} {d k r x:Nat} (h:DivInv xs zs d (k+1) r) (hx:xs[k]?=some x) (hxs:Dig aD xs) :
 DivInv xs (zs.set k ((r*aD+x)/d)) d k ((r*aD+x)%d)∧(r*aD+x)/d<aD:=by
 obtain ⟨h1,h2,h3,h4⟩:=h
 obtain ⟨hk,ex⟩:=List.getElem?_eq_some_iff.1 hx
 have hxl:=hxs.at_ hx
 have hq:(r*aD+x)/d<aD:=by
  rw [Nat.div_lt_iff_lt_mul (by omega)]
  have:(r+1)*aD≤d*aD:=Nat.mul_le_mul_right _ h3
  rw [Nat.add_mul,Nat.one_mul] at this
  rw [Nat.mul_comm aD d]
  omega
 refine ⟨⟨h1.set hq,by simp [h2],Nat.mod_lt _ (by omega),?_⟩,hq⟩
 have e:(zs.set k ((r*aD+x)/d)).drop k=(r*aD+x)/d::zs.drop (k+1):=by
  rw [List.drop_eq_getElem_cons (by simp;omega),List.getElem_set_self,List.drop_set_of_lt (by omega)]
 rw [e,val_drop _ _ _ hk,ex]
 simp only [val]
 have:=Nat.div_add_mod (r*aD+x) d
 rw [← h4]
 generalize (r*aD+x)/d=q at *
 generalize (r*aD+x)%d=m at *
 clear hq h1 hxs hxl h3 e
 generalize aD=V at *
 grind
theorem DivInv.start (xs:List Nat) {d:Nat} (hd:0<d):DivInv xs (List.replicate xs.length 0) d xs.length 0 :=
 ⟨Dig.replicate bD _,by simp,hd,by simp [val]⟩
theorem DivInv.finish {xs zs:List Nat} {d r:Nat} (h:DivInv xs zs d 0 r):val aD zs=val aD xs/d∧r=val aD xs%d:=by
 obtain ⟨_,_,h3,h4⟩:=h
 simp only [List.drop_zero] at h4
 rw [← h4]
 constructor
 ·rw [Nat.add_comm,Nat.add_mul_div_right _ _ (by omega),Nat.div_eq_of_lt h3];omega
 ·rw [Nat.add_comm,Nat.add_mul_mod_self_right,Nat.mod_eq_of_lt h3]
theorem trimmed_own (ad:Addr) (n c:Nat) (xs:List Nat) (w:World) (h:Rd w (some ad) n c xs) (hd:Dig aD xs) :
 Calls Tryz.prog 158 #[.slice (some ad) n c] w fun e w'=>(∃ v,e = .returned v∧Nt w v (val aD xs)∧v.ownBlock=some ad.block)∧w=w':=by
 refine (trimmed_raw _ n c xs w h).mono ?_
 rintro e w' ⟨⟨k,⟨hk,hn,hv⟩,rfl⟩,rfl⟩
 exact ⟨⟨_,rfl,⟨_,k,c,xs.take k,rfl,h.take (by rw [← h.len];exact hk),hd.take k,hn,hv⟩,rfl⟩,rfl⟩
set_option maxHeartbeats 1000000 in
theorem divideWord_own (A:Option Addr) (n c:Nat) (xs:List Nat) (d:Nat) (w:World) (h:Rd w A n c xs) (hd:Dig aD xs) (hn:n≤2199023255552) (hd0:0<d) (hd1:d<aD) :
 Calls Tryz.prog 193 #[.slice A n c,.int .u64 (d:Int)] w fun e w' =>
  Hid (∃ v,e = .returned (.tuple #[v,.int .u64 ((val aD xs%d:Nat):Int)])∧Nt w' v (val aD xs/d)∧v.ownBlock=some w.heap.size)∧Below w.heap.size w w':=by
 have HX:=Lib.hid (And.intro h (And.intro hd (And.intro hd0 hd1)))
 have hnc:n≤c:=h.cap
 have hcm:c≤9223372036854775807:=h.2.2.1
 obtain ⟨i0,hi,hz0,hz1,hz2⟩:=info_parts eY
 have HI:=Lib.hid (And.intro hi (And.intro hz0 (And.intro hz1 hz2)))
 clear h hd hi hz0 hz1 hz2 hd0 hd1
 go_enter Tryz.func193,Tryz.ntmps193
 go_wp2_with (at_make;refine wpList_make_full _ rfl _ _ 102 rfl w.heap.size 151 i0 (.int .u64 0) 1 Tryz.underlying102 HI.out.1 HI.out.2.1 HI.out.2.2.1 _ _ _ _ n rfl rfl ?b0 ?b1 ?b2 ?b3 (Nat.le_refl _) ?_)
 case b0=>rfl
 case b1=>rfl
 case b2=>rw [HI.out.2.2.2];omega
 case b3=>show n≤9223372036854775807;omega
 intro w1 hown hg1
 have hb1:Below w.heap.size w w1:=(Below.refl _ _).grown hg1 (Nat.le_refl _) (fun k h=>by cases h)
 have hblk:=dV hown
 have e0:DivInv xs (List.replicate n 0) d n 0:=by
  have:=DivInv.start xs HX.out.2.2.1
  rwa [HX.out.1.len] at this
 have HB:=Lib.hid hblk
 have H0:=Lib.hid e0
 clear hown hg1 hblk e0
 obtain ⟨g,hg⟩:∃ g,g=w.heap.size:=⟨_,rfl⟩
 rw [← hg] at HB ⊢
 have HG:=Lib.hid hg
 clear hg
 go_wp2
 go_loopw [7,8] (fun rs i wr => ∃ (k r:Nat) (zs:List Nat),k≤n∧i = .int .i64 ((k:Int)-1)∧rs = .int .u64 (r:Int)∧DivInv xs zs d k r∧Blk wr g 151 zs∧Below w.heap.size w wr) (fun _ i _=>(intOf i+1).toNat)
 case atStart=>exact ⟨n,0,_,Nat.le_refl _,rfl,rfl,H0.out,HB.out,hb1⟩
 case round =>
  obtain ⟨k,r,zs,hk,rfl,rfl,hinv,hblk,hb⟩:=hrel
  have hzn:zs.length=n:=by rw [hinv.2.1,HX.out.1.len]
  rcases Nat.eq_zero_or_pos k with rfl|hk0
  ·have hrd:=hblk.rd (by rw [hzn];show n≤9223372036854775807;omega)
   rw [hzn] at hrd
   obtain ⟨f1,f2⟩:=hinv.finish
   have HF:=Lib.hid (And.intro hinv.1 (And.intro hrd (And.intro f1 f2)))
   clear hinv hblk hzn hrd f1 f2
   simp only [show (((0:Nat):Int)-1) = -1 from rfl]
   go_wp2_with (go_at_call 158;refine (trimmed_own _ _ _ zs _ HF.out.2.1 HF.out.1).mono ?_;rintro e w' ⟨⟨v,rfl,hv,hvo⟩,rfl⟩)
   go_ret2
   exact ⟨⟨v,ret_two rfl (val_u64 HF.out.2.2.2),by rw [← HF.out.2.2.1];exact hv,by rw [hvo,HG.out]⟩,hb⟩
  ·obtain ⟨m,rfl⟩:∃ m,k=m+1:=⟨k-1,by omega⟩
   obtain ⟨ad,x,hA,_,hx,hcx⟩:=(HX.out.1.below hb).at_ (k:=m) (by omega)
   subst hA
   obtain ⟨hst,hq⟩:=hinv.step hx HX.out.2.1
   obtain ⟨q,hqq⟩:∃ q,q=(r*aD+x)/d:=⟨_,rfl⟩
   obtain ⟨r',hr'⟩:∃ r',r'=(r*aD+x)%d:=⟨_,rfl⟩
   have hdiv:=Lib.hid (fun w=>div64_q r x d q r' w hinv.2.2.1 HX.out.2.2.2 (HX.out.2.1.at_ hx) hqq hr')
   rw [← hqq,← hr'] at hst
   have HE:=Lib.hid (And.intro hst (And.intro hblk hzn))
   clear hx hblk hinv hst hk0 hq hzn hqq hr'
   simp only [Int.natCast_add,Int.natCast_one,show ((m:Int)+1-1)=m from by omega]
   go_wp2_with fail
   refine (hdiv.out _).mono ?_
   rintro e w2 ⟨rfl,k2,hk2⟩
   have hb2:Below wr.heap.size wr w2:=by rw [hk2];exact cA (Below.refl _ _) _
   clear hk2
   have hblk2:Blk w2 g 151 zs:=HE.out.2.1.below hb2 HE.out.2.1.lt
   have hb3:Below w.heap.size w w2:=hb.trans (hb2.mono hb.size)
   have hzn:=HE.out.2.2
   obtain ⟨z,hcz⟩:∃ z:Int,w2.cell? ⟨g,m,none⟩=some (.int .u64 z):=⟨_,hblk2.cell_get (by omega)⟩
   have hfz:=hblk2.frozen m
   have HE2:=Lib.hid hblk2
   clear hblk2 hzn hcx hdiv hb hb2
   go_wp2
   go_roundw
   case rel=>exact ⟨m,r',zs.set m q,by omega,rfl,rfl,HE.out.1,HE2.out.set_ _ _,hb3.setCell (by rw [HG.out];exact Nat.le_refl _) _⟩
   case measure=>simp [intOf]
theorem divideWord_any (A:Option Addr) (n c:Nat) (xs:List Nat) (d:Nat) (w:World) (h:Rd w A n c xs) (hd:Dig aD xs) (hn:n≤2199023255552) (hd0:0<d) (hd1:d<aD) :
 Calls Tryz.prog 193 #[.slice A n c,.int .u64 (d:Int)] w fun e w' =>
  Hid (∃ v,e = .returned (.tuple #[v,.int .u64 ((val aD xs%d:Nat):Int)])∧Nt w' v (val aD xs/d))∧Below w.heap.size w w' :=
 (divideWord_own A n c xs d w h hd hn hd0 hd1).mono fun _ _ ⟨⟨v,h1,h2,_⟩,h3⟩=>⟨⟨v,h1,h2⟩,h3⟩
theorem or_low (a b s:Nat) (hb:b<2^s) (h:a*2^s+b<aD):bits .or .u64 (b:Int) ((a*2^s:Nat):Int)=((a*2^s+b:Nat):Int):=by
 have hW:=aH
 rw [bits_or_nat _ _ (by omega) (by omega),Nat.or_comm,Nat.mul_comm,Nat.two_pow_add_eq_or_of_lt hb]
set_option maxHeartbeats 1000000 in
theorem shiftedUp_any (A:Option Addr) (n c:Nat) (xs:List Nat) (s:Nat) (w:World) (h:Rd w A n c xs) (hd:Dig aD xs) (hn:n≤2199023255552) (hs:s≤63) :
 Calls Tryz.prog 232 #[.slice A n c,.int .u64 (s:Int)] w fun e w' =>
  Hid (∃ zs,e = .returned (.slice (some ⟨w.heap.size,0,none⟩) (n+1) (n+1))∧Blk w' w.heap.size 151 zs∧zs.length=n+1∧Dig aD zs∧val aD zs=val aD xs*2^s)∧Below w.heap.size w w':=by
 have HX:=Lib.hid (And.intro h hd)
 have hnc:n≤c:=h.cap
 have hcm:c≤9223372036854775807:=h.2.2.1
 obtain ⟨i0,hi,hz0,hz1,hz2⟩:=info_parts eY
 have HI:=Lib.hid (And.intro hi (And.intro hz0 (And.intro hz1 hz2)))
 clear h hd hi hz0 hz1 hz2
 obtain ⟨g,hg⟩:∃ g,g=w.heap.size:=⟨_,rfl⟩
 rw [← hg]
 have HG:=Lib.hid hg
 go_enter Tryz.func232,Tryz.ntmps232
 go_wp2_with (at_make;refine wpList_make_full _ rfl _ _ 102 rfl w.heap.size 151 i0 (.int .u64 0) 1 Tryz.underlying102 HI.out.1 HI.out.2.1 HI.out.2.2.1 _ _ _ _ (n+1) rfl rfl ?b0 ?b1 ?b2 ?b3 (Nat.le_refl _) ?_)
 case b0=>omega
 case b1=>omega
 case b2=>rw [HI.out.2.2.2];omega
 case b3=>show n+1≤9223372036854775807;omega
 intro w1 hown hg1
 have hb1:Below w.heap.size w w1:=(Below.refl _ _).grown hg1 (Nat.le_refl _) (fun k h=>by cases h)
 have hblk:=dV hown
 have e0:UpInv xs (List.replicate (n+1) 0) s 0:=by
  have:=UpInv.start xs s
  rwa [HX.out.1.len] at this
 have H0:=Lib.hid e0
 rw [← hg] at hblk hb1 ⊢
 have HB:=Lib.hid hblk
 clear hown hg1 hblk e0 hg
 go_wp2
 go_loopw [14] (fun i wr => ∃ (k:Nat) (zs:List Nat),k≤n∧i = .int .i64 (k:Int)∧UpInv xs zs s k∧Blk wr g 151 zs∧Below g w wr) (fun i _=>n-(intOf i).toNat)
 case atStart=>exact ⟨0,_,Nat.zero_le _,rfl,H0.out,HB.out,hb1⟩
 case round =>
  obtain ⟨k,zs,hk,rfl,hinv,hblk,hb⟩:=hrel
  have hzn:zs.length=n+1:=by rw [hinv.2.1,HX.out.1.len]
  have hgs:g<wr.heap.size:=hblk.lt
  by_cases hlt:k<n
  ·obtain ⟨ad,x,hA,hal,hx,hcx⟩:=(HX.out.1.below (by rw [← HG.out];exact hb)).at_ (k:=k) hlt
   subst hA
   obtain ⟨cc,hcc⟩:∃ cc,zs[k]?=some cc:=⟨_,List.getElem?_eq_getElem (by omega)⟩
   obtain ⟨hst,s1,s2,s3⟩:=hinv.step hs hx HX.out.2 hcc
   obtain ⟨p1,p2⟩:=shl_parts (x:=x) (s:=s) (by omega)
   have hcz:wr.cell? ⟨g,k,none⟩=some (.int .u64 (cc:Int)):=hblk.cell hcc
   have hfz:=hblk.frozen k
   have hfz1:=hblk.frozen (k+1)
   obtain ⟨z1,hcz1⟩:∃ z:Int,wr.cell? ⟨g,k+1,none⟩=some (.int .u64 z):=⟨_,hblk.cell_get (by omega)⟩
   obtain ⟨lo,hlo⟩:∃ lo,lo=x*2^s%aD:=⟨_,rfl⟩
   obtain ⟨hi,hhi⟩:∃ hi,hi=x/2^(64-s):=⟨_,rfl⟩
   have r1:IntKind.u64.wrap ((x:Int)*2^s)=(lo:Int):=by rw [show (x:Int)*2^s=((x*2^s:Nat):Int) from by simp,fT,hlo,aH]
   have r2:bits .or .u64 (cc:Int) (lo:Int)=((lo+cc:Nat):Int):=by rw [hlo,p1];exact or_low _ _ _ s1 s2
   obtain ⟨z,hz⟩:∃ z,z=lo+cc:=⟨_,rfl⟩
   rw [← hz] at r2
   have r3:(x:Int)/2^(64-s)=(hi:Int):=by rw [hhi];simp
   rw [← hlo,← hz,← hhi] at hst
   have HE:=Lib.hid (And.intro hst hblk)
   clear hx hblk hinv hst hcc s1 s2 s3 p1 p2 hlo hhi hz hzn
   go_wp2
   go_roundw
   case rel=>exact ⟨k+1,(zs.set k z).set (k+1) hi,by omega,by go_num,HE.out.1,(HE.out.2.set_ _ _).set_ _ _,(hb.setCell (Nat.le_refl _) _).setCell (Nat.le_refl _) _⟩
   case measure=>simp [intOf];omega
  ·obtain rfl:k=n:=by omega
   have hfin:=hinv
   rw [← HX.out.1.len] at hfin
   have HF:=Lib.hid (And.intro hinv.1 (And.intro hfin.finish (And.intro hzn hblk)))
   clear hinv hblk hzn hfin hlt
   go_wp2
   go_ret
   exact ⟨⟨zs,rfl,HF.out.2.2.2,HF.out.2.2.1,HF.out.1,HF.out.2.1⟩,hb⟩
theorem or_high (a b s:Nat) (hb:b<2^s) (h:a*2^s+b<aD):bits .or .u64 (b:Int) ((a*2^s:Nat):Int)=((b+a*2^s:Nat):Int):=by
 rw [or_low a b s hb h,Nat.add_comm]
set_option maxHeartbeats 1000000 in
theorem shiftedDown_any (A:Option Addr) (n c:Nat) (xs:List Nat) (s:Nat) (w:World) (h:Rd w A n c xs) (hd:Dig aD xs) (hn:n≤2199023255552) (hs:s≤63) :
 Calls Tryz.prog 234 #[.slice A n c,.int .u64 (s:Int)] w (GivesNt w (val aD xs/2^s)):=by
 have HX:=Lib.hid (And.intro h hd)
 have hnc:n≤c:=h.cap
 have hcm:c≤9223372036854775807:=h.2.2.1
 obtain ⟨i0,hi,hz0,hz1,hz2⟩:=info_parts eY
 have HI:=Lib.hid (And.intro hi (And.intro hz0 (And.intro hz1 hz2)))
 clear h hd hi hz0 hz1 hz2
 obtain ⟨g,hg⟩:∃ g,g=w.heap.size:=⟨_,rfl⟩
 have HG:=Lib.hid hg
 go_enter Tryz.func234,Tryz.ntmps234
 go_wp2_with (at_make;refine wpList_make_full _ rfl _ _ 102 rfl w.heap.size 151 i0 (.int .u64 0) 1 Tryz.underlying102 HI.out.1 HI.out.2.1 HI.out.2.2.1 _ _ _ _ n rfl rfl ?b0 ?b1 ?b2 ?b3 (Nat.le_refl _) ?_)
 case b0=>rfl
 case b1=>rfl
 case b2=>rw [HI.out.2.2.2];omega
 case b3=>show n≤9223372036854775807;omega
 intro w1 hown hg1
 have hb1:Below w.heap.size w w1:=(Below.refl _ _).grown hg1 (Nat.le_refl _) (fun k h=>by cases h)
 have hblk:=dV hown
 have e0:DownInv xs (List.replicate n 0) s 0:=by
  have:=DownInv.start xs s
  rwa [HX.out.1.len] at this
 have H0:=Lib.hid e0
 rw [← hg] at hblk hb1 ⊢
 have HB:=Lib.hid hblk
 clear hown hg1 hblk e0 hg
 go_wp2
 go_loopw [13] (fun i wr => ∃ (k:Nat) (zs:List Nat),k≤n∧i = .int .i64 (k:Int)∧DownInv xs zs s k∧Blk wr g 151 zs∧Below g w wr) (fun i _=>n-(intOf i).toNat)
 case atStart=>exact ⟨0,_,Nat.zero_le _,rfl,H0.out,HB.out,hb1⟩
 case round =>
  obtain ⟨k,zs,hk,rfl,hinv,hblk,hb⟩:=hrel
  have hzn:zs.length=n:=by rw [hinv.2.1,HX.out.1.len]
  have hgs:g<wr.heap.size:=hblk.lt
  by_cases hlt:k<n
  ·obtain ⟨ad,x,hA,hal,hx,hcx⟩:=(HX.out.1.below (by rw [← HG.out];exact hb)).at_ (k:=k) hlt
   subst hA
   have hfz:=hblk.frozen k
   obtain ⟨z1,hcz1⟩:∃ z:Int,wr.cell? ⟨g,k,none⟩=some (.int .u64 z):=⟨_,hblk.cell_get (by omega)⟩
   obtain ⟨hi,hhi⟩:∃ hi,hi=x/2^s:=⟨_,rfl⟩
   have r3:(x:Int)/2^s=(hi:Int):=by rw [hhi];simp
   by_cases hk0:0<k
   ·obtain ⟨cc,hcc⟩:∃ cc,zs[k-1]?=some cc:=⟨_,List.getElem?_eq_getElem (by omega)⟩
    have hk1:k-1+1=k:=by omega
    obtain ⟨hst,s1,s2⟩:=(hk1▸hinv:DownInv xs zs s (k-1+1)).step hs (by rw [hk1];exact hx) HX.out.2 hcc
    rw [show k-1+2=k+1 from by omega,hk1] at hst
    have hcz:wr.cell? ⟨g,k-1,none⟩=some (.int .u64 (cc:Int)):=hblk.cell hcc
    have hfz1:=hblk.frozen (k-1)
    have p1:x*2^(64-s)%aD=x%2^s*2^(64-s):=by
     have hW:aD=2^s*2^(64-s):=by rw [Nat.mul_comm];exact W64_pow (by omega)
     rw [hW,Nat.mul_mod_mul_right]
    obtain ⟨lo,hlo⟩:∃ lo,lo=x*2^(64-s)%aD:=⟨_,rfl⟩
    have r1:IntKind.u64.wrap ((x:Int)*2^(64-s))=(lo:Int):=by rw [show (x:Int)*2^(64-s)=((x*2^(64-s):Nat):Int) from by simp,fT,hlo,aH]
    have r2:bits .or .u64 (cc:Int) (lo:Int)=((cc+lo:Nat):Int):=by rw [hlo,p1];exact or_high _ _ _ s1 s2
    obtain ⟨z,hz⟩:∃ z,z=cc+lo:=⟨_,rfl⟩
    rw [← hz] at r2
    rw [← hlo,← hz,← hhi] at hst
    have HE:=Lib.hid (And.intro hst hblk)
    have hne:¬ k=k-1:=by omega
    clear hx hblk hinv hst hcc s1 s2 p1 hlo hhi hz hzn hk1
    go_wp2
    go_roundw
    case rel=>exact ⟨k+1,(zs.set k hi).set (k-1) z,by omega,by go_num,HE.out.1,(HE.out.2.set_ _ _).set_ _ _,(hb.setCell (Nat.le_refl _) _).setCell (Nat.le_refl _) _⟩
    case measure=>simp [intOf];omega
   ·have hst:DownInv xs (zs.set k hi) s (k+1):=by
     have:k=0:=by omega
     subst this
     rw [hhi]
     exact hinv.first hs hx HX.out.2
    have hkz:¬ (0<(k:Int)):=by omega
    have HE:=Lib.hid (And.intro hst hblk)
    clear hx hblk hinv hst hhi hzn
    go_wp2
    go_roundw
    case rel=>exact ⟨k+1,zs.set k hi,by omega,by go_num,HE.out.1,HE.out.2.set_ _ _,hb.setCell (Nat.le_refl _) _⟩
    case measure=>simp [intOf];omega
  ·obtain rfl:k=n:=by omega
   have hrd:=hblk.rd (by rw [hzn];show k≤9223372036854775807;omega)
   rw [hzn] at hrd
   have hfin:=hinv.2.2.1
   rw [List.take_of_length_le (by omega),List.take_of_length_le (by rw [HX.out.1.len];omega)] at hfin
   have HF:=Lib.hid (And.intro hinv.1 (And.intro hfin hrd))
   clear hinv hblk hzn hrd hfin hlt
   go_wp2_with (go_at_call 158;refine (eJ _ _ _ zs _ HF.out.2.2 HF.out.1).mono ?_;rintro e w' ⟨⟨v,rfl,hv⟩,rfl⟩)
   go_ret
   exact ⟨v,rfl,by rw [← HF.out.2.1];exact hv,by rw [← HG.out];exact hb⟩
end Go.Proofs.YtofcdondmgojiaaGreatDoor
