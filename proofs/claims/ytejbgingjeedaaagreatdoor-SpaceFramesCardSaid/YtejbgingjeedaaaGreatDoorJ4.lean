/- Parts of the proof, joined. -/
import Derived.Test.YtejbgingjeedaaaGreatDoorShelf
import Derived.Lib.Walk
import Derived.Lib.ItoaMem
import Derived.WalkKit
import Derived.BigCall
import Derived.BigGuard
import Derived.Lib.Hide
import Derived.Below
import Derived.Deep.Draws
import Derived.Test.YtejbgingjeedaaaGreatDoorProg
import Derived.WalkSpells
import Derived.BigQuiet
import Derived.Deep.QuietTactic
import Derived.OwnWalk
import Derived.Laws.Externs
import Derived.Shelf.Spec.BitsCarry
import Derived.Laws.Bits64
import Derived.Laws.Shifts
set_option linter.unusedSimpArgs false
set_option linter.unusedVariables false
namespace Go.Proofs
open Go.Shelf
def BldRen:Shelf.Ren:=⟨fun|166=>169|240=>225|276=>254|n=>n,fun|0=>0|3=>3|4=>4|5=>5|9=>9|20=>20|37=>210|70=>209|72=>212|75=>156|80=>216|164=>276|n=>n,fun|n=>n⟩
theorem BldLays:Go.Proofs.Lays.n166 Tryz.prog BldRen := {
 mixed:=by kernel_rfl
 f166:=Tryz.func169.trans (congrArg some (by kernel_rfl))
 f240:=Tryz.func225.trans (congrArg some (by kernel_rfl))
 f276:=Tryz.func254.trans (congrArg some (by kernel_rfl))
 t0:=Tryz.underlying0
 a0:=Tryz.isAgg0
 z0:=Tryz.sizeOf0
 v0:=Tryz.zeroValue0
 t3:=Tryz.underlying3
 a3:=Tryz.isAgg3
 z3:=Tryz.sizeOf3
 v3:=Tryz.zeroValue3
 t4:=Tryz.underlying4
 a4:=Tryz.isAgg4
 z4:=Tryz.sizeOf4
 v4:=Tryz.zeroValue4
 t9:=Tryz.underlying9
 a9:=Tryz.isAgg9
 z9:=Tryz.sizeOf9
 v9:=Tryz.zeroValue9
 t20:=Tryz.underlying20
 a20:=Tryz.isAgg20
 z20:=Tryz.sizeOf20
 v20:=Tryz.zeroValue20
 t37:=Tryz.underlying210
 a37:=Tryz.isAgg210
 z37:=Tryz.sizeOf210
 v37:=Tryz.zeroValue210
 t70:=Tryz.underlying209
 a70:=Tryz.isAgg209
 z70:=Tryz.sizeOf209
 v70:=Tryz.zeroValue209
 t72:=Tryz.underlying212
 a72:=Tryz.isAgg212
 z72:=Tryz.sizeOf212
 v72:=Tryz.zeroValue212
 t75:=Tryz.underlying156
 a75:=Tryz.isAgg156
 z75:=Tryz.sizeOf156
 v75:=Tryz.zeroValue156
 t164:=Tryz.underlying276
 a164:=Tryz.isAgg276
 z164:=Tryz.sizeOf276
 v164:=Tryz.zeroValue276
}
theorem BldExtra:Builder.Extra Tryz.prog BldRen := {
 sizeBuilder:=by kernel_rfl
 liesBuilder:=by kernel_rfl
 t5:=Tryz.underlying5
 a5:=Tryz.isAgg5
 z5:=Tryz.sizeOf5
 v5:=Tryz.zeroValue5
 infoByte:=by kernel_rfl
 cellsByte:=by kernel_rfl
 sizeByte:=by kernel_rfl
 neB5:=by decide
}
open Go.RowKit in
theorem mP (B b:Nat) (bs:List Value) (s:ByteArray) (w:World) (h:Lib.IsBuilder 212 5 B b bs w) (hl:bs.length+s.size≤140737488355328) (hB:B≤w.heap.size) :
 Calls Tryz.prog 169 #[.pointer (some ⟨b,0,none⟩),.string s] w fun e w'=>e = .returned (.tuple #[.int .i64 s.size,.nilIface])∧Lib.BuilderAt 212 5 B b (.pointer (some ⟨b,0,none⟩)) (bs++Lib.strCells s) w'∧Below B w w' :=
 Any.Builder_WriteString BldLays BldExtra B b bs s w h hl hB
end Go.Proofs
namespace Go.Proofs.YtejbgingjeedaaaGreatDoor
open Go.RowKit Go.Sort Go.Lib
def Laid (w:World):Prop:=TabIs Tryz.prog w "internal/strconv.uint64pow10" .u64 pow10Tab
theorem Laid.below {w w' : World} (h:Laid w) (hb:Below w.heap.size w w'):Laid w':=by
 unfold Laid TabIs World.var? at *
 cases hg:Tryz.prog.globalNamed "internal/strconv.uint64pow10" with
 | none=>simp [hg] at h
 | some g =>
   simp only [hg,Option.bind_some] at h ⊢
   have hlt:g<w.heap.size:=by
    rcases Nat.lt_or_ge g w.heap.size with h'|h'
    ·exact h'
    ·rw [Array.getElem?_eq_none h'] at h;simp at h
   rw [hb.block g hlt]
   exact h
theorem wV (w:World) (os:Array Obj):Below w.heap.size w (grow w os) :=
 ⟨rfl,rfl,rfl,by simp [grow],fun k hk=>by simp only [grow];rw [Array.getElem?_append_left hk]⟩
theorem nS (w:World) (k:Nat):Below w.heap.size w (w.drewN k):=⟨rfl,rfl,rfl,Nat.le_refl _,fun _ _=>rfl⟩
theorem fin_zero (w:World) (o:Obj) (dk:Array UInt8) (k:Nat):∃ os,(putRow (fun (b:UInt8)=>Value.int .u8 (b.toNat:Int)) (w.alloc o) w.heap.size 0 dk).drewN k=grow (w.drewN k) os:=by
 rw [alloc_eq_grow]
 obtain ⟨os',_,e⟩:=putRow_grow_new (fun (b:UInt8)=>Value.int .u8 (b.toNat:Int)) w #[o] w.heap.size 0 dk (Nat.le_refl _)
 exact ⟨os',by rw [e];rfl⟩
theorem holds_zero0 (w:World) (T:TypeId) (nd:Nat) (hs:nd≤24):Holds (fun (b:UInt8)=>Value.int .u8 (b.toNat:Int)) (w.alloc (.cells zeros24 T)) w.heap.size 0 (Array.replicate nd (0:UInt8)):=fun j hj=>by
 have hj' : j<nd:=by simpa using hj
 refine ⟨?_,World.frozen?_alloc_new _ _ _ _⟩
 rw [World.cell?_alloc_new,zeros24_at _ (by omega),getElem!_pos _ j hj]
 simp
set_option maxHeartbeats 6400000 in
set_option maxRecDepth 100000 in
theorem tB (u:Nat) (hu64:u<18446744073709551616) (w:World) (htab:Laid w) :
 Calls Tryz.prog 275 #[.int .u64 (u:Int),.int .i64 10] w fun e w'=>e = .returned (.string ⟨(decDigits u).toArray⟩)∧Below w.heap.size w w':=by
 by_cases hs:u<100
 ·go_enter Tryz.func275,Tryz.ntmps275
  go_wp2_with (go_at_call 268;refine (Tryz.internal_strconv_small u hs _).mono ?_;rintro e w' ⟨rfl,rfl⟩)
  go_ret
  exact ⟨rfl,Below.refl _ _⟩
 ·have hu1:1≤u:=by omega
  have hnd20:nDigits u≤20:=by have:=numDigits_eq u hu1 hu64;split at this <;> omega
  have hal:Tryz.prog.arrayLen 287=24:=by simp [Program.arrayLen,Tryz.underlying287]
  have hsl1:∀ W,(Instr.sliceAt 287 (.pointer (some ⟨w.heap.size,0,none⟩)) none (some (.int .i64 (nDigits u:Int))) none).run Tryz.prog W = .ok (.slice (some ⟨w.heap.size,0,none⟩) (nDigits u) 24) W:=fun W=>by
   rw [run_sliceAt_array_h W 287 ⟨w.heap.size,0,none⟩ (by simp [Program.arrayLen,Program.elem,Tryz.underlying287]) .i64 (nDigits u:Int) (by omega) (by rw [hal];omega)]
   go_simp
  have hH0:=holds_zero0 w 287 (nDigits u) (by omega)
  have hfmt:=Tryz.internal_strconv_formatBase10 w.heap.size 0 24 u (Array.replicate (nDigits u) 0) (w.alloc (.cells zeros24 287)) hH0 (by rw [Array.size_replicate];exact lt_pow_nDigits u) hu64 (by rw [Array.size_replicate];omega)
  rw [Array.size_replicate] at hfmt
  have HH0:=Lib.hid hH0
  clear hH0 hal
  go_enter Tryz.func275,Tryz.ntmps275
  go_wp2_with (first
   | (go_at_call 269;refine (Tryz.internal_strconv_numDigits u hu1 hu64 _ (tabIs_alloc htab _)).mono ?_;rintro e w' ⟨rfl,rfl⟩))
  refine hfmt.mono ?_
  rintro e w' ⟨rfl,k,v',dk,rfl,hF⟩
  have hcv:(convert 210 9 (.slice (some ⟨w.heap.size,0,none⟩) (nDigits u) 24)).run Tryz.prog ((putRow (fun (b:UInt8)=>Value.int .u8 (b.toNat:Int)) (w.alloc (.cells zeros24 287)) w.heap.size 0 dk).drewN k) = .ok (.string ⟨(decDigits u).toArray⟩) ((putRow (fun (b:UInt8)=>Value.int .u8 (b.toNat:Int)) (w.alloc (.cells zeros24 287)) w.heap.size 0 dk).drewN k):=by
   have h:=run_convert_bytes_back (P:=Tryz.prog) ((putRow (fun (b:UInt8)=>Value.int .u8 (b.toNat:Int)) (w.alloc (.cells zeros24 287)) w.heap.size 0 dk).drewN k) 210 9 5 ⟨w.heap.size,0,none⟩ 24 (decDigits u) Tryz.underlying210 Tryz.underlying5 Tryz.underlying9 (fun j hj=>by
    rw [row_is_numeral hF j hj,add_plain,World.cell?_drewN]
    exact cell?_putRow (fun (b:UInt8)=>Value.int .u8 (b.toNat:Int)) _ w.heap.size 0 _ dk HH0.out (by rw [hF.size,Array.size_replicate]) j (by rw [hF.size];rw [decDigits_length] at hj;exact hj))
   rw [decDigits_length] at h
   exact h
  go_wp2
  go_ret
  obtain ⟨os,eo⟩:=fin_zero w (.cells zeros24 287) dk k
  refine ⟨rfl,?_⟩
  rw [eo]
  exact (nS w k).trans (wV (w.drewN k) os)
theorem nT (u:Nat) (hu64:u<18446744073709551616) (w:World) (htab:Laid w) :
 Calls Tryz.prog 267 #[.int .u64 (u:Int),.int .i64 10] w fun e w'=>e = .returned (.string ⟨(decDigits u).toArray⟩)∧Below w.heap.size w w':=by
 have H:=Lib.hid htab
 clear htab
 go_enter Tryz.func267,Tryz.ntmps267
 go_wp2_with (go_at_call 275;refine (tB u hu64 _ H.out).mono ?_;rintro e w' ⟨rfl,hb⟩)
 go_ret
 exact ⟨rfl,hb⟩
end Go.Proofs.YtejbgingjeedaaaGreatDoor
namespace Go.Proofs.YtejbgingjeedaaaGreatDoor.Pl
structure Steps (x0 y0 x y oa ob na nb s:Nat):Prop where
 i1:nb*x+ob*y=x0
 i2:na*x+oa*y=y0
 det:(s%2=0→oa*nb=ob*na+1)∧(s%2=1→ob*na=oa*nb+1)
 zero:s=0→oa=1∧ob=0∧na=0∧nb=1
 ord:0<s→oa≤ob∧na≤nb∧0<na∧0<ob
 nb1:0<nb
 sb:s≤nb
 lt:y≤x
theorem Steps.start (x0 y0:Nat) (h:y0≤x0):Steps x0 y0 x0 y0 1 0 0 1 0 :=
 ⟨by simp,by simp,by simp,by simp,by omega,by omega,by omega,h⟩
theorem Steps.next {x0 y0 x y oa ob na nb s:Nat} (h:Steps x0 y0 x y oa ob na nb s) (hy:0<y) :
 Steps x0 y0 y (x%y) na nb (oa+x/y*na) (ob+x/y*nb) (s+1):=by
 have hx:y*(x/y)+x%y=x:=Nat.div_add_mod x y
 have hq:1≤x/y:=(Nat.one_le_div_iff hy).2 h.lt
 have hm:x%y<y:=Nat.mod_lt _ hy
 generalize x/y=q at *
 generalize x%y=r at *
 have hb:nb≤q*nb:=Nat.le_mul_of_pos_left _ hq
 have ha:na≤q*na:=Nat.le_mul_of_pos_left _ hq
 have n1:=h.nb1
 have sb:=h.sb
 refine ⟨?_,?_,⟨?_,?_⟩,by omega,?_,?_,?_,by omega⟩
 ·rw [← h.i1,← hx];grind
 ·rw [← h.i2,← hx];grind
 ·intro e
  have:=h.det.2 (by omega)
  grind
 ·intro e
  have:=h.det.1 (by omega)
  grind
 ·intro _
  rcases Nat.eq_zero_or_pos s with e|hs
  ·obtain ⟨rfl,rfl,rfl,rfl⟩:=h.zero e
   simp;omega
  ·obtain ⟨o1,o2,o3,o4⟩:=h.ord hs
   have:=Nat.mul_le_mul_left q o2
   refine ⟨o2,by omega,by omega,n1⟩
 ·omega
 ·rcases Nat.eq_zero_or_pos s with e|hs
  ·omega
  ·have:=(h.ord hs).2.2.2;omega
theorem Steps.nb_le {x0 y0 x y oa ob na nb s:Nat} (h:Steps x0 y0 x y oa ob na nb s) (hx:0<x):nb≤x0:=by
 have:=Nat.le_mul_of_pos_right nb hx
 have:=h.i1
 omega
theorem Steps.na_le {x0 y0 x y oa ob na nb s:Nat} (h:Steps x0 y0 x y oa ob na nb s) (hx:0<x):na≤y0:=by
 have:=Nat.le_mul_of_pos_right na hx
 have:=h.i2
 omega
theorem Steps.sum_le {x0 y0 x y oa ob na nb s:Nat} (h:Steps x0 y0 x y oa ob na nb s) (hy:0<y):ob+nb≤x0:=by
 have hx:0<x:=Nat.lt_of_lt_of_le hy h.lt
 have:=Nat.le_mul_of_pos_right nb hx
 have:=Nat.le_mul_of_pos_right ob hy
 have:=h.i1
 omega
theorem Steps.lift {x0 y0 x y oa ob na nb s:Nat} (h:Steps x0 y0 x y oa ob na nb s) (hs:0<s) (c1:nb≤y) (c2:ob+nb≤x-y)
 {K α β a b:Nat} (ha:a=x0*K+α) (hb:b=y0*K+β) (hα:α<K) (hβ:β<K) :
 ∃ a' b',a=nb*a'+ob*b'∧b=na*a'+oa*b'∧b'<a' ∧
   (s%2=0→oa*a=a'+ob*b∧nb*b=b'+na*a)∧(s%2=1→ob*b=a'+oa*a∧na*a=b'+nb*b):=by
 obtain ⟨o1,o2,o3,o4⟩:=h.ord hs
 have hlt:=h.lt
 have k1:na*α≤nb*K:=Nat.mul_le_mul o2 (Nat.le_of_lt hα)
 have k2:nb*β≤nb*K:=Nat.mul_le_mul_left _ (Nat.le_of_lt hβ)
 have k3:oa*α≤ob*K:=Nat.mul_le_mul o1 (Nat.le_of_lt hα)
 have k4:ob*β≤ob*K:=Nat.mul_le_mul_left _ (Nat.le_of_lt hβ)
 have k5:nb*K≤y*K:=Nat.mul_le_mul_right _ c1
 have k6:(ob+nb)*K+y*K≤x*K:=by rw [← Nat.add_mul];exact Nat.mul_le_mul_right _ (by omega)
 rw [Nat.add_mul] at k6
 have k7:nb*β<nb*K:=Nat.mul_lt_mul_of_pos_left hβ h.nb1
 have k8:na*α<na*K:=Nat.mul_lt_mul_of_pos_left hα o3
 have k9:na*K≤nb*K:=Nat.mul_le_mul_right _ o2
 have e1:=h.i1
 have e2:=h.i2
 rcases Nat.mod_two_eq_zero_or_one s with e|e
 ·have d:=h.det.1 e
  have x1:oa*x0=x+ob*y0:=by rw [← e1,← e2];grind
  have y1:nb*y0=y+na*x0:=by rw [← e1,← e2];grind
  refine ⟨x*K+oa*α-ob*β,y*K+nb*β-na*α,?_,?_,by omega,fun _=>⟨?_,?_⟩,by omega⟩
  ·have p:ob*β≤x*K+oa*α:=by omega
   have p2:na*α≤y*K+nb*β:=by omega
   obtain ⟨u,hu⟩:=Nat.exists_eq_add_of_le p
   obtain ⟨v,hv⟩:=Nat.exists_eq_add_of_le p2
   rw [hu,hv,Nat.add_sub_cancel_left,Nat.add_sub_cancel_left,ha,← e1]
   grind
  ·have p:ob*β≤x*K+oa*α:=by omega
   have p2:na*α≤y*K+nb*β:=by omega
   obtain ⟨u,hu⟩:=Nat.exists_eq_add_of_le p
   obtain ⟨v,hv⟩:=Nat.exists_eq_add_of_le p2
   rw [hu,hv,Nat.add_sub_cancel_left,Nat.add_sub_cancel_left,hb,← e2]
   grind
  ·have p:ob*β≤x*K+oa*α:=by omega
   obtain ⟨u,hu⟩:=Nat.exists_eq_add_of_le p
   rw [hu,Nat.add_sub_cancel_left,ha,hb]
   grind
  ·have p2:na*α≤y*K+nb*β:=by omega
   obtain ⟨v,hv⟩:=Nat.exists_eq_add_of_le p2
   rw [hv,Nat.add_sub_cancel_left,ha,hb]
   grind
 ·have d:=h.det.2 e
  have x1:ob*y0=x+oa*x0:=by rw [← e1,← e2];grind
  have y1:na*x0=y+nb*y0:=by rw [← e1,← e2];grind
  refine ⟨x*K+ob*β-oa*α,y*K+na*α-nb*β,?_,?_,by omega,by omega,fun _=>⟨?_,?_⟩⟩
  ·have p:oa*α≤x*K+ob*β:=by omega
   have p2:nb*β≤y*K+na*α:=by omega
   obtain ⟨u,hu⟩:=Nat.exists_eq_add_of_le p
   obtain ⟨v,hv⟩:=Nat.exists_eq_add_of_le p2
   rw [hu,hv,Nat.add_sub_cancel_left,Nat.add_sub_cancel_left,ha,← e1]
   grind
  ·have p:oa*α≤x*K+ob*β:=by omega
   have p2:nb*β≤y*K+na*α:=by omega
   obtain ⟨u,hu⟩:=Nat.exists_eq_add_of_le p
   obtain ⟨v,hv⟩:=Nat.exists_eq_add_of_le p2
   rw [hu,hv,Nat.add_sub_cancel_left,Nat.add_sub_cancel_left,hb,← e2]
   grind
  ·have p:oa*α≤x*K+ob*β:=by omega
   obtain ⟨u,hu⟩:=Nat.exists_eq_add_of_le p
   rw [hu,Nat.add_sub_cancel_left,ha,hb]
   grind
  ·have p2:nb*β≤y*K+na*α:=by omega
   obtain ⟨v,hv⟩:=Nat.exists_eq_add_of_le p2
   rw [hv,Nat.add_sub_cancel_left,ha,hb]
   grind
theorem uF {a b a' b' oa ob na nb s:Nat} (e1:a=nb*a'+ob*b') (e2:b=na*a'+oa*b')
 (h0:s%2=0→oa*a=a'+ob*b∧nb*b=b'+na*a) (h1:s%2=1→ob*b=a'+oa*a∧na*a=b'+nb*b):Nat.gcd a' b'=Nat.gcd a b:=by
 apply Nat.dvd_antisymm
 ·apply Nat.dvd_gcd
  ·rw [e1];exact Nat.dvd_add (Nat.dvd_mul_left_of_dvd (Nat.gcd_dvd_left _ _) _) (Nat.dvd_mul_left_of_dvd (Nat.gcd_dvd_right _ _) _)
  ·rw [e2];exact Nat.dvd_add (Nat.dvd_mul_left_of_dvd (Nat.gcd_dvd_left _ _) _) (Nat.dvd_mul_left_of_dvd (Nat.gcd_dvd_right _ _) _)
 ·have da:∀ k,Nat.gcd a b ∣ k*a:=fun k=>Nat.dvd_mul_left_of_dvd (Nat.gcd_dvd_left _ _) _
  have db:∀ k,Nat.gcd a b ∣ k*b:=fun k=>Nat.dvd_mul_left_of_dvd (Nat.gcd_dvd_right _ _) _
  rcases Nat.mod_two_eq_zero_or_one s with e|e
  ·obtain ⟨p,q⟩:=h0 e
   apply Nat.dvd_gcd
   ·exact (Nat.dvd_add_left (db ob)).1 (p▸da oa)
   ·exact (Nat.dvd_add_left (da na)).1 (q▸db nb)
  ·obtain ⟨p,q⟩:=h1 e
   apply Nat.dvd_gcd
   ·exact (Nat.dvd_add_left (da oa)).1 (p▸db ob)
   ·exact (Nat.dvd_add_left (db nb)).1 (q▸da na)
def val (B:Nat):List Nat→Nat
 | []=>0
 | d::l=>d+B*val B l
theorem fT (B:Nat) (l m:List Nat):val B (l++m)=val B l+B^l.length*val B m:=by
 induction l with
 | nil=>simp [val]
 | cons d l ih =>
   simp only [List.cons_append,val,ih,List.length_cons,Nat.pow_succ]
   grind
theorem cL (B:Nat) (l:List Nat) (d:Nat):val B (l ++ [d])=val B l+B^l.length*d:=by
 rw [fT];simp [val]
def Dig (B:Nat) (l:List Nat):Prop := ∀ d∈l,d<B
theorem Dig.nil (B:Nat):Dig B []:=by intro d h;cases h
theorem Dig.cons {B d:Nat} {l:List Nat} (h:d<B) (hl:Dig B l):Dig B (d::l):=by
 intro e he
 rcases List.mem_cons.1 he with rfl|he
 ·exact h
 ·exact hl e he
theorem Dig.app {B:Nat} {l m:List Nat} (hl:Dig B l) (hm:Dig B m):Dig B (l++m):=by
 intro e he
 rcases List.mem_append.1 he with he|he
 ·exact hl e he
 ·exact hm e he
theorem Dig.take {B:Nat} {l:List Nat} (hl:Dig B l) (k:Nat):Dig B (l.take k):=fun e he=>hl e (List.mem_of_mem_take he)
theorem Dig.drop {B:Nat} {l:List Nat} (hl:Dig B l) (k:Nat):Dig B (l.drop k):=fun e he=>hl e (List.mem_of_mem_drop he)
theorem Dig.at_ {B:Nat} {l:List Nat} (hl:Dig B l) {k d:Nat} (h:l[k]?=some d):d<B:=hl d (List.mem_of_getElem? h)
theorem Dig.get {B:Nat} {l:List Nat} (hl:Dig B l) (k:Nat) (h:k<l.length):l[k]<B:=hl _ (List.getElem_mem h)
theorem Dig.get0 {B:Nat} {l:List Nat} (hB:0<B) (hl:Dig B l) (k:Nat):l.getD k 0<B:=by
 rcases Nat.lt_or_ge k l.length with h|h
 ·simp [List.getD,List.getElem?_eq_getElem h];exact hl.get k h
 ·simp [List.getD,List.getElem?_eq_none h,hB]
theorem Dig.set {B:Nat} {l:List Nat} (hl:Dig B l) {k d:Nat} (hd:d<B):Dig B (l.set k d):=by
 intro e he
 rcases List.mem_or_eq_of_mem_set he with he|rfl
 ·exact hl e he
 ·exact hd
theorem Dig.replicate {B:Nat} (hB:0<B) (n:Nat):Dig B (List.replicate n 0):=by
 intro e he;rw [List.eq_of_mem_replicate he];exact hB
theorem bV {B:Nat} {l:List Nat} (h:Dig B l):val B l<B^l.length:=by
 induction l with
 | nil=>simp [val]
 | cons d l ih =>
   have hd:d<B:=h d (by simp)
   have hl:=ih (fun e he=>h e (by simp [he]))
   simp only [val,List.length_cons,Nat.pow_succ]
   have h1:val B l+1≤B^l.length:=hl
   have h2:=Nat.mul_le_mul_left B h1
   rw [Nat.mul_add,Nat.mul_one,Nat.mul_comm B (B^l.length)] at h2
   omega
theorem lG (B n:Nat):val B (List.replicate n 0)=0:=by
 induction n with
 | zero=>rfl
 | succ n ih=>simp [List.replicate_succ,val,ih]
theorem aF (B:Nat) (l:List Nat) (k:Nat) (h:k<l.length):val B (l.take (k+1))=val B (l.take k)+B^k*l[k]:=by
 rw [List.take_succ_eq_append_getElem h,cL,List.length_take,Nat.min_eq_left (by omega)]
theorem eA (B:Nat) (l:List Nat) (k:Nat) (h:k≤l.length):val B l=val B (l.take k)+B^k*val B (l.drop k):=by
 have:=fT B (l.take k) (l.drop k)
 rw [List.take_append_drop,List.length_take,Nat.min_eq_left h] at this
 exact this
theorem lH (B:Nat) (l:List Nat) (k:Nat) (h:k<l.length):val B (l.drop k)=l[k]+B*val B (l.drop (k+1)):=by
 rw [List.drop_eq_getElem_cons h];rfl
def Norm (l:List Nat):Prop := ∀ h:l≠[],l.getLast h≠0
theorem Norm.nil:Norm []:=fun h=>absurd rfl h
theorem Norm.ge {B:Nat} {l:List Nat} (hn:Norm l) (h:l≠[]):B^(l.length-1)≤val B l:=by
 have e:=List.dropLast_concat_getLast h
 have hl:=hn h
 have:val B l=val B l.dropLast+B^l.dropLast.length*l.getLast h:=by
  conv=>lhs;rw [← e]
  exact cL B _ _
 rw [this,List.length_dropLast]
 have:B^(l.length-1)*1≤B^(l.length-1)*l.getLast h:=Nat.mul_le_mul_left _ (by omega)
 omega
theorem Norm.pos {B:Nat} (hB:0<B) {l:List Nat} (hn:Norm l) (h:l≠[]):0<val B l:=by
 have:=hn.ge (B:=B) h
 have h2:0<B^(l.length-1):=Nat.pow_pos hB
 omega
theorem Norm.zero_iff {B:Nat} (hB:0<B) {l:List Nat} (hn:Norm l):val B l=0↔l = []:=by
 constructor
 ·intro h
  rcases Classical.em (l = []) with e|e
  ·exact e
  ·have:=hn.pos hB e;omega
 ·rintro rfl;rfl
theorem dF {B:Nat} (hB:1<B) {a b:List Nat} (ha:Dig B a) (hb:Norm b) (h:a.length<b.length):val B a<val B b:=by
 have h1:=bV ha
 have hne:b≠[]:=by rintro rfl;simp at h
 have h2:=hb.ge (B:=B) hne
 have h3:B^a.length≤B^(b.length-1):=Nat.pow_le_pow_right (by omega) (by omega)
 omega
theorem zE {B:Nat} {a b:List Nat} (hl:a.length=b.length) (ha:Dig B a) {k:Nat} (hk:k<a.length) (htop:a.drop (k+1)=b.drop (k+1)) (hd:a[k]<b[k]'(by omega)):val B a<val B b:=by
 rw [eA B a (k+1) (by omega),eA B b (k+1) (by omega),htop,aF B a k hk,aF B b k (by omega)]
 have h1:=bV (ha.take k)
 rw [List.length_take,Nat.min_eq_left (by omega)] at h1
 have h2:B^k*(a[k]+1)≤B^k*b[k]'(by omega):=Nat.mul_le_mul_left _ hd
 rw [Nat.mul_add,Nat.mul_one] at h2
 omega
theorem aU {B L:Nat} (hB:1<B) {a:List Nat} (na:Norm a) (h:val B a<B^L):a.length≤L:=by
 rcases Classical.em (a = []) with rfl|e
 ·simp
 ·have h1:=na.ge (B:=B) e
  rcases Nat.lt_or_ge L a.length with hl|hl
  ·have:B^L≤B^(a.length-1):=Nat.pow_le_pow_right (by omega) (by omega)
   omega
  ·exact hl
theorem pL (B:Nat) {l:List Nat} {k:Nat} (hk:k<l.length) (h0:l[k]=0):val B (l.take (k+1))=val B (l.take k):=by
 rw [aF B l k hk,h0];simp
theorem zF {l:List Nat} {k:Nat} (hk:k≤l.length) (h:0<k→l[k-1]?≠some 0):Norm (l.take k):=by
 intro hne
 have hpos:0<k:=by
  rcases Nat.eq_zero_or_pos k with rfl|h
  ·simp at hne
  ·exact h
 have h1:=h hpos
 rw [List.getLast_eq_getElem]
 simp only [List.length_take,Nat.min_eq_left hk]
 intro he
 apply h1
 rw [List.getElem?_eq_getElem (by omega)]
 simp at he
 simp [he]
end Go.Proofs.YtejbgingjeedaaaGreatDoor.Pl
namespace Go.Proofs.YtejbgingjeedaaaGreatDoor
open Go.RowKit Pl
def aD:Nat:=18446744073709551616
theorem aJ:aD=18446744073709551616:=rfl
theorem eH:1<aD:=by unfold aD;omega
theorem bC:0<aD:=by unfold aD;omega
def rA (n:Nat):Value := .int .u64 (n:Int)
def Rd (w:World) (A:Option Addr) (n c:Nat) (xs:List Nat):Prop :=
 xs.length=n∧n≤c∧c≤maxLen∧(0<n→∃ ad,A=some ad∧ad.block<w.heap.size∧∀ (j x:Nat),xs[j]?=some x→w.cell? (ad.add j)=some (.int .u64 (x:Int)))
theorem bL (a:Addr) (n:Nat):(a.add n).block=a.block:=by unfold Addr.add;split <;> rfl
section
variable {w w' : World} {A:Option Addr} {n c:Nat} {xs:List Nat}
theorem Rd.len (h:Rd w A n c xs):xs.length=n:=h.1
theorem Rd.cap (h:Rd w A n c xs):n≤c:=h.2.1
theorem Rd.at_ (h:Rd w A n c xs) {k:Nat} (hk:k<n) :
 ∃ ad x,A=some ad∧ad.block<w.heap.size∧xs[k]?=some x∧w.cell? (ad.add k)=some (.int .u64 (x:Int)):=by
 obtain ⟨ad,e,hb,hc⟩:=h.2.2.2 (by omega)
 have hl:k<xs.length:=by have:=h.1;omega
 exact ⟨ad,xs[k],e,hb,List.getElem?_eq_getElem hl,hc k _ (List.getElem?_eq_getElem hl)⟩
theorem Rd.below (h:Rd w A n c xs) (hb:Below w.heap.size w w'):Rd w' A n c xs:=by
 refine ⟨h.1,h.2.1,h.2.2.1,fun hn=>?_⟩
 obtain ⟨ad,e,hl,hc⟩:=h.2.2.2 hn
 have:=hb.size
 exact ⟨ad,e,by omega,fun j x hx=>(hb.cell (p:=ad.add j) (by rw [bL];exact hl)).trans (hc j x hx)⟩
theorem Rd.nil:Rd w none 0 0 []:=⟨rfl,Nat.le_refl _,Nat.zero_le _,fun h=>absurd h (by omega)⟩
theorem Rd.take (h:Rd w A n c xs) {k:Nat} (hk:k≤n):Rd w A k c (xs.take k):=by
 refine ⟨by rw [List.length_take,h.1];omega,Nat.le_trans hk h.2.1,h.2.2.1,fun hp=>?_⟩
 obtain ⟨ad,e,hl,hc⟩:=h.2.2.2 (by omega)
 refine ⟨ad,e,hl,fun j x hx=>hc j x ?_⟩
 rw [List.getElem?_take] at hx
 split at hx
 ·exact hx
 ·cases hx
end
def Blk (w:World) (g:Nat) (t:TypeId) (ys:List Nat):Prop:=w.heap[g]?=some (.cells (ys.map rA).toArray t (0,0))
section
variable {w w' : World} {g:Nat} {t:TypeId} {ys:List Nat}
theorem Blk.lt (h:Blk w g t ys):g<w.heap.size:=by
 unfold Blk at h
 rcases Nat.lt_or_ge g w.heap.size with hlt|hge
 ·exact hlt
 ·rw [Array.getElem?_eq_none hge] at h;cases h
theorem Blk.cell (h:Blk w g t ys) {i x:Nat} (hx:ys[i]?=some x):w.cell? ⟨g,i,none⟩=some (.int .u64 (x:Int)):=by
 unfold Blk at h
 simp [World.cell?,h,hx,rA]
theorem Blk.cell_get (h:Blk w g t ys) {i:Nat} (hi:i<ys.length):w.cell? ⟨g,i,none⟩=some (.int .u64 ((ys[i]:Nat):Int)):=h.cell (List.getElem?_eq_getElem hi)
theorem Blk.frozen (h:Blk w g t ys) (i:Nat):w.frozen? ⟨g,i,none⟩=false:=by
 unfold Blk at h
 simp [World.frozen?,h]
theorem Blk.set_ (h:Blk w g t ys) (i x:Nat):Blk (w.setCell ⟨g,i,none⟩ (.int .u64 (x:Int))) g t (ys.set i x):=by
 unfold Blk at h ⊢
 simp only [World.setCell,Array.getElem?_modify,h]
 simp [List.map_set,rA]
theorem Blk.drew (h:Blk w g t ys):Blk w.drew g t ys:=h
theorem Blk.alloc (h:Blk w g t ys) (o:Obj):Blk (w.alloc o) g t ys:=(Below.heap_alloc w o g h.lt).trans h
theorem Blk.far (h:Blk w g t ys) {p:Addr} (hp:g≠p.block) (u:Value):Blk (w.setCell p u) g t ys:=(Below.heap_setCell w p u g hp).trans h
theorem Blk.below {B:Nat} (h:Blk w g t ys) (hb:Below B w w') (hg:g<B):Blk w' g t ys:=(hb.block g hg).trans h
theorem Blk.rd (h:Blk w g t ys) (hm:ys.length≤maxLen):Rd w (some ⟨g,0,none⟩) ys.length ys.length ys:=by
 refine ⟨rfl,Nat.le_refl _,hm,fun _=>⟨_,rfl,h.lt,fun j x hx=>?_⟩⟩
 have:(⟨g,0,none⟩:Addr).add j=⟨g,j,none⟩:=by unfold Addr.add;split <;> simp_all
 rw [this]
 exact h.cell hx
theorem Blk.of_own {base e n:Nat} {xs:List Value} (h:w.ownsRow base e 1 (.slice (some ⟨g,0,none⟩) n n) n xs) (hx:xs=ys.map rA):Blk w g e ys:=by
 obtain ⟨h1,h2|⟨g',cap,cur,hv,_,hh,_,_,hs,ht⟩⟩:=h
 ·obtain ⟨hv,_⟩:=h2
  injection hv with hv
  cases hv
 ·injection hv with hv _ hc
  injection hv with hv
  injection hv with hv
  subst hc
  subst hv
  unfold Blk
  rw [hh]
  have:cur.toList=xs:=by
   rw [← ht,List.take_of_length_le]
   simp [hs]
  have e2:cur=(ys.map rA).toArray:=by rw [← hx,← this]
  rw [e2]
end
def Nt (w:World) (v:Value) (a:Nat):Prop :=
 ∃ A n c xs,v = .slice A n c∧Rd w A n c xs∧Dig aD xs∧Norm xs∧val aD xs=a
theorem Nt.below {w w' : World} {v:Value} {a:Nat} (h:Nt w v a) (hb:Below w.heap.size w w'):Nt w' v a:=by
 obtain ⟨A,n,c,xs,hv,hr,hd,hn,ha⟩:=h
 exact ⟨A,n,c,xs,hv,hr.below hb,hd,hn,ha⟩
def Lv (k a:Nat):Prop:=a<aD^(2^k)
theorem Lv.mono {k l a:Nat} (h:Lv k a) (hk:k≤l):Lv l a :=
 Nat.lt_of_lt_of_le h (Nat.pow_le_pow_right bC (Nat.pow_le_pow_right (by omega) hk))
theorem Lv.mul {k a b:Nat} (h:Lv k a) (h' : Lv k b):Lv (k+1) (a*b):=by
 unfold Lv at *
 rw [Nat.pow_succ 2 k,Nat.mul_two,Nat.pow_add]
 exact Nat.mul_lt_mul'' h h'
theorem Lv.le {k a b:Nat} (h:Lv k a) (hb:b≤a):Lv k b:=Nat.lt_of_le_of_lt hb h
theorem Lv.add {k a b:Nat} (h:Lv k a) (h' : Lv k b):Lv (k+1) (a+b):=by
 unfold Lv at *
 rw [Nat.pow_succ 2 k,Nat.mul_two,Nat.pow_add]
 generalize aD^2^k=P at *
 rcases Nat.lt_or_ge P 2 with hp|hp
 ·have:P=1:=by omega
  subst this;omega
 ·have:P*2≤P*P:=Nat.mul_le_mul_left _ hp
  omega
theorem Lv.one {k:Nat} (n:Nat) (h:n<aD):Lv k n:=by
 unfold Lv
 have:aD^1≤aD^2^k:=Nat.pow_le_pow_right bC (Nat.one_le_two_pow)
 rw [Nat.pow_one] at this
 omega
theorem Lv.len {k:Nat} {xs:List Nat} (h:Lv k (val aD xs)) (hn:Norm xs):xs.length≤2^k:=aU eH hn h
theorem Lv.len40 {xs:List Nat} (h:Lv 40 (val aD xs)) (hn:Norm xs):xs.length≤1099511627776:=h.len hn
def lenOf:Value→Nat | .slice _ k _=>k|_=>0
def TrimTo (xs:List Nat) (k:Nat):Prop:=k≤xs.length∧Norm (xs.take k)∧val aD (xs.take k)=val aD xs
set_option maxHeartbeats 400000 in
theorem nU (A:Option Addr) (n c:Nat) (xs:List Nat) (w:World) (h:Rd w A n c xs) :
 Calls Tryz.prog 187 #[.slice A n c] w fun e w'=>Hid (∃ k,TrimTo xs k∧e = .returned (.slice A k c))∧w=w':=by
 have HR:=Lib.hid h
 have hnc:n≤c:=h.cap
 have hcm:c≤9223372036854775807:=h.2.2.1
 clear h
 go_enter Tryz.func187,Tryz.ntmps187
 go_wp2
 go_loop [0] (fun v => ∃ k:Nat,k≤n∧val aD (xs.take k)=val aD xs∧v = .slice A k c) (fun v=>lenOf v)
 case atStart=>exact ⟨n,Nat.le_refl _,by rw [List.take_of_length_le (by rw [HR.out.len];omega)],rfl⟩
 case round =>
  obtain ⟨k,hk,hv,rfl⟩:=hrel
  have HV:=Lib.hid hv
  clear hv
  by_cases hk0:0<k
  ·obtain ⟨ad,x,rfl,_hb,hx,hcell⟩:=HR.out.at_ (k:=k-1) (by omega)
   have HX:=Lib.hid hx
   clear hx
   go_wp2
   ·have h0 : x = 0 := by have:((x:Int)==0)=true:=by assumption
                          simpa using this
    subst h0
    refine ⟨⟨k-1,by omega,?_,rfl⟩,by simp only [lenOf];omega⟩
    have hlt:k-1<xs.length:=by rw [HR.out.len];omega
    have hz:xs[k-1]=0:=by have:=HX.out;rw [List.getElem?_eq_getElem hlt] at this;injection this
    have:=pL aD hlt hz
    rw [show k-1+1=k from by omega] at this
    rw [← this];exact HV.out
   ·have h0:((x:Int)==0)=false:=by assumption
    go_ret
    refine ⟨⟨k,⟨by rw [HR.out.len];exact hk,zF (by rw [HR.out.len];exact hk) (fun _=>?_),HV.out⟩,rfl⟩,rfl⟩
    rw [HX.out]
    intro e
    injection e with e
    subst e
    simp at h0
  ·have hz:decide (0<(k:Int))=false:=by simp;omega
   have hk00:k=0:=by omega
   have HK:=Lib.hid hk00
   clear hk00
   go_wp2
   go_ret
   refine ⟨⟨k,⟨by omega,?_,HV.out⟩,rfl⟩,rfl⟩
   rw [HK.out]
   simpa using Norm.nil
theorem eE (A:Option Addr) (n c:Nat) (xs:List Nat) (w:World) (h:Rd w A n c xs) (hd:Dig aD xs) :
 Calls Tryz.prog 187 #[.slice A n c] w fun e w'=>(∃ v,e = .returned v∧Nt w v (val aD xs))∧w=w':=by
 refine (nU A n c xs w h).mono ?_
 rintro e w' ⟨⟨k,⟨hk,hn,hv⟩,rfl⟩,rfl⟩
 refine ⟨⟨_,rfl,A,k,c,xs.take k,rfl,h.take (by rw [← h.len];exact hk),hd.take k,hn,hv⟩,rfl⟩
theorem bX {k:IntKind} {a b:Int} (h:a=b):Ending.returned (.int k a) = .returned (.int k b):=by rw [h]
theorem rC {a b:Bool} (h:a=b):Ending.returned (.bool a) = .returned (.bool b):=by rw [h]
def GivesNt (w:World) (a:Nat) (e:Ending) (w' : World):Prop := ∃ v,e = .returned v∧Nt w' v a∧Below w.heap.size w w'
def Gives (w:World) (v:Value) (e:Ending) (w' : World):Prop:=e = .returned v∧Below w.heap.size w w'
theorem cI {B:Nat} {w0 w:World} (h:Below B w0 w) (n:Nat):Below B w0 (w.drewN n):=h.trans ⟨rfl,rfl,rfl,Nat.le_refl _,fun _ _=>rfl⟩
theorem cB (x:Nat) (hx:x<aD) (w:World):Calls Tryz.prog 120 #[.int .u64 (x:Int)] w (GivesNt w x):=by
 have hblk:Blk (w.alloc (.cells #[.int .u64 (x:Int)] 154)) w.heap.size 154 [x]:=heap_alloc_new w _
 have hrd:=hblk.rd (by simp [maxLen])
 have hd:Dig aD [x]:=Dig.cons hx (Dig.nil _)
 have HH:=Lib.hid (And.intro hrd hd)
 clear hblk hrd hd
 go_enter Tryz.func120,Tryz.ntmps120
 go_wp2_with (go_at_call 187;refine (eE _ _ _ [x] _ HH.out.1 HH.out.2).mono ?_;rintro e w' ⟨⟨v,rfl,hv⟩,rfl⟩)
 go_ret
 refine ⟨v,rfl,by simpa [val] using hv,(Below.refl _ _).alloc (Nat.le_refl _) _⟩
theorem pZ (A:Option Addr) (n c:Nat) (w:World) :
 Calls Tryz.prog 113 #[.slice A n c] w fun e w'=>e = .returned (.bool (decide (n=0)))∧w=w':=by
 go_enter Tryz.func113,Tryz.ntmps113
 go_wp2
 go_ret
 refine ⟨?_,rfl⟩
 congr 2
 by_cases h:n=0 <;> simp [h]
theorem low_any (A:Option Addr) (n c:Nat) (xs:List Nat) (w:World) (h:Rd w A n c xs) (hd:Dig aD xs) :
 Calls Tryz.prog 123 #[.slice A n c] w fun e w'=>e = .returned (.int .u64 ((val aD xs%aD:Nat):Int))∧w=w':=by
 have HR:=Lib.hid h
 have HD:=Lib.hid hd
 have hnc:n≤c:=h.cap
 have hcm:c≤9223372036854775807:=h.2.2.1
 clear h hd
 rcases Nat.eq_zero_or_pos n with rfl|hn
 ·go_enter Tryz.func123,Tryz.ntmps123
  go_wp2_with (go_at_call 113;refine (pZ _ _ _ _).mono ?_;rintro e w' ⟨rfl,rfl⟩)
  go_ret
  refine ⟨?_,rfl⟩
  have:xs = []:=List.eq_nil_of_length_eq_zero HR.out.len
  subst this
  simp [val]
 ·obtain ⟨ad,x,rfl,_hb,hx,hcell⟩:=HR.out.at_ hn
  have hz:decide (n=0)=false:=by simp;omega
  have HX:=Lib.hid hx
  have hcell' : w.cell? ad=some (.int .u64 (x:Int)):=by simpa [Addr.add] using hcell
  clear hx
  go_enter Tryz.func123,Tryz.ntmps123
  go_wp2_with (go_at_call 113;refine (pZ _ _ _ _).mono ?_;rintro e w' ⟨rfl,rfl⟩)
  go_ret
  refine ⟨bX ?_,rfl⟩
  have hx:=HX.out
  match xs,hx,HD.out with
  | y::l,hx,hd =>
    simp at hx
    subst hx
    have:=hd y (by simp)
    rw [val,Nat.add_mul_mod_self_left,Nat.mod_eq_of_lt this]
theorem isOne_any (A:Option Addr) (n c:Nat) (xs:List Nat) (w:World) (h:Rd w A n c xs) (hd:Dig aD xs) (hn:Norm xs) :
 Calls Tryz.prog 115 #[.slice A n c] w fun e w'=>e = .returned (.bool (decide (val aD xs=1)))∧w=w':=by
 have HR:=Lib.hid h
 have HD:=Lib.hid (And.intro hd hn)
 have hnc:n≤c:=h.cap
 have hcm:c≤9223372036854775807:=h.2.2.1
 clear h hd hn
 by_cases h1:n=1
 ·subst h1
  obtain ⟨ad,x,rfl,_hb,hx,hcell⟩:=HR.out.at_ Nat.zero_lt_one
  have HX:=Lib.hid hx
  have hcell' : w.cell? ad=some (.int .u64 (x:Int)):=by simpa [Addr.add] using hcell
  clear hx hcell
  go_enter Tryz.func115,Tryz.ntmps115
  go_wp2
  go_ret
  refine ⟨?_,rfl⟩
  have hx:=HX.out
  have hl:=HR.out.len
  match xs,hx,hl with
  | [y],hx,_ =>
    simp at hx
    subst hx
    congr 2
    simp only [val]
    by_cases e:y=1
    ·subst e;simp
    ·simp [e];omega
 ·have hz:((n:Int)==1)=false:=by simp;omega
  go_enter Tryz.func115,Tryz.ntmps115
  go_wp2
  go_ret
  refine ⟨?_,rfl⟩
  have:¬ val aD xs=1:=by
   intro e
   have hl:=HR.out.len
   have hlt:xs.length≤1:=aU eH HD.out.2 (by rw [e,Nat.pow_one];exact eH)
   have:xs = []:=List.eq_nil_of_length_eq_zero (by omega)
   subst this
   simp [val] at e
  simp [this]
def bS (a b:Int):Int:=if a<b then -1 else if b<a then 1 else 0
theorem qA (a:Int) (w:World):Calls Tryz.prog 258 #[.int .i64 a] w fun e w'=>e = .returned (.bool false)∧w=w':=by
 have h:(a != a)=false:=by simp
 go_enter Tryz.func258,Tryz.ntmps258
 go_wp2
 go_ret
 exact ⟨rC (by simp),rfl⟩
theorem cmpInt_any (a b:Int) (w:World):Calls Tryz.prog 230 #[.int .i64 a,.int .i64 b] w fun e w'=>e = .returned (.int .i64 (bS a b))∧w=w':=by
 rcases Int.lt_trichotomy a b with h|h|h
 ·have hp:=Lib.hid (show bS a b = -1 by unfold bS;rw [if_pos h])
  go_enter Tryz.func230,Tryz.ntmps230
  go_wp2_with (go_at_call 258;refine (qA _ _).mono ?_;rintro e w' ⟨rfl,rfl⟩)
  go_ret
  exact ⟨bX hp.out.symm,rfl⟩
 ·subst h
  have hp:=Lib.hid (show bS a a=0 by unfold bS;rw [if_neg (by omega),if_neg (by omega)])
  go_enter Tryz.func230,Tryz.ntmps230
  go_wp2_with (go_at_call 258;refine (qA _ _).mono ?_;rintro e w' ⟨rfl,rfl⟩)
  go_ret
  exact ⟨bX hp.out.symm,rfl⟩
 ·have hp:=Lib.hid (show bS a b=1 by unfold bS;rw [if_neg (by omega),if_pos h])
  go_enter Tryz.func230,Tryz.ntmps230
  go_wp2_with (go_at_call 258;refine (qA _ _).mono ?_;rintro e w' ⟨rfl,rfl⟩)
  go_ret
  exact ⟨bX hp.out.symm,rfl⟩
theorem nV (a:Int) (w:World):Calls Tryz.prog 259 #[.int .u64 a] w fun e w'=>e = .returned (.bool false)∧w=w':=by
 have h:(a != a)=false:=by simp
 go_enter Tryz.func259,Tryz.ntmps259
 go_wp2
 go_ret
 exact ⟨rC (by simp),rfl⟩
theorem cmpWord_any (a b:Int) (w:World):Calls Tryz.prog 231 #[.int .u64 a,.int .u64 b] w fun e w'=>e = .returned (.int .i64 (bS a b))∧w=w':=by
 rcases Int.lt_trichotomy a b with h|h|h
 ·have hp:=Lib.hid (show bS a b = -1 by unfold bS;rw [if_pos h])
  go_enter Tryz.func231,Tryz.ntmps231
  go_wp2_with (go_at_call 259;refine (nV _ _).mono ?_;rintro e w' ⟨rfl,rfl⟩)
  go_ret
  exact ⟨bX hp.out.symm,rfl⟩
 ·subst h
  have hp:=Lib.hid (show bS a a=0 by unfold bS;rw [if_neg (by omega),if_neg (by omega)])
  go_enter Tryz.func231,Tryz.ntmps231
  go_wp2_with (go_at_call 259;refine (nV _ _).mono ?_;rintro e w' ⟨rfl,rfl⟩)
  go_ret
  exact ⟨bX hp.out.symm,rfl⟩
 ·have hp:=Lib.hid (show bS a b=1 by unfold bS;rw [if_neg (by omega),if_pos h])
  go_enter Tryz.func231,Tryz.ntmps231
  go_wp2_with (go_at_call 259;refine (nV _ _).mono ?_;rintro e w' ⟨rfl,rfl⟩)
  go_ret
  exact ⟨bX hp.out.symm,rfl⟩
theorem cmpI_len {B:Nat} (hB:1<B) {a b:List Nat} (ha:Dig B a) (hb:Dig B b) (na:Norm a) (nb:Norm b) (h:a.length≠b.length):bS a.length b.length=bS (val B a) (val B b):=by
 unfold bS
 rcases Nat.lt_or_gt_of_ne h with h|h
 ·have:=dF hB ha nb h
  rw [if_pos (by omega),if_pos (by omega)]
 ·have:=dF hB hb na h
  rw [if_neg (by omega),if_pos (by omega),if_neg (by omega),if_pos (by omega)]
theorem wW {B:Nat} {a b:List Nat} (hl:a.length=b.length) (ha:Dig B a) (hb:Dig B b) {k:Nat} (hk:k<a.length) (htop:a.drop (k+1)=b.drop (k+1)) {x y:Nat} (hx:a[k]?=some x) (hy:b[k]?=some y) (hne:x≠y) :
 bS x y=bS (val B a) (val B b):=by
 rw [List.getElem?_eq_getElem hk] at hx
 rw [List.getElem?_eq_getElem (by omega)] at hy
 injection hx with hx
 injection hy with hy
 subst hx
 subst hy
 unfold bS
 rcases Nat.lt_or_gt_of_ne hne with h|h
 ·have:=zE hl ha hk htop h
  rw [if_pos (by omega),if_pos (by omega)]
 ·have:=zE hl.symm hb (by omega) htop.symm h
  rw [if_neg (by omega),if_pos (by omega),if_neg (by omega),if_pos (by omega)]
def Agree (a b:List Nat) (k:Nat):Prop:=a.drop k=b.drop k
theorem Agree.step {a b:List Nat} {k:Nat} (h:Agree a b (k+1)) {x y:Nat} (hx:a[k]?=some x) (hy:b[k]?=some y) (he:x=y):Agree a b k:=by
 obtain ⟨h1,e1⟩:=List.getElem?_eq_some_iff.1 hx
 obtain ⟨h2,e2⟩:=List.getElem?_eq_some_iff.1 hy
 unfold Agree at *
 rw [List.drop_eq_getElem_cons h1,List.drop_eq_getElem_cons h2,h,e1,e2,he]
set_option maxHeartbeats 1000000 in
theorem uG (A:Option Addr) (n c:Nat) (xs:List Nat) (A' : Option Addr) (n' c' : Nat) (ys:List Nat) (w:World) (h:Rd w A n c xs) (h' : Rd w A' n' c' ys)
 (hd:Dig aD xs) (hd' : Dig aD ys) (hn:Norm xs) (hn' : Norm ys) :
 Calls Tryz.prog 178 #[.slice A n c,.slice A' n' c'] w (Gives w (.int .i64 (bS (val aD xs) (val aD ys)))):=by
 have HX:=Lib.hid (And.intro h (And.intro hd hn))
 have HY:=Lib.hid (And.intro h' (And.intro hd' hn'))
 have hnc:n≤c:=h.cap
 have hcm:c≤9223372036854775807:=h.2.2.1
 have hnc' : n'≤c':=h'.cap
 have hcm' : c'≤9223372036854775807:=h'.2.2.1
 clear h h' hd hd' hn hn'
 by_cases hl:n=n'
 ·subst hl
  have ht:((n:Int) != n)=false:=by simp
  go_enter Tryz.func178,Tryz.ntmps178
  go_wp2
  go_loopw [5] (fun i wr => ∃ k:Nat,k≤n∧Agree xs ys k∧i = .int .i64 ((k:Int)-1)∧Below w.heap.size w wr) (fun i _=>(intOf i+1).toNat)
  case atStart=>exact ⟨n,Nat.le_refl _,by unfold Agree;rw [List.drop_eq_nil_of_le (by rw [HX.out.1.len];omega),List.drop_eq_nil_of_le (by rw [HY.out.1.len];omega)],rfl,Below.refl _ _⟩
  case round =>
   obtain ⟨k,hk,hag,rfl,hb⟩:=hrel
   have HA:=Lib.hid hag
   clear hag
   rcases Nat.eq_zero_or_pos k with rfl|hk0
   ·go_wp2
    go_ret
    refine ⟨bX ?_,hb⟩
    have:=HA.out
    unfold Agree at this
    simp at this
    rw [this]
    unfold bS
    simp
   ·obtain ⟨m,rfl⟩:∃ m,k=m+1:=⟨k-1,by omega⟩
    obtain ⟨ad,x,hA,_,hx,hcx⟩:=(HX.out.1.below hb).at_ (k:=m) (by omega)
    obtain ⟨ad',y,hA',_,hy,hcy⟩:=(HY.out.1.below hb).at_ (k:=m) (by omega)
    subst hA
    subst hA'
    have HE:=Lib.hid (And.intro hx hy)
    clear hx hy hk0
    have hidx:((m:Int)+1-1)=m:=by omega
    simp only [Int.natCast_add,Int.natCast_one,hidx]
    clear hidx
    by_cases he:x=y
    ·have ht:((x:Int) != y)=false:=by simp [he]
     have HE2:=Lib.hid he
     clear he
     go_wp2
     go_quiet (fail)
     go_wp2
     go_roundw
     case rel=>exact ⟨m,by omega,HA.out.step HE.out.1 HE.out.2 HE2.out,rfl,cI hb _⟩
     case measure=>simp [intOf]
    ·have ht:((x:Int) != y)=true:=by simp;omega
     have HE2:=Lib.hid he
     clear he
     go_wp2
     go_quiet (fail)
     have hcx2:(wr.drewN nq).cell? (ad.add m)=some (.int .u64 (x:Int)):=hcx
     have hcy2:(wr.drewN nq).cell? (ad'.add m)=some (.int .u64 (y:Int)):=hcy
     have hb2:=cI hb nq
     clear hb hcx hcy
     generalize wr.drewN nq=w2 at *
     go_wp2
     go_quiet ((go_at_call 231;exact Calls.quiet_of_same ((cmpWord_any _ _ _).mono fun _ _ h=>⟨h.1,h.2.symm⟩)))
     go_wp2
     go_ret
     refine ⟨bX ?_,cI hb2 _⟩
     exact wW (by rw [HX.out.1.len,HY.out.1.len]) HX.out.2.1 HY.out.2.1 (by rw [HX.out.1.len];omega) HA.out HE.out.1 HE.out.2 HE2.out
 ·have ht:((n:Int) != n')=true:=by simp;omega
  have HL:=Lib.hid hl
  clear hl
  go_enter Tryz.func178,Tryz.ntmps178
  go_wp2_with (go_at_call 230;refine (cmpInt_any _ _ _).mono ?_;rintro e w' ⟨rfl,rfl⟩)
  go_ret
  refine ⟨bX ?_,Below.refl _ _⟩
  have e1:=HX.out.1.len
  have e2:=HY.out.1.len
  rw [← e1,← e2]
  exact cmpI_len eH HX.out.2.1 HY.out.2.1 HX.out.2.2 HY.out.2.2 (by rw [e1,e2];exact HL.out)
theorem fU (x y c:Nat) (hc:c≤1) (w:World) :
 (callFunc 188 #[.int .u64 (x:Int),.int .u64 (y:Int),.int .u64 (c:Int)]).run Tryz.prog w =
  .ok (.value (.tuple #[.int .u64 (((x+y+c)%aD:Nat):Int),.int .u64 (((x+y+c)/aD:Nat):Int)])) w:=by
 rw [run_callFunc_extern Tryz.func188 (by kernel_rfl) (by kernel_rfl) (by kernel_rfl) (e:=add64Entry) (by kernel_rfl),run_add64 x y c (by omega) (by omega) (by omega) (by omega)]
 simp only [Result.andThen,aD]
 congr 5 <;> omega
theorem mQ (x y b:Nat) (hb:b≤1) (w:World) :
 (callFunc 262 #[.int .u64 (x:Int),.int .u64 (y:Int),.int .u64 (b:Int)]).run Tryz.prog w =
  .ok (.value (.tuple #[.int .u64 (((x+aD-y-b)%aD:Nat):Int),.int .u64 ((if x<y+b then 1 else 0:Nat):Int)])) w:=by
 rw [run_callFunc_extern Tryz.func262 (by kernel_rfl) (by kernel_rfl) (by kernel_rfl) (e:=sub64Entry) (by kernel_rfl),run_sub64 x y b hb]
 rfl
theorem eR:(Tryz.prog.info? 154).map (fun i=>(i.zero,i.size,i.bytes))=some (some (.int .u64 0),1,8):=by kernel_rfl
theorem dQ {w:World} {g base n:Nat} (h:w.ownsRow base 154 1 (.slice (some ⟨g,0,none⟩) n n) n (madeCells #[Value.int .u64 0] n).toList):Blk w g 154 (List.replicate n 0):=by
 refine Blk.of_own h ?_
 rw [toList_madeCells_one]
 simp [rA]
def AddInv (xs ys zs:List Nat) (k cy:Nat):Prop :=
 cy≤1∧Dig aD zs∧zs.length=xs.length+1∧val aD (zs.take k)+aD^k*cy=val aD (xs.take k)+val aD (ys.take k)∧(∀ j,k≤j→j<zs.length→zs[j]?=some 0)
theorem AddInv.step {xs ys zs:List Nat} {k cy x y:Nat} (h:AddInv xs ys zs k cy) (hx:xs[k]?=some x) (hy:ys.getD k 0=y) (hdx:Dig aD xs) (hdy:Dig aD ys) :
 AddInv xs ys (zs.set k ((x+y+cy)%aD)) (k+1) ((x+y+cy)/aD):=by
 obtain ⟨h1,h2,h3,h4,h5⟩:=h
 obtain ⟨hk,ex⟩:=List.getElem?_eq_some_iff.1 hx
 have bx:=hdx.at_ hx
 have by' : y<aD:=by rw [← hy];exact hdy.get0 bC k
 have hq:(x+y+cy)/aD≤1:=by
  have:=aJ
  rw [this] at bx by' ⊢
  omega
 have hr:(x+y+cy)%aD<aD:=Nat.mod_lt _ bC
 have hdm:=Nat.div_add_mod (x+y+cy) aD
 refine ⟨hq,h2.set hr,by simp [h3],?_,?_⟩
 ·have e1:val aD ((zs.set k ((x+y+cy)%aD)).take (k+1))=val aD (zs.take k)+aD^k*((x+y+cy)%aD):=by
   rw [aF _ _ _ (by simp;omega),List.take_set_of_le (Nat.le_refl _)]
   simp
  have e2:val aD (ys.take (k+1))=val aD (ys.take k)+aD^k*y:=by
   rcases Nat.lt_or_ge k ys.length with hl|hl
   ·rw [aF _ _ _ hl]
    simp [List.getD,List.getElem?_eq_getElem hl] at hy
    rw [hy]
   ·rw [List.take_of_length_le (by omega),List.take_of_length_le hl]
    simp [List.getD,List.getElem?_eq_none hl] at hy
    rw [← hy];simp
  rw [e1,e2,aF _ _ _ hk,ex,Nat.pow_succ]
  generalize (x+y+cy)/aD=q at *
  generalize (x+y+cy)%aD=r at *
  generalize aD^k=P at *
  generalize aD=V at *
  grind
 ·intro j hj hl
  rw [List.getElem?_set_ne (by omega)]
  exact h5 j (by omega) (by simpa using hl)
theorem AddInv.start {xs ys:List Nat}:AddInv xs ys (List.replicate (xs.length+1) 0) 0 0 :=
 ⟨by omega,Dig.replicate bC _,by simp,by simp [val],by intro j _ h;simp at h;simp [h]⟩
theorem AddInv.finish {xs ys zs:List Nat} {cy:Nat} (h:AddInv xs ys zs xs.length cy) (hl:ys.length≤xs.length) :
 Dig aD (zs.set xs.length cy)∧val aD (zs.set xs.length cy)=val aD xs+val aD ys:=by
 obtain ⟨h1,h2,h3,h4,h5⟩:=h
 refine ⟨h2.set (by have:=eH;omega),?_⟩
 rw [List.take_of_length_le (Nat.le_refl _),List.take_of_length_le (l:=ys) hl] at h4
 rw [← h4,← List.take_of_length_le (l:=zs.set xs.length cy) (i:=xs.length+1) (by simp;omega),aF _ _ _ (by simp;omega),List.take_set_of_le (Nat.le_refl _)]
 simp
set_option maxHeartbeats 1000000 in
theorem plus_ge (A:Option Addr) (n c:Nat) (xs:List Nat) (A' : Option Addr) (n' c' : Nat) (ys:List Nat) (w:World) (h:Rd w A n c xs) (h' : Rd w A' n' c' ys)
 (hd:Dig aD xs) (hd' : Dig aD ys) (hn:n≤2199023255552) (hle:¬ n<n') :
 Calls Tryz.prog 121 #[.slice A n c,.slice A' n' c'] w (GivesNt w (val aD xs+val aD ys)):=by
 have HX:=Lib.hid (And.intro h hd)
 have HY:=Lib.hid (And.intro h' hd')
 have hnc:n≤c:=h.cap
 have hcm:c≤9223372036854775807:=h.2.2.1
 have hnc' : n'≤c':=h'.cap
 have hcm' : c'≤9223372036854775807:=h'.2.2.1
 have hle' : n'≤n:=by omega
 obtain ⟨i0,hi,hz0,hz1,hz2⟩:=info_parts eR
 have HI:=Lib.hid (And.intro hi (And.intro hz0 (And.intro hz1 hz2)))
 clear h h' hd hd' hi hz0 hz1 hz2
 go_enter Tryz.func121,Tryz.ntmps121
 go_wp2_with (at_make;refine wpList_make_full _ rfl _ _ 94 rfl w.heap.size 154 i0 (.int .u64 0) 1 Tryz.underlying94 HI.out.1 HI.out.2.1 HI.out.2.2.1 _ _ _ _ (n+1) rfl rfl ?b0 ?b1 ?b2 ?b3 (Nat.le_refl _) ?_)
 case b0=>omega
 case b1=>omega
 case b2=>rw [HI.out.2.2.2];omega
 case b3=>show n+1≤9223372036854775807;omega
 intro w1 hown hg1
 have hb1:Below w.heap.size w w1:=(Below.refl _ _).grown hg1 (Nat.le_refl _) (fun k h=>by cases h)
 have hblk:=dQ hown
 have e0:AddInv xs ys (List.replicate (n+1) 0) 0 0:=by
  have:=AddInv.start (xs:=xs) (ys:=ys)
  rwa [HX.out.1.len] at this
 have HB:=Lib.hid hblk
 have H0:=Lib.hid e0
 clear hown hg1 hblk e0
 obtain ⟨g,hg⟩:∃ g,g=w.heap.size:=⟨_,rfl⟩
 rw [← hg] at HB ⊢
 have HG:=Lib.hid hg
 clear hg
 go_wp2
 go_loopw [6,23] (fun cy i wr => ∃ (k cv:Nat) (zs:List Nat),k≤n'∧i = .int .i64 (k:Int)∧cy = .int .u64 (cv:Int)∧AddInv xs ys zs k cv∧Blk wr g 154 zs∧Below w.heap.size w wr) (fun _ i _=>n'-(intOf i).toNat)
 case atStart=>exact ⟨0,0,_,Nat.zero_le _,rfl,rfl,H0.out,HB.out,hb1⟩
 case round =>
  obtain ⟨k,cv,zs,hk,rfl,rfl,hinv,hblk,hb⟩:=hrel
  have hcv:cv≤1:=hinv.1
  have hzl:k<zs.length:=by rw [hinv.2.2.1,HX.out.1.len];omega
  have HV:=Lib.hid hinv
  by_cases hlt:k<n'
  ·obtain ⟨ad,x,hA,_,hx,hcx⟩:=(HX.out.1.below hb).at_ (k:=k) (by omega)
   obtain ⟨ad',y,hA',_,hy,hcy⟩:=(HY.out.1.below hb).at_ (k:=k) (by omega)
   subst hA
   subst hA'
   obtain ⟨z,hcz⟩:∃ z:Int,wr.cell? ⟨g,k,none⟩=some (.int .u64 z):=⟨_,hblk.cell_get hzl⟩
   have hfz:=hblk.frozen k
   have hadd:=fun w=>fU x y cv hcv w
   have HE:=Lib.hid (And.intro hx (And.intro hy hblk))
   clear hx hy hinv hblk hzl
   go_wp2
   go_roundw
   case rel=>exact ⟨k+1,(x+y+cv)/aD,zs.set k ((x+y+cv)%aD),by omega,by go_num,rfl,HV.out.step HE.out.1 (by rw [List.getD,HE.out.2.1];rfl) HX.out.2 HY.out.2,HE.out.2.2.set_ _ _,hb.setCell (by rw [HG.out];exact Nat.le_refl _) _⟩
   case measure=>simp [intOf];omega
  ·obtain rfl:k=n':=by omega
   have HBl:=Lib.hid hblk
   clear hinv hblk hlt hzl
   go_wp2
   go_loopw [6,9] (fun cy i wr => ∃ (m cv:Nat) (zs:List Nat),m≤n∧k≤m∧i = .int .i64 (m:Int)∧cy = .int .u64 (cv:Int)∧AddInv xs ys zs m cv∧Blk wr g 154 zs∧Below w.heap.size w wr) (fun _ i _=>n-(intOf i).toNat)
   case atStart=>exact ⟨k,cv,zs,by omega,by omega,rfl,rfl,HV.out,HBl.out,hb⟩
   case round =>
    clear hb hcv
    obtain ⟨m,cv,zs,hm,hkm,rfl,rfl,hinv,hblk,hb⟩:=hrel
    have hcv:cv≤1:=hinv.1
    have hzl:m<zs.length:=by rw [hinv.2.2.1,HX.out.1.len];omega
    obtain ⟨z,hcz⟩:∃ z:Int,wr.cell? ⟨g,m,none⟩=some (.int .u64 z):=⟨_,hblk.cell_get hzl⟩
    have hfz:=hblk.frozen m
    have HV:=Lib.hid hinv
    by_cases hlt:m<n
    ·obtain ⟨ad,x,hA,_,hx,hcx⟩:=(HX.out.1.below hb).at_ (k:=m) (by omega)
     subst hA
     have hadd:=fun w=>fU x 0 cv hcv w
     simp only [Int.natCast_zero] at hadd
     have HE:=Lib.hid (And.intro hx hblk)
     clear hx hinv hblk hzl
     go_wp2
     go_roundw
     case rel=>exact ⟨m+1,(x+0+cv)/aD,zs.set m ((x+0+cv)%aD),by omega,by omega,by go_num,rfl,HV.out.step HE.out.1 (by rw [List.getD,List.getElem?_eq_none (by rw [HY.out.1.len];omega)];rfl) HX.out.2 HY.out.2,HE.out.2.set_ _ _,hb.setCell (by rw [HG.out];exact Nat.le_refl _) _⟩
     case measure=>simp [intOf];omega
    ·obtain rfl:m=n:=by omega
     have hfin:=HV.out
     rw [← HX.out.1.len] at hfin
     have hfin2:=hfin.finish (by rw [HY.out.1.len,HX.out.1.len];omega)
     rw [HX.out.1.len] at hfin2
     have hb2:=hblk.set_ m cv
     have hl2:(zs.set m cv).length=m+1:=by rw [List.length_set,hinv.2.2.1,HX.out.1.len]
     have hrd:=hb2.rd (by rw [hl2];show m+1≤9223372036854775807;omega)
     rw [hl2] at hrd
     have HF:=Lib.hid (And.intro hfin2 (And.intro hrd hb2))
     clear hfin hfin2 hb2 hl2 hrd hinv hblk hlt hzl
     go_wp2_with (go_at_call 187;refine (eE _ _ _ (zs.set m cv) _ HF.out.2.1 HF.out.1.1).mono ?_;rintro e w' ⟨⟨v,rfl,hv⟩,rfl⟩)
     go_ret
     exact ⟨v,rfl,by rw [← HF.out.1.2];exact hv,hb.setCell (by rw [HG.out];exact Nat.le_refl _) _⟩
set_option maxHeartbeats 1000000 in
theorem plus_lt (A:Option Addr) (n c:Nat) (xs:List Nat) (A' : Option Addr) (n' c' : Nat) (ys:List Nat) (w:World) (h:Rd w A n c xs) (h' : Rd w A' n' c' ys)
 (hd:Dig aD xs) (hd' : Dig aD ys) (hn:n≤2199023255552) (hle:n'<n) :
 Calls Tryz.prog 121 #[.slice A' n' c',.slice A n c] w (GivesNt w (val aD xs+val aD ys)):=by
 have HX:=Lib.hid (And.intro h hd)
 have HY:=Lib.hid (And.intro h' hd')
 have hnc:n≤c:=h.cap
 have hcm:c≤9223372036854775807:=h.2.2.1
 have hnc' : n'≤c':=h'.cap
 have hcm' : c'≤9223372036854775807:=h'.2.2.1
 have hle' : n'≤n:=by omega
 obtain ⟨i0,hi,hz0,hz1,hz2⟩:=info_parts eR
 have HI:=Lib.hid (And.intro hi (And.intro hz0 (And.intro hz1 hz2)))
 clear h h' hd hd' hi hz0 hz1 hz2
 go_enter Tryz.func121,Tryz.ntmps121
 go_wp2_with (at_make;refine wpList_make_full _ rfl _ _ 94 rfl w.heap.size 154 i0 (.int .u64 0) 1 Tryz.underlying94 HI.out.1 HI.out.2.1 HI.out.2.2.1 _ _ _ _ (n+1) rfl rfl ?b0 ?b1 ?b2 ?b3 (Nat.le_refl _) ?_)
 case b0=>omega
 case b1=>omega
 case b2=>rw [HI.out.2.2.2];omega
 case b3=>show n+1≤9223372036854775807;omega
 intro w1 hown hg1
 have hb1:Below w.heap.size w w1:=(Below.refl _ _).grown hg1 (Nat.le_refl _) (fun k h=>by cases h)
 have hblk:=dQ hown
 have e0:AddInv xs ys (List.replicate (n+1) 0) 0 0:=by
  have:=AddInv.start (xs:=xs) (ys:=ys)
  rwa [HX.out.1.len] at this
 have HB:=Lib.hid hblk
 have H0:=Lib.hid e0
 clear hown hg1 hblk e0
 obtain ⟨g,hg⟩:∃ g,g=w.heap.size:=⟨_,rfl⟩
 rw [← hg] at HB ⊢
 have HG:=Lib.hid hg
 clear hg
 go_wp2
 go_loopw [6,23] (fun cy i wr => ∃ (k cv:Nat) (zs:List Nat),k≤n'∧i = .int .i64 (k:Int)∧cy = .int .u64 (cv:Int)∧AddInv xs ys zs k cv∧Blk wr g 154 zs∧Below w.heap.size w wr) (fun _ i _=>n'-(intOf i).toNat)
 case atStart=>exact ⟨0,0,_,Nat.zero_le _,rfl,rfl,H0.out,HB.out,hb1⟩
 case round =>
  obtain ⟨k,cv,zs,hk,rfl,rfl,hinv,hblk,hb⟩:=hrel
  have hcv:cv≤1:=hinv.1
  have hzl:k<zs.length:=by rw [hinv.2.2.1,HX.out.1.len];omega
  have HV:=Lib.hid hinv
  by_cases hlt:k<n'
  ·obtain ⟨ad,x,hA,_,hx,hcx⟩:=(HX.out.1.below hb).at_ (k:=k) (by omega)
   obtain ⟨ad',y,hA',_,hy,hcy⟩:=(HY.out.1.below hb).at_ (k:=k) (by omega)
   subst hA
   subst hA'
   obtain ⟨z,hcz⟩:∃ z:Int,wr.cell? ⟨g,k,none⟩=some (.int .u64 z):=⟨_,hblk.cell_get hzl⟩
   have hfz:=hblk.frozen k
   have hadd:=fun w=>fU x y cv hcv w
   have HE:=Lib.hid (And.intro hx (And.intro hy hblk))
   clear hx hy hinv hblk hzl
   go_wp2
   go_roundw
   case rel=>exact ⟨k+1,(x+y+cv)/aD,zs.set k ((x+y+cv)%aD),by omega,by go_num,rfl,HV.out.step HE.out.1 (by rw [List.getD,HE.out.2.1];rfl) HX.out.2 HY.out.2,HE.out.2.2.set_ _ _,hb.setCell (by rw [HG.out];exact Nat.le_refl _) _⟩
   case measure=>simp [intOf];omega
  ·obtain rfl:k=n':=by omega
   have HBl:=Lib.hid hblk
   clear hinv hblk hlt hzl
   go_wp2
   go_loopw [6,9] (fun cy i wr => ∃ (m cv:Nat) (zs:List Nat),m≤n∧k≤m∧i = .int .i64 (m:Int)∧cy = .int .u64 (cv:Int)∧AddInv xs ys zs m cv∧Blk wr g 154 zs∧Below w.heap.size w wr) (fun _ i _=>n-(intOf i).toNat)
   case atStart=>exact ⟨k,cv,zs,by omega,by omega,rfl,rfl,HV.out,HBl.out,hb⟩
   case round =>
    clear hb hcv
    obtain ⟨m,cv,zs,hm,hkm,rfl,rfl,hinv,hblk,hb⟩:=hrel
    have hcv:cv≤1:=hinv.1
    have hzl:m<zs.length:=by rw [hinv.2.2.1,HX.out.1.len];omega
    obtain ⟨z,hcz⟩:∃ z:Int,wr.cell? ⟨g,m,none⟩=some (.int .u64 z):=⟨_,hblk.cell_get hzl⟩
    have hfz:=hblk.frozen m
    have HV:=Lib.hid hinv
    by_cases hlt:m<n
    ·obtain ⟨ad,x,hA,_,hx,hcx⟩:=(HX.out.1.below hb).at_ (k:=m) (by omega)
     subst hA
     have hadd:=fun w=>fU x 0 cv hcv w
     simp only [Int.natCast_zero] at hadd
     have HE:=Lib.hid (And.intro hx hblk)
     clear hx hinv hblk hzl
     go_wp2
     go_roundw
     case rel=>exact ⟨m+1,(x+0+cv)/aD,zs.set m ((x+0+cv)%aD),by omega,by omega,by go_num,rfl,HV.out.step HE.out.1 (by rw [List.getD,List.getElem?_eq_none (by rw [HY.out.1.len];omega)];rfl) HX.out.2 HY.out.2,HE.out.2.set_ _ _,hb.setCell (by rw [HG.out];exact Nat.le_refl _) _⟩
     case measure=>simp [intOf];omega
    ·obtain rfl:m=n:=by omega
     have hfin:=HV.out
     rw [← HX.out.1.len] at hfin
     have hfin2:=hfin.finish (by rw [HY.out.1.len,HX.out.1.len];omega)
     rw [HX.out.1.len] at hfin2
     have hb2:=hblk.set_ m cv
     have hl2:(zs.set m cv).length=m+1:=by rw [List.length_set,hinv.2.2.1,HX.out.1.len]
     have hrd:=hb2.rd (by rw [hl2];show m+1≤9223372036854775807;omega)
     rw [hl2] at hrd
     have HF:=Lib.hid (And.intro hfin2 (And.intro hrd hb2))
     clear hfin hfin2 hb2 hl2 hrd hinv hblk hlt hzl
     go_wp2_with (go_at_call 187;refine (eE _ _ _ (zs.set m cv) _ HF.out.2.1 HF.out.1.1).mono ?_;rintro e w' ⟨⟨v,rfl,hv⟩,rfl⟩)
     go_ret
     exact ⟨v,rfl,by rw [← HF.out.1.2];exact hv,hb.setCell (by rw [HG.out];exact Nat.le_refl _) _⟩
theorem plus_any (A:Option Addr) (n c:Nat) (xs:List Nat) (A' : Option Addr) (n' c' : Nat) (ys:List Nat) (w:World) (h:Rd w A n c xs) (h' : Rd w A' n' c' ys)
 (hd:Dig aD xs) (hd' : Dig aD ys) (hn:n≤2199023255552) (hn' : n'≤2199023255552) :
 Calls Tryz.prog 121 #[.slice A n c,.slice A' n' c'] w (GivesNt w (val aD xs+val aD ys)):=by
 rcases Nat.lt_or_ge n n' with hl|hl
 ·rw [Nat.add_comm]
  exact plus_lt A' n' c' ys A n c xs w h' h hd' hd hn' hl
 ·exact plus_ge A n c xs A' n' c' ys w h h' hd hd' hn (by omega)
def SubInv (xs ys zs:List Nat) (k bw:Nat):Prop :=
 bw≤1∧Dig aD zs∧zs.length=xs.length∧val aD (zs.take k)+val aD (ys.take k)=val aD (xs.take k)+aD^k*bw
theorem SubInv.step {xs ys zs:List Nat} {k bw x y:Nat} (h:SubInv xs ys zs k bw) (hx:xs[k]?=some x) (hy:ys.getD k 0=y) (hdx:Dig aD xs) (hdy:Dig aD ys) :
 SubInv xs ys (zs.set k ((x+aD-y-bw)%aD)) (k+1) (if x<y+bw then 1 else 0):=by
 obtain ⟨h1,h2,h3,h4⟩:=h
 obtain ⟨hk,ex⟩:=List.getElem?_eq_some_iff.1 hx
 have bx:=hdx.at_ hx
 have by' : y<aD:=by rw [← hy];exact hdy.get0 bC k
 have hr:(x+aD-y-bw)%aD<aD:=Nat.mod_lt _ bC
 have hdm:(x+aD-y-bw)%aD+y+bw=x+aD*(if x<y+bw then 1 else 0):=by
  have:=aJ
  rw [this] at bx by' ⊢
  split <;> omega
 refine ⟨by split <;> omega,h2.set hr,by simp [h3],?_⟩
 have e1:val aD ((zs.set k ((x+aD-y-bw)%aD)).take (k+1))=val aD (zs.take k)+aD^k*((x+aD-y-bw)%aD):=by
  rw [aF _ _ _ (by simp;omega),List.take_set_of_le (Nat.le_refl _)]
  simp
 have e2:val aD (ys.take (k+1))=val aD (ys.take k)+aD^k*y:=by
  rcases Nat.lt_or_ge k ys.length with hl|hl
  ·rw [aF _ _ _ hl]
   simp [List.getD,List.getElem?_eq_getElem hl] at hy
   rw [hy]
  ·rw [List.take_of_length_le (by omega),List.take_of_length_le hl]
   simp [List.getD,List.getElem?_eq_none hl] at hy
   rw [← hy];simp
 rw [e1,e2,aF _ _ _ hk,ex,Nat.pow_succ]
 generalize (if x<y+bw then 1 else 0)=q at *
 generalize (x+aD-y-bw)%aD=r at *
 generalize aD^k=P at *
 generalize aD=V at *
 grind
theorem SubInv.start {xs ys:List Nat}:SubInv xs ys (List.replicate xs.length 0) 0 0 :=
 ⟨by omega,Dig.replicate bC _,by simp,by simp [val]⟩
theorem SubInv.finish {xs ys zs:List Nat} {bw:Nat} (h:SubInv xs ys zs xs.length bw) (hl:ys.length≤xs.length) (hge:val aD ys≤val aD xs) (hd:Dig aD xs) :
 Dig aD zs∧val aD zs=val aD xs-val aD ys:=by
 obtain ⟨h1,h2,h3,h4⟩:=h
 refine ⟨h2,?_⟩
 rw [List.take_of_length_le (l:=xs) (Nat.le_refl _),List.take_of_length_le (l:=ys) hl,List.take_of_length_le (l:=zs) (by omega)] at h4
 have hz:=bV h2
 have hx:=bV hd
 rw [h3] at hz
 have:bw=0:=by
  rcases Nat.eq_zero_or_pos bw with e|e
  ·exact e
  ·have:bw=1:=by omega
   subst this
   omega
 subst this
 omega
set_option maxHeartbeats 1000000 in
theorem minus_any (A:Option Addr) (n c:Nat) (xs:List Nat) (A' : Option Addr) (n' c' : Nat) (ys:List Nat) (w:World) (h:Rd w A n c xs) (h' : Rd w A' n' c' ys)
 (hd:Dig aD xs) (hd' : Dig aD ys) (hn:n≤2199023255552) (hle' : n'≤n) (hge:val aD ys≤val aD xs) :
 Calls Tryz.prog 248 #[.slice A n c,.slice A' n' c'] w (GivesNt w (val aD xs-val aD ys)):=by
 have HX:=Lib.hid (And.intro h hd)
 have HY:=Lib.hid (And.intro h' (And.intro hd' hge))
 have hnc:n≤c:=h.cap
 have hcm:c≤9223372036854775807:=h.2.2.1
 have hnc' : n'≤c':=h'.cap
 have hcm' : c'≤9223372036854775807:=h'.2.2.1
 obtain ⟨i0,hi,hz0,hz1,hz2⟩:=info_parts eR
 have HI:=Lib.hid (And.intro hi (And.intro hz0 (And.intro hz1 hz2)))
 clear h h' hd hd' hi hz0 hz1 hz2 hge
 go_enter Tryz.func248,Tryz.ntmps248
 go_wp2_with (at_make;refine wpList_make_full _ rfl _ _ 94 rfl w.heap.size 154 i0 (.int .u64 0) 1 Tryz.underlying94 HI.out.1 HI.out.2.1 HI.out.2.2.1 _ _ _ _ n rfl rfl ?b0 ?b1 ?b2 ?b3 (Nat.le_refl _) ?_)
 case b0=>rfl
 case b1=>rfl
 case b2=>rw [HI.out.2.2.2];omega
 case b3=>show n≤9223372036854775807;omega
 intro w1 hown hg1
 have hb1:Below w.heap.size w w1:=(Below.refl _ _).grown hg1 (Nat.le_refl _) (fun k h=>by cases h)
 have hblk:=dQ hown
 have e0:SubInv xs ys (List.replicate n 0) 0 0:=by
  have:=SubInv.start (xs:=xs) (ys:=ys)
  rwa [HX.out.1.len] at this
 have HB:=Lib.hid hblk
 have H0:=Lib.hid e0
 clear hown hg1 hblk e0
 obtain ⟨g,hg⟩:∃ g,g=w.heap.size:=⟨_,rfl⟩
 rw [← hg] at HB ⊢
 have HG:=Lib.hid hg
 clear hg
 go_wp2
 go_loopw [6,15] (fun cy i wr => ∃ (k cv:Nat) (zs:List Nat),k≤n'∧i = .int .i64 (k:Int)∧cy = .int .u64 (cv:Int)∧SubInv xs ys zs k cv∧Blk wr g 154 zs∧Below w.heap.size w wr) (fun _ i _=>n'-(intOf i).toNat)
 case atStart=>exact ⟨0,0,_,Nat.zero_le _,rfl,rfl,H0.out,HB.out,hb1⟩
 case round =>
  obtain ⟨k,cv,zs,hk,rfl,rfl,hinv,hblk,hb⟩:=hrel
  have hcv:cv≤1:=hinv.1
  have hzn:zs.length=n:=by rw [hinv.2.2.1,HX.out.1.len]
  have HV:=Lib.hid hinv
  by_cases hlt:k<n'
  ·obtain ⟨ad,x,hA,_,hx,hcx⟩:=(HX.out.1.below hb).at_ (k:=k) (by omega)
   obtain ⟨ad',y,hA',_,hy,hcy⟩:=(HY.out.1.below hb).at_ (k:=k) (by omega)
   subst hA
   subst hA'
   obtain ⟨z,hcz⟩:∃ z:Int,wr.cell? ⟨g,k,none⟩=some (.int .u64 z):=⟨_,hblk.cell_get (by omega)⟩
   have hfz:=hblk.frozen k
   have hsub:=fun w=>mQ x y cv hcv w
   have HE:=Lib.hid (And.intro hx (And.intro hy hblk))
   obtain ⟨q,hq⟩:∃ q:Nat,q=if x<y+cv then 1 else 0:=⟨_,rfl⟩
   rw [← hq] at hsub
   have HQ:=Lib.hid hq
   clear hx hy hinv hblk hzn hq
   go_wp2
   go_roundw
   case rel=>exact ⟨k+1,q,zs.set k ((x+aD-y-cv)%aD),by omega,by go_num,rfl,by rw [HQ.out];exact HV.out.step HE.out.1 (by rw [List.getD,HE.out.2.1];rfl) HX.out.2 HY.out.2.1,HE.out.2.2.set_ _ _,hb.setCell (by rw [HG.out];exact Nat.le_refl _) _⟩
   case measure=>simp [intOf];omega
  ·obtain rfl:k=n':=by omega
   have HBl:=Lib.hid hblk
   clear hinv hblk hlt hzn
   go_wp2
   go_loopw [6,9] (fun cy i wr => ∃ (m cv:Nat) (zs:List Nat),m≤n∧k≤m∧i = .int .i64 (m:Int)∧cy = .int .u64 (cv:Int)∧SubInv xs ys zs m cv∧Blk wr g 154 zs∧Below w.heap.size w wr) (fun _ i _=>n-(intOf i).toNat)
   case atStart=>exact ⟨k,cv,zs,by omega,by omega,rfl,rfl,HV.out,HBl.out,hb⟩
   case round =>
    clear hb hcv
    obtain ⟨m,cv,zs,hm,hkm,rfl,rfl,hinv,hblk,hb⟩:=hrel
    have hcv:cv≤1:=hinv.1
    have hzn:zs.length=n:=by rw [hinv.2.2.1,HX.out.1.len]
    have HV:=Lib.hid hinv
    by_cases hlt:m<n
    ·obtain ⟨z,hcz⟩:∃ z:Int,wr.cell? ⟨g,m,none⟩=some (.int .u64 z):=⟨_,hblk.cell_get (by omega)⟩
     have hfz:=hblk.frozen m
     obtain ⟨ad,x,hA,_,hx,hcx⟩:=(HX.out.1.below hb).at_ (k:=m) (by omega)
     subst hA
     have hsub:=fun w=>mQ x 0 cv hcv w
     simp only [Int.natCast_zero] at hsub
     have HE:=Lib.hid (And.intro hx hblk)
     obtain ⟨q,hq⟩:∃ q:Nat,q=if x<0+cv then 1 else 0:=⟨_,rfl⟩
     rw [← hq] at hsub
     have HQ:=Lib.hid hq
     clear hx hinv hblk hzn hq
     go_wp2
     go_roundw
     case rel=>exact ⟨m+1,q,zs.set m ((x+aD-0-cv)%aD),by omega,by omega,by go_num,rfl,by rw [HQ.out];exact HV.out.step HE.out.1 (by rw [List.getD,List.getElem?_eq_none (by rw [HY.out.1.len];omega)];rfl) HX.out.2 HY.out.2.1,HE.out.2.set_ _ _,hb.setCell (by rw [HG.out];exact Nat.le_refl _) _⟩
     case measure=>simp [intOf];omega
    ·obtain rfl:m=n:=by omega
     have hfin:=HV.out
     rw [← HX.out.1.len] at hfin
     have hfin2:=hfin.finish (by rw [HY.out.1.len,HX.out.1.len];omega) HY.out.2.2 HX.out.2
     have hrd:=hblk.rd (by rw [hzn];show m≤9223372036854775807;omega)
     rw [hzn] at hrd
     have HF:=Lib.hid (And.intro hfin2 hrd)
     clear hfin hfin2 hzn hrd hinv hblk hlt
     go_wp2_with (go_at_call 187;refine (eE _ _ _ zs _ HF.out.2 HF.out.1.1).mono ?_;rintro e w' ⟨⟨v,rfl,hv⟩,rfl⟩)
     go_ret
     exact ⟨v,rfl,by rw [← HF.out.1.2];exact hv,hb⟩
def Away (A:Option Addr) (n g:Nat):Prop:=0<n→∀ ad,A=some ad→ad.block≠g
theorem Rd.away {w:World} {A:Option Addr} {n c:Nat} {xs:List Nat} (h:Rd w A n c xs) {g:Nat} (hg:w.heap.size≤g):Away A n g:=by
 intro hn ad hA
 obtain ⟨ad',hA',hl,_⟩:=h.2.2.2 hn
 rw [hA] at hA'
 injection hA' with e
 subst e
 omega
theorem Rd.only {w w' : World} {A:Option Addr} {n c g:Nat} {xs:List Nat} (h:Rd w A n c xs) (ha:Away A n g) (hg:w.grownBy w' (some g)):Rd w' A n c xs:=by
 refine ⟨h.1,h.2.1,h.2.2.1,fun hn=>?_⟩
 obtain ⟨ad,e,hl,hc⟩:=h.2.2.2 hn
 have hne:=ha hn ad e
 have:=hg.size
 exact ⟨ad,e,by omega,fun j x hx=>hg.cell (hc j x hx) (by rw [bL];intro e2;injection e2 with e2;exact hne e2)⟩
theorem tC (w:World) (g:Nat):w.grownBy w (some g):=⟨rfl,rfl,rfl,Nat.le_refl _,fun _ _ _=>rfl⟩
theorem cU {w w' w'' : World} {g:Nat} (h:w.grownBy w' (some g)) (h' : w'.grownBy w'' (some g)):w.grownBy w'' (some g) :=
 ⟨h'.os.trans h.os,h'.tape.trans h.tape,h'.output.trans h.output,Nat.le_trans h.size h'.size,fun k hk hne=>(h'.block k (Nat.lt_of_lt_of_le hk h.size) hne).trans (h.block k hk hne)⟩
theorem eL (w:World) (g i:Nat) (u:Value):w.grownBy (w.setCell ⟨g,i,none⟩ u) (some g) :=
 ⟨rfl,rfl,rfl,by simp [World.setCell],fun k _ hne=>Below.heap_setCell w _ u k (fun e=>hne (by rw [e]))⟩
def put (ys:List Nat) (o:Nat) (zs:List Nat):List Nat:=ys.take o++(zs++ys.drop (o+zs.length))
theorem vJ (ys:List Nat) (o:Nat):put ys o []=ys:=by simp [put]
theorem cV {ys:List Nat} {o:Nat} {zs:List Nat} (h:o+zs.length≤ys.length):(put ys o zs).length=ys.length:=by
 simp only [put,List.length_append,List.length_take,List.length_drop];omega
theorem oV {ys:List Nat} {o k:Nat} {zs:List Nat} (hz:zs.length≤k) (h:o+k<ys.length):(put ys o zs)[o+k]?=ys[o+k]?:=by
 unfold put
 rw [List.getElem?_append_right (by simp;omega),List.getElem?_append_right (by simp;omega),List.getElem?_drop]
 congr 1
 simp only [List.length_take]
 omega
theorem iC {ys:List Nat} {o k:Nat} {zs:List Nat} {z:Nat} (hz:zs.length=k) (h:o+k<ys.length):(put ys o zs).set (o+k) z=put ys o (zs ++ [z]):=by
 subst hz
 unfold put
 rw [List.set_append_right _ _ (by simp;omega),List.set_append_right _ _ (by simp;omega)]
 have e:o+zs.length-(ys.take o).length-zs.length=0:=by simp;omega
 rw [e,List.drop_eq_getElem_cons h]
 simp [Nat.add_assoc]
theorem mul_step {x m cv y:Nat} (hx:x<aD) (hm:m<aD) (hc:cv<aD) (hy:y<aD) :
 ∃ hi lo s1 c1 r c2:Nat,x*m/aD=hi∧x*m%aD=lo∧(lo+cv+0)%aD=s1∧(lo+cv+0)/aD=c1∧(y+s1+0)%aD=r∧(y+s1+0)/aD=c2 ∧
   hi+c1<aD∧hi+c1+c2<aD∧r<aD∧r+aD*(hi+c1+c2)=y+x*m+cv:=by
 refine ⟨_,_,_,_,_,_,rfl,rfl,rfl,rfl,rfl,rfl,?_⟩
 have h1:=Nat.div_add_mod (x*m) aD
 have hp:x*m≤18446744073709551615*18446744073709551615:=Nat.mul_le_mul (by have:=aJ;omega) (by have:=aJ;omega)
 generalize x*m=p at *
 simp only [aJ] at *
 omega
set_option maxHeartbeats 1000000 in
theorem iQ (g o n cS:Nat) (t:TypeId) (ys:List Nat) (A:Option Addr) (n' c:Nat) (xs:List Nat) (m:Nat) (w:World) (hb:Blk w g t ys) (hys:Dig aD ys) (hwin:o+n'≤ys.length) (hn:n'≤n) (hcS:n≤cS)
 (hm63:cS≤9223372036854775807) (h:Rd w A n' c xs) (hd:Dig aD xs) (ha:Away A n' g) (hm:m<aD) :
 Calls Tryz.prog 186 #[.slice (some ⟨g,o,none⟩) n cS,.slice A n' c,.int .u64 (m:Int)] w fun e w' =>
  Hid (∃ (zs:List Nat) (cy:Nat),e = .returned (.int .u64 (cy:Int))∧zs.length=n'∧Dig aD zs∧cy<aD∧val aD zs+aD^n'*cy=val aD ((ys.drop o).take n')+m*val aD xs∧Blk w' g t (put ys o zs)∧w.grownBy w' (some g)):=by
 have HX:=Lib.hid (And.intro h (And.intro hd (And.intro hys ha)))
 have HB:=Lib.hid hb
 have hnc:n'≤c:=h.cap
 have hcm:c≤9223372036854775807:=h.2.2.1
 clear h hd hys ha hb
 go_enter Tryz.func186,Tryz.ntmps186
 go_wp2
 go_loopw [7,14] (fun cy i wr => ∃ (k cv:Nat) (zs:List Nat),k≤n'∧i = .int .i64 (k:Int)∧cy = .int .u64 (cv:Int)∧cv<aD∧zs.length=k∧Dig aD zs ∧
  val aD zs+aD^k*cv=val aD ((ys.drop o).take k)+m*val aD (xs.take k)∧Blk wr g t (put ys o zs)∧w.grownBy wr (some g)) (fun _ i _=>n'-(intOf i).toNat)
 case atStart=>exact ⟨0,0,[],Nat.zero_le _,rfl,rfl,bC,rfl,Dig.nil _,by simp [val],by rw [vJ];exact HB.out,tC _ _⟩
 case round =>
  obtain ⟨k,cv,zs,hk,rfl,rfl,hcv,hzl,hzd,hval,hblk,hg⟩:=hrel
  by_cases hlt:k<n'
  ·obtain ⟨ad,x,hA,_,hx,hcx⟩:=(HX.out.1.only HX.out.2.2.2 hg).at_ (k:=k) hlt
   subst hA
   obtain ⟨y,hy⟩:∃ y,ys[o+k]?=some y:=⟨_,List.getElem?_eq_getElem (by omega)⟩
   have hcy:wr.cell? ⟨g,o+k,none⟩=some (.int .u64 (y:Int)):=hblk.cell (by rw [oV (by omega) (by omega)];exact hy)
   have hfz:=hblk.frozen (o+k)
   obtain ⟨hi,lo,s1,c1,r,c2,e1,e2,e3,e4,e5,e6,b1,b2,b3,e7⟩:=mul_step (HX.out.2.1.at_ hx) hm hcv (HX.out.2.2.1.at_ hy)
   have hmul:=Lib.hid (fun w=>(Tryz.bits_Mul64 x m (HX.out.2.1.at_ hx) hm w).mono (fun e w' h=>(show e = .returned (.tuple #[.int .u64 (hi:Int),.int .u64 (lo:Int)])∧w=w' from ⟨by rw [h.1,← e1,← e2];rfl,h.2.symm⟩)))
   have ha1:=fun w=>fU lo cv 0 (by omega) w
   have ha2:=fun w=>fU y s1 0 (by omega) w
   rw [e3,e4] at ha1
   rw [e5,e6] at ha2
   simp only [Int.natCast_zero] at ha1 ha2
   have HE:=Lib.hid (And.intro hx (And.intro hy (And.intro hblk (And.intro e7 (And.intro hval (And.intro hzl hzd))))))
   have B1:(hi:Int)+c1≤18446744073709551615:=by have:=aJ;omega
   have B2:(hi:Int)+c1+c2≤18446744073709551615:=by have:=aJ;omega
   have HB3:=Lib.hid (And.intro b2 b3)
   clear hx hy hblk e1 e2 e3 e4 e5 e6 e7 hval hzl hzd b1 b2 b3 hcv
   go_wp2_with (go_at_call 224;refine (hmul.out _).mono ?_;rintro e w' ⟨rfl,rfl⟩)
   go_roundw
   case rel =>
    obtain ⟨hx,hy,hblk,e7,hval,hzl,hzd⟩:=HE.out
    refine ⟨k+1,hi+c1+c2,zs ++ [r],by omega,by go_num,by go_num,HB3.out.1,by simp [hzl],hzd.app (Dig.cons HB3.out.2 (Dig.nil _)),?_,?_,cU hg (eL _ _ _ _)⟩
    ·obtain ⟨h1,ex⟩:=List.getElem?_eq_some_iff.1 hx
     have hyd:(ys.drop o)[k]?=some y:=by rw [List.getElem?_drop];exact hy
     obtain ⟨h2,ey⟩:=List.getElem?_eq_some_iff.1 hyd
     rw [cL,aF _ _ _ h1,aF _ _ _ h2,ex,ey,hzl,Nat.pow_succ]
     generalize aD^k=P at *
     generalize aD=V at *
     grind
    ·rw [← iC hzl (by omega)]
     exact hblk.set_ _ _
   case measure=>simp [intOf];omega
  ·obtain rfl:k=n':=by omega
   have HE:=Lib.hid (And.intro hblk (And.intro hval (And.intro hzl (And.intro hzd hcv))))
   clear hblk hval hzl hzd hcv
   go_wp2
   go_ret
   refine ⟨zs,cv,rfl,HE.out.2.2.1,HE.out.2.2.2.1,HE.out.2.2.2.2,?_,HE.out.1,hg⟩
   have:=HE.out.2.1
   rwa [List.take_of_length_le (l:=xs) (by rw [HX.out.1.len];omega)] at this
theorem mul_take {x m cv y:Nat} (hx:x<aD) (hm:m<aD) (hc:cv<aD) (hy:y<aD) :
 ∃ hi lo s1 c1 r c2:Nat,x*m/aD=hi∧x*m%aD=lo∧(lo+cv+0)%aD=s1∧(lo+cv+0)/aD=c1∧(y+aD-s1-0)%aD=r∧(if y<s1+0 then 1 else 0)=c2 ∧
   hi+c1<aD∧hi+c1+c2<aD∧r<aD∧r+x*m+cv=y+aD*(hi+c1+c2):=by
 refine ⟨_,_,_,_,_,_,rfl,rfl,rfl,rfl,rfl,rfl,?_⟩
 have h1:=Nat.div_add_mod (x*m) aD
 have hp:x*m≤18446744073709551615*18446744073709551615:=Nat.mul_le_mul (by have:=aJ;omega) (by have:=aJ;omega)
 generalize x*m=p at *
 have hA:=Nat.div_add_mod (p%aD+cv+0) aD
 have hA2:(p%aD+cv+0)%aD<aD:=Nat.mod_lt _ bC
 generalize (p%aD+cv+0)%aD=s1 at *
 generalize (p%aD+cv+0)/aD=c1 at *
 rcases Nat.lt_or_ge y s1 with hlt|hlt
 ·rw [if_pos (by omega)]
  simp only [aJ] at *
  omega
 ·rw [if_neg (by omega)]
  simp only [aJ] at *
  omega
set_option maxHeartbeats 1000000 in
theorem lI (g o n cS:Nat) (t:TypeId) (ys:List Nat) (A:Option Addr) (n' c:Nat) (xs:List Nat) (m:Nat) (w:World) (hb:Blk w g t ys) (hys:Dig aD ys) (hwin:o+n'≤ys.length) (hn:n'≤n) (hcS:n≤cS)
 (hm63:cS≤9223372036854775807) (h:Rd w A n' c xs) (hd:Dig aD xs) (ha:Away A n' g) (hm:m<aD) :
 Calls Tryz.prog 261 #[.slice (some ⟨g,o,none⟩) n cS,.slice A n' c,.int .u64 (m:Int)] w fun e w' =>
  Hid (∃ (zs:List Nat) (cy:Nat),e = .returned (.int .u64 (cy:Int))∧zs.length=n'∧Dig aD zs∧cy<aD∧val aD zs+m*val aD xs=val aD ((ys.drop o).take n')+aD^n'*cy∧Blk w' g t (put ys o zs)∧w.grownBy w' (some g)):=by
 have HX:=Lib.hid (And.intro h (And.intro hd (And.intro hys ha)))
 have HB:=Lib.hid hb
 have hnc:n'≤c:=h.cap
 have hcm:c≤9223372036854775807:=h.2.2.1
 clear h hd hys ha hb
 go_enter Tryz.func261,Tryz.ntmps261
 go_wp2
 go_loopw [7,14] (fun cy i wr => ∃ (k cv:Nat) (zs:List Nat),k≤n'∧i = .int .i64 (k:Int)∧cy = .int .u64 (cv:Int)∧cv<aD∧zs.length=k∧Dig aD zs ∧
  val aD zs+m*val aD (xs.take k)=val aD ((ys.drop o).take k)+aD^k*cv∧Blk wr g t (put ys o zs)∧w.grownBy wr (some g)) (fun _ i _=>n'-(intOf i).toNat)
 case atStart=>exact ⟨0,0,[],Nat.zero_le _,rfl,rfl,bC,rfl,Dig.nil _,by simp [val],by rw [vJ];exact HB.out,tC _ _⟩
 case round =>
  obtain ⟨k,cv,zs,hk,rfl,rfl,hcv,hzl,hzd,hval,hblk,hg⟩:=hrel
  by_cases hlt:k<n'
  ·obtain ⟨ad,x,hA,_,hx,hcx⟩:=(HX.out.1.only HX.out.2.2.2 hg).at_ (k:=k) hlt
   subst hA
   obtain ⟨y,hy⟩:∃ y,ys[o+k]?=some y:=⟨_,List.getElem?_eq_getElem (by omega)⟩
   have hcy:wr.cell? ⟨g,o+k,none⟩=some (.int .u64 (y:Int)):=hblk.cell (by rw [oV (by omega) (by omega)];exact hy)
   have hfz:=hblk.frozen (o+k)
   obtain ⟨hi,lo,s1,c1,r,c2,e1,e2,e3,e4,e5,e6,b1,b2,b3,e7⟩:=mul_take (HX.out.2.1.at_ hx) hm hcv (HX.out.2.2.1.at_ hy)
   have hmul:=Lib.hid (fun w=>(Tryz.bits_Mul64 x m (HX.out.2.1.at_ hx) hm w).mono (fun e w' h=>(show e = .returned (.tuple #[.int .u64 (hi:Int),.int .u64 (lo:Int)])∧w=w' from ⟨by rw [h.1,← e1,← e2];rfl,h.2.symm⟩)))
   have ha1:=fun w=>fU lo cv 0 (by omega) w
   have ha2:=fun w=>mQ y s1 0 (by omega) w
   rw [e3,e4] at ha1
   rw [e5,e6] at ha2
   simp only [Int.natCast_zero] at ha1 ha2
   have HE:=Lib.hid (And.intro hx (And.intro hy (And.intro hblk (And.intro e7 (And.intro hval (And.intro hzl hzd))))))
   have B1:(hi:Int)+c1≤18446744073709551615:=by have:=aJ;omega
   have B2:(hi:Int)+c1+c2≤18446744073709551615:=by have:=aJ;omega
   have HB3:=Lib.hid (And.intro b2 b3)
   clear hx hy hblk e1 e2 e3 e4 e5 e6 e7 hval hzl hzd b1 b2 b3 hcv
   go_wp2_with (go_at_call 224;refine (hmul.out _).mono ?_;rintro e w' ⟨rfl,rfl⟩)
   go_roundw
   case rel =>
    obtain ⟨hx,hy,hblk,e7,hval,hzl,hzd⟩:=HE.out
    refine ⟨k+1,hi+c1+c2,zs ++ [r],by omega,by go_num,by go_num,HB3.out.1,by simp [hzl],hzd.app (Dig.cons HB3.out.2 (Dig.nil _)),?_,?_,cU hg (eL _ _ _ _)⟩
    ·obtain ⟨h1,ex⟩:=List.getElem?_eq_some_iff.1 hx
     have hyd:(ys.drop o)[k]?=some y:=by rw [List.getElem?_drop];exact hy
     obtain ⟨h2,ey⟩:=List.getElem?_eq_some_iff.1 hyd
     rw [cL,aF _ _ _ h1,aF _ _ _ h2,ex,ey,hzl,Nat.pow_succ]
     generalize aD^k=P at *
     generalize aD=V at *
     grind
    ·rw [← iC hzl (by omega)]
     exact hblk.set_ _ _
   case measure=>simp [intOf];omega
  ·obtain rfl:k=n':=by omega
   have HE:=Lib.hid (And.intro hblk (And.intro hval (And.intro hzl (And.intro hzd hcv))))
   clear hblk hval hzl hzd hcv
   go_wp2
   go_ret
   refine ⟨zs,cv,rfl,HE.out.2.2.1,HE.out.2.2.2.1,HE.out.2.2.2.2,?_,HE.out.1,hg⟩
   have:=HE.out.2.1
   rwa [List.take_of_length_le (l:=xs) (by rw [HX.out.1.len];omega)] at this
def MulInv (xs ys zs:List Nat) (k:Nat):Prop :=
 Dig aD zs∧zs.length=xs.length+ys.length∧val aD (zs.take (k+xs.length))=val aD xs*val aD (ys.take k)
theorem MulInv.start (xs ys:List Nat):MulInv xs ys (List.replicate (xs.length+ys.length) 0) 0:=by
 refine ⟨Dig.replicate bC _,by simp,?_⟩
 rw [List.take_replicate,lG]
 simp [val]
theorem put_take {ys zs:List Nat} {o:Nat} (h:o+zs.length≤ys.length):val aD ((put ys o zs).take (o+zs.length))=val aD (ys.take o)+aD^o*val aD zs:=by
 have e:(put ys o zs).take (o+zs.length)=ys.take o++zs:=by
  unfold put
  rw [← List.append_assoc,List.take_append_of_le_length (by simp;omega),List.take_of_length_le (by simp;omega)]
 rw [e,fT,List.length_take,Nat.min_eq_left (by omega)]
theorem rD {ys zs:List Nat} {o:Nat} (hy:Dig aD ys) (hz:Dig aD zs):Dig aD (put ys o zs):=(hy.take _).app (hz.app (hy.drop _))
theorem take_window (zs:List Nat) (o n:Nat) (h:o+n≤zs.length):val aD (zs.take (o+n))=val aD (zs.take o)+aD^o*val aD ((zs.drop o).take n):=by
 rw [List.take_add,fT,List.length_take,Nat.min_eq_left (by omega)]
theorem MulInv.step {xs ys zs ws:List Nat} {k m cy:Nat} (h:MulInv xs ys zs k) (hm:ys[k]?=some m) (hw:ws.length=xs.length) (hwd:Dig aD ws) (hcy:cy<aD)
 (hv:val aD ws+aD^xs.length*cy=val aD ((zs.drop k).take xs.length)+m*val aD xs):MulInv xs ys ((put zs k ws).set (k+xs.length) cy) (k+1):=by
 obtain ⟨h1,h2,h3⟩:=h
 obtain ⟨hk,em⟩:=List.getElem?_eq_some_iff.1 hm
 have hl:(put zs k ws).length=zs.length:=cV (by omega)
 refine ⟨(rD h1 hwd).set hcy,by rw [List.length_set,hl,h2],?_⟩
 rw [show k+1+xs.length=k+xs.length+1 from by omega,aF _ _ _ (by rw [List.length_set,hl];omega),List.take_set_of_le (Nat.le_refl _),List.getElem_set_self,
  show k+xs.length=k+ws.length from by omega,put_take (by omega),aF _ _ _ hk,em]
 rw [take_window zs k _ (by omega)] at h3
 rw [hw,Nat.pow_add]
 generalize aD^k=P at *
 generalize aD^xs.length=R at *
 grind
theorem MulInv.finish {xs ys zs:List Nat} (h:MulInv xs ys zs ys.length):val aD zs=val aD xs*val aD ys:=by
 obtain ⟨_,h2,h3⟩:=h
 rwa [List.take_of_length_le (by omega),List.take_of_length_le (Nat.le_refl _)] at h3
set_option maxHeartbeats 1000000 in
theorem times_any (A:Option Addr) (n c:Nat) (xs:List Nat) (A' : Option Addr) (n' c' : Nat) (ys:List Nat) (w:World) (h:Rd w A n c xs) (h' : Rd w A' n' c' ys)
 (hd:Dig aD xs) (hd' : Dig aD ys) (hn:n≤2199023255552) (hn' : n'≤2199023255552) :
 Calls Tryz.prog 119 #[.slice A n c,.slice A' n' c'] w (GivesNt w (val aD xs*val aD ys)):=by
 have HX:=Lib.hid (And.intro h hd)
 have HY:=Lib.hid (And.intro h' hd')
 have hnc:n≤c:=h.cap
 have hcm:c≤9223372036854775807:=h.2.2.1
 have hnc' : n'≤c':=h'.cap
 have hcm' : c'≤9223372036854775807:=h'.2.2.1
 obtain ⟨i0,hi,hz0,hz1,hz2⟩:=info_parts eR
 have HI:=Lib.hid (And.intro hi (And.intro hz0 (And.intro hz1 hz2)))
 clear h h' hd hd' hi hz0 hz1 hz2
 go_enter Tryz.func119,Tryz.ntmps119
 go_wp2_with (at_make;refine wpList_make_full _ rfl _ _ 94 rfl w.heap.size 154 i0 (.int .u64 0) 1 Tryz.underlying94 HI.out.1 HI.out.2.1 HI.out.2.2.1 _ _ _ _ (n+n') rfl rfl ?b0 ?b1 ?b2 ?b3 (Nat.le_refl _) ?_)
 case b0=>omega
 case b1=>omega
 case b2=>rw [HI.out.2.2.2];omega
 case b3=>show n+n'≤9223372036854775807;omega
 intro w1 hown hg1
 have hb1:Below w.heap.size w w1:=(Below.refl _ _).grown hg1 (Nat.le_refl _) (fun k h=>by cases h)
 have hblk:=dQ hown
 have e0:MulInv xs ys (List.replicate (n+n') 0) 0:=by
  have:=MulInv.start xs ys
  rwa [HX.out.1.len,HY.out.1.len] at this
 have HB:=Lib.hid hblk
 have H0:=Lib.hid e0
 clear hown hg1 hblk e0
 obtain ⟨g,hg⟩:∃ g,g=w.heap.size:=⟨_,rfl⟩
 rw [← hg] at HB ⊢
 have HG:=Lib.hid hg
 clear hg
 go_wp2
 go_loopw [16] (fun i wr => ∃ (k:Nat) (zs:List Nat),k≤n'∧i = .int .i64 (k:Int)∧MulInv xs ys zs k∧Blk wr g 154 zs∧Below w.heap.size w wr) (fun i _=>n'-(intOf i).toNat)
 case atStart=>exact ⟨0,_,Nat.zero_le _,rfl,H0.out,HB.out,hb1⟩
 case round =>
  obtain ⟨k,zs,hk,rfl,hinv,hblk,hb⟩:=hrel
  have hzn:zs.length=n+n':=by rw [hinv.2.1,HX.out.1.len,HY.out.1.len]
  have HV:=Lib.hid hinv
  by_cases hlt:k<n'
  ·obtain ⟨ad',y,hA',_,hy,hcy⟩:=(HY.out.1.below hb).at_ (k:=k) hlt
   subst hA'
   have hncap:¬ n+n'=k:=by omega
   have hadd:=Lib.hid (iQ g k n (n+n'-k) 154 zs A n c xs y wr hblk hinv.1 (by omega) (Nat.le_refl _) (by omega) (by omega) (HX.out.1.below hb) HX.out.2 (HX.out.1.away (by rw [HG.out];exact Nat.le_refl _)) (HY.out.2.at_ hy))
   have HE:=Lib.hid (And.intro hy hzn)
   clear hy hblk hinv hzn
   go_wp2_with fail
   refine (hadd.out).mono ?_
   rintro e w2 ⟨ws,cy,rfl,hwl,hwd,hcyb,hwv,hblk2,hg2⟩
   have hb2:Below w.heap.size w w2:=hb.grown hg2 hb.size (fun k h=>by injection h with h;rw [← h,HG.out];exact Nat.le_refl _)
   have hzn:=HE.out.2
   obtain ⟨z,hcz⟩:∃ z:Int,w2.cell? ⟨g,k+n,none⟩=some (.int .u64 z):=⟨_,hblk2.cell_get (by rw [cV (by omega)];omega)⟩
   have hfz:=hblk2.frozen (k+n)
   have HE2:=Lib.hid (And.intro hwl (And.intro hwd (And.intro hcyb (And.intro hwv hblk2))))
   clear hwl hwd hcyb hwv hblk2 hzn hcy hadd hb
   go_wp2
   go_roundw
   case rel =>
    obtain ⟨hwl,hwd,hcyb,hwv,hblk2⟩:=HE2.out
    have hs:=HV.out.step HE.out.1 (by rw [hwl,HX.out.1.len]) hwd hcyb (by rw [HX.out.1.len];exact hwv)
    rw [HX.out.1.len] at hs
    exact ⟨k+1,(put zs k ws).set (k+n) cy,by omega,by go_num,hs,hblk2.set_ _ _,hb2.setCell (by rw [HG.out];exact Nat.le_refl _) _⟩
   case measure=>simp [intOf];omega
  ·obtain rfl:k=n':=by omega
   have hrd:=hblk.rd (by rw [hzn];show n+k≤9223372036854775807;omega)
   rw [hzn] at hrd
   have hfin:=hinv
   rw [← HY.out.1.len] at hfin
   have HF:=Lib.hid (And.intro hinv.1 (And.intro hfin.finish hrd))
   clear hinv hblk hzn hrd hfin hlt
   go_wp2_with (go_at_call 187;refine (eE _ _ _ zs _ HF.out.2.2 HF.out.1).mono ?_;rintro e w' ⟨⟨v,rfl,hv⟩,rfl⟩)
   go_ret
   exact ⟨v,rfl,by rw [← HF.out.2.1];exact hv,hb⟩
end Go.Proofs.YtejbgingjeedaaaGreatDoor
namespace Go.Proofs.YtejbgingjeedaaaGreatDoor.Pl
theorem guess_le {u v u3 v2 ul vl M t B:Nat} (hu:u=u3*M+ul) (hv:v=v2*M+vl) (hvl:vl<M) (ht:t*v2≤u3) (htB:t≤B) (hv2:B≤v2):t≤u/v+1:=by
 have hM:0<M:=by omega
 have hBM:B*M≤v2*M:=Nat.mul_le_mul_right _ hv2
 rcases Nat.eq_zero_or_pos t with rfl|ht0
 ·exact Nat.zero_le _
 have hB0:0<B:=by omega
 have hvp:0<v:=by
  have:0<v2*M:=Nat.mul_pos (by omega) hM
  omega
 have h1:(t-1)*v≤u:=by
  have e:t*v=t*v2*M+t*vl:=by rw [hv];grind
  have e1:t*v2*M≤u3*M:=Nat.mul_le_mul_right _ ht
  have e2:t*vl≤B*M:=Nat.mul_le_mul htB (Nat.le_of_lt hvl)
  have e3:(t-1)*v=t*v-v:=by rw [Nat.sub_mul,Nat.one_mul]
  omega
 have:=(Nat.le_div_iff_mul_le hvp).2 h1
 omega
theorem nW {u v u2 v1 ul vl M:Nat} (hu:u=u2*M+ul) (hv:v=v1*M+vl) (hul:ul<M) (hv1:0<v1):u/v≤u2/v1:=by
 have hM:0<M:=by omega
 have hv0:0<v:=by
  have:0<v1*M:=Nat.mul_pos hv1 hM
  omega
 rw [Nat.le_div_iff_mul_le hv1]
 have h:=Nat.div_mul_le_self u v
 have h1:u/v*v=u/v*v1*M+u/v*vl:=by rw [hv];grind
 have h2:u/v*v1*M<(u2+1)*M:=by rw [Nat.add_mul,Nat.one_mul];omega
 have:=Nat.lt_of_mul_lt_mul_right h2
 omega
theorem guess_top {u v v1 ul vl M B:Nat} (hu:v1*B*M≤u) (hv:v=v1*M+vl) (hvl:vl<M) (hb:B≤2*v1) (_hul:0≤ul):B-1≤u/v+1:=by
 have hM:0<M:=by omega
 rcases Nat.lt_or_ge B 2 with h|h
 ·exact Nat.le_trans (by omega:B-1≤1) (Nat.le_add_left 1 _)
 have hv0:0<v:=by
  have:0<v1*M:=Nat.mul_pos (by omega) hM
  omega
 have h1:(B-2)*v≤u:=by
  obtain ⟨c,rfl⟩:=Nat.exists_eq_add_of_le h
  have e : (2 + c - 2) * v = c * v1 * M + c * vl := by rw [hv];have:2+c-2=c:=by omega
                                                       rw [this];grind
  have e2:c*vl≤2*v1*M:=Nat.mul_le_mul (by omega) (Nat.le_of_lt hvl)
  have e3:v1*(2+c)*M=2*v1*M+c*v1*M:=by grind
  omega
 have:=(Nat.le_div_iff_mul_le hv0).2 h1
 omega
theorem take_ok {u v ul T h t x bor:Nat} (hu:u=ul+T*h) (hx:x+t*v=ul+T*bor) (hxT:x<T) (hvT:v≤T) (h0:u/v≤t) (h1:t≤u/v+1) (hv:0<v) :
 (bor≤h→t=u/v∧x=u%v∧bor=h)∧(h<bor→t=u/v+1∧u%v+T=x+v):=by
 have hdm:=Nat.div_add_mod u v
 have hm:=Nat.mod_lt u hv
 generalize u/v=q at *
 generalize u%v=r at *
 have hq:v*q=q*v:=Nat.mul_comm _ _
 constructor
 ·intro hb
  have e:t=q:=by
   rcases Nat.lt_or_ge q t with hlt|hge
   ·exfalso
    have:t=q+1:=by omega
    subst this
    have e1:(q+1)*v=q*v+v:=by grind
    have e2:T*bor≤T*h:=Nat.mul_le_mul_left _ hb
    omega
   ·omega
  subst e
  have e2:T*bor≤T*h:=Nat.mul_le_mul_left _ hb
  rcases Nat.lt_or_ge bor h with hlt|hge
  ·exfalso
   have e3:T*(bor+1)≤T*h:=Nat.mul_le_mul_left _ hlt
   rw [Nat.mul_add,Nat.mul_one] at e3
   omega
  ·have:bor=h:=by omega
   subst this
   exact ⟨rfl,by omega,rfl⟩
 ·intro hb
  have e3:T*(h+1)≤T*bor:=Nat.mul_le_mul_left _ hb
  rw [Nat.mul_add,Nat.mul_one] at e3
  have e:t=q+1:=by
   rcases Nat.lt_or_ge q t with hlt|hge
   ·omega
   ·exfalso
    have:t=q:=by omega
    subst this
    omega
  subst e
  have e1:(q+1)*v=q*v+v:=by grind
  have:bor=h+1:=by
   rcases Nat.lt_or_ge (h+1) bor with hlt|hge
   ·exfalso
    have e4:T*(h+2)≤T*bor:=Nat.mul_le_mul_left _ hlt
    rw [Nat.mul_add] at e4
    omega
   ·omega
  subst this
  rw [Nat.mul_add,Nat.mul_one] at hx
  exact ⟨rfl,by omega⟩
structure Half (U u1 Y v1 v0 Q:Nat):Prop where
 hY:Y=v1*4294967296+v0
 hv0:v0<4294967296
 hv1:2147483648≤v1
 hv1' : v1<4294967296
 hU:U<Y
 hu1:u1<4294967296
 hQ:Q=(U*4294967296+u1)/Y
section
variable {U u1 Y v1 v0 Q:Nat}
theorem Half.q_lt (h:Half U u1 Y v1 v0 Q):Q<4294967296:=by
 have h1:=h.hU
 have h2:=h.hu1
 rw [h.hQ,Nat.div_lt_iff_lt_mul (by omega)]
 omega
theorem Half.le_guess (h:Half U u1 Y v1 v0 Q):Q≤U/v1:=by
 have h1:=h.hv1
 rw [h.hQ]
 exact nW rfl h.hY h.hu1 (by omega)
theorem Half.guess_le (h:Half U u1 Y v1 v0 Q):U/v1≤4294967297:=by
 have h1:=h.hv1
 have h2:=h.hU
 have h3:=h.hv0
 have h4:=h.hY
 have:U/v1<4294967298:=by
  rw [Nat.div_lt_iff_lt_mul (by omega)]
  omega
 omega
theorem Half.le_iff (h:Half U u1 Y v1 v0 Q) {a b:Nat} (hab:a*v1+b=U):a≤Q↔a*v0≤4294967296*b+u1:=by
 have h1:=h.hv1
 have h2:=h.hY
 rw [h.hQ,Nat.le_div_iff_mul_le (by omega)]
 have e:a*Y=a*v1*4294967296+a*v0:=by rw [h2];grind
 rw [e]
 omega
theorem Half.done (h:Half U u1 Y v1 v0 Q) {a b:Nat} (hab:a*v1+b=U) (hq:Q≤a) (ha:a≤4294967296) (hb:4294967296≤b):a=Q:=by
 have h1:=h.hv0
 have:a*v0≤4294967296*4294967296:=Nat.mul_le_mul ha (by omega)
 have:=(h.le_iff hab).2 (by omega)
 omega
theorem Half.rest (h:Half U u1 Y v1 v0 Q):∃ R,R<Y∧U*4294967296+u1=Q*Y+R:=by
 have h1:=h.hv1
 have h2:=h.hY
 refine ⟨(U*4294967296+u1)%Y,Nat.mod_lt _ (by omega),?_⟩
 rw [h.hQ,Nat.mul_comm _ Y,Nat.div_add_mod]
end
theorem halves {N y s U u1 u0 Y Q R Q0 R0:Nat} (hN:N*2^s=(U*4294967296+u1)*4294967296+u0) (hY:Y=y*2^s) (h1:U*4294967296+u1=Q*Y+R) (h0:R*4294967296+u0=Q0*Y+R0) (hR:R0<Y) :
 Q*4294967296+Q0=N/y∧R0/2^s=N%y:=by
 have hp:0<2^s:=Nat.pow_pos (by omega)
 have e:N*2^s=(Q*4294967296+Q0)*Y+R0:=by rw [hN,h1];grind
 have e1:N*2^s/Y=Q*4294967296+Q0:=by
  rw [e,Nat.add_comm,Nat.add_mul_div_right _ _ (by omega),Nat.div_eq_of_lt hR]
  omega
 have e2:N*2^s%Y=R0:=by
  rw [e,Nat.mul_comm _ Y,Nat.mul_add_mod,Nat.mod_eq_of_lt hR]
 constructor
 ·rw [← e1,hY,Nat.mul_div_mul_right _ _ hp]
 ·rw [← e2,hY,Nat.mul_mod_mul_right,Nat.mul_div_cancel _ hp]
end Go.Proofs.YtejbgingjeedaaaGreatDoor.Pl
namespace Go.Proofs.YtejbgingjeedaaaGreatDoor
open Go.RowKit Pl
theorem uH (a b:Nat) (ha:a<18446744073709551616) (hb:b<18446744073709551616):bits .or .u64 (a:Int) (b:Int)=((a ||| b:Nat):Int):=by
 have hx:a ||| b<2^64:=Nat.or_lt_two_pow (by omega) (by omega)
 have h1:(BitVec.ofInt 64 (a:Int)).toNat=a:=by
  rw [BitVec.ofInt_natCast,BitVec.toNat_ofNat];exact Nat.mod_eq_of_lt (by omega)
 have h2:(BitVec.ofInt 64 (b:Int)).toNat=b:=by
  rw [BitVec.ofInt_natCast,BitVec.toNat_ofNat];exact Nat.mod_eq_of_lt (by omega)
 show IntKind.u64.wrap ((BitVec.ofInt 64 (a:Int) ||| BitVec.ofInt 64 (b:Int)).toNat:Int)=_
 rw [BitVec.toNat_or,h1,h2,IntKind.wrap_u64]
 omega
theorem bits_and_nat (a b:Nat) (ha:a<18446744073709551616) (hb:b<18446744073709551616):bits .and .u64 (a:Int) (b:Int)=((a &&& b:Nat):Int):=by
 have hx:a &&& b<2^64:=Nat.and_lt_two_pow _ (by omega)
 have h1:(BitVec.ofInt 64 (a:Int)).toNat=a:=by
  rw [BitVec.ofInt_natCast,BitVec.toNat_ofNat];exact Nat.mod_eq_of_lt (by omega)
 have h2:(BitVec.ofInt 64 (b:Int)).toNat=b:=by
  rw [BitVec.ofInt_natCast,BitVec.toNat_ofNat];exact Nat.mod_eq_of_lt (by omega)
 show IntKind.u64.wrap ((BitVec.ofInt 64 (a:Int) &&& BitVec.ofInt 64 (b:Int)).toNat:Int)=_
 rw [BitVec.toNat_and,h1,h2,IntKind.wrap_u64]
 omega
theorem and_half (a:Nat) (ha:a<18446744073709551616):bits .and .u64 (a:Int) 4294967295=((a%4294967296:Nat):Int):=by
 have:=bits_and_nat a 4294967295 ha (by omega)
 rw [show ((4294967295:Nat):Int)=4294967295 from rfl] at this
 rw [this,show (4294967295:Nat)=2^32-1 from rfl,Nat.and_two_pow_sub_one_eq_mod]
theorem wX (a b s:Nat) (hb:b<2^s) (h:a*2^s+b<18446744073709551616):bits .or .u64 ((a*2^s:Nat):Int) (b:Int)=((a*2^s+b:Nat):Int):=by
 rw [uH _ _ (by omega) (by omega),Nat.mul_comm,Nat.two_pow_add_eq_or_of_lt hb]
theorem lJ (a:Nat) (ha:a<18446744073709551616):IntKind.u64.wrap (a:Int)=(a:Int):=by rw [IntKind.wrap_u64];omega
theorem fN (a:Nat):IntKind.u64.wrap (a:Int)=((a%18446744073709551616:Nat):Int):=by rw [IntKind.wrap_u64];omega
end Go.Proofs.YtejbgingjeedaaaGreatDoor
