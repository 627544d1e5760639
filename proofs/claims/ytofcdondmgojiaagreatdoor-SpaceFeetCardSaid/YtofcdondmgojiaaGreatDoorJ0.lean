/- Parts of the proof, joined. -/
import Derived.Below
import Derived.WalkKit
import Derived.Lib.Hide
import Derived.Deep.Draws
import Derived.Test.YtofcdondmgojiaaGreatDoorProg
import Derived.WalkSpells
import Derived.BigQuiet
import Derived.Deep.QuietTactic
import Derived.OwnWalk
import Derived.Laws.Externs
import Derived.Shelf.Spec.BitsCarry
import Derived.Lib.ParseIntB
import Derived.Lib.ItoaNum
import Derived.Deep.Quiet
set_option linter.unusedSimpArgs false
set_option linter.unusedVariables false
namespace Go.Proofs.YtofcdondmgojiaaGreatDoor.Pl
def val (B:Nat):List Nat→Nat
 | []=>0
 | d::l=>d+B*val B l
theorem gB (B:Nat) (l m:List Nat):val B (l++m)=val B l+B^l.length*val B m:=by
 induction l with
 | nil=>simp [val]
 | cons d l ih =>
   simp only [List.cons_append,val,ih,List.length_cons,Nat.pow_succ]
   grind
theorem cR (B:Nat) (l:List Nat) (d:Nat):val B (l ++ [d])=val B l+B^l.length*d:=by
 rw [gB];simp [val]
def Dig (B:Nat) (l:List Nat):Prop := ∀ d∈l,d<B
theorem Dig.nil (B:Nat):Dig B []:=by intro d h;cases h
theorem Dig.cons {B d:Nat} {l:List Nat} (h:d<B) (hl:Dig B l):Dig B (d::l):=by
 intro e he
 rcases List.mem_cons.1 he with rfl|he
 ·exact h
 ·exact hl e he
theorem Dig.app {B:Nat} {l m:List Nat} (hl:Dig B l) (hm:Dig B m):Dig B (l++m):=by
 intro e he
 rcases List.mem_append.1 he with he|he
 ·exact hl e he
 ·exact hm e he
theorem Dig.take {B:Nat} {l:List Nat} (hl:Dig B l) (k:Nat):Dig B (l.take k):=fun e he=>hl e (List.mem_of_mem_take he)
theorem Dig.drop {B:Nat} {l:List Nat} (hl:Dig B l) (k:Nat):Dig B (l.drop k):=fun e he=>hl e (List.mem_of_mem_drop he)
theorem Dig.at_ {B:Nat} {l:List Nat} (hl:Dig B l) {k d:Nat} (h:l[k]?=some d):d<B:=hl d (List.mem_of_getElem? h)
theorem Dig.get {B:Nat} {l:List Nat} (hl:Dig B l) (k:Nat) (h:k<l.length):l[k]<B:=hl _ (List.getElem_mem h)
theorem Dig.get0 {B:Nat} {l:List Nat} (hB:0<B) (hl:Dig B l) (k:Nat):l.getD k 0<B:=by
 rcases Nat.lt_or_ge k l.length with h|h
 ·simp [List.getD,List.getElem?_eq_getElem h];exact hl.get k h
 ·simp [List.getD,List.getElem?_eq_none h,hB]
theorem Dig.set {B:Nat} {l:List Nat} (hl:Dig B l) {k d:Nat} (hd:d<B):Dig B (l.set k d):=by
 intro e he
 rcases List.mem_or_eq_of_mem_set he with he|rfl
 ·exact hl e he
 ·exact hd
theorem Dig.replicate {B:Nat} (hB:0<B) (n:Nat):Dig B (List.replicate n 0):=by
 intro e he;rw [List.eq_of_mem_replicate he];exact hB
theorem bV {B:Nat} {l:List Nat} (h:Dig B l):val B l<B^l.length:=by
 induction l with
 | nil=>simp [val]
 | cons d l ih =>
   have hd:d<B:=h d (by simp)
   have hl:=ih (fun e he=>h e (by simp [he]))
   simp only [val,List.length_cons,Nat.pow_succ]
   have h1:val B l+1≤B^l.length:=hl
   have h2:=Nat.mul_le_mul_left B h1
   rw [Nat.mul_add,Nat.mul_one,Nat.mul_comm B (B^l.length)] at h2
   omega
theorem val_zeros (B n:Nat):val B (List.replicate n 0)=0:=by
 induction n with
 | zero=>rfl
 | succ n ih=>simp [List.replicate_succ,val,ih]
theorem aF (B:Nat) (l:List Nat) (k:Nat) (h:k<l.length):val B (l.take (k+1))=val B (l.take k)+B^k*l[k]:=by
 rw [List.take_succ_eq_append_getElem h,cR,List.length_take,Nat.min_eq_left (by omega)]
theorem eG (B:Nat) (l:List Nat) (k:Nat) (h:k≤l.length):val B l=val B (l.take k)+B^k*val B (l.drop k):=by
 have:=gB B (l.take k) (l.drop k)
 rw [List.take_append_drop,List.length_take,Nat.min_eq_left h] at this
 exact this
theorem val_drop (B:Nat) (l:List Nat) (k:Nat) (h:k<l.length):val B (l.drop k)=l[k]+B*val B (l.drop (k+1)):=by
 rw [List.drop_eq_getElem_cons h];rfl
def Norm (l:List Nat):Prop := ∀ h:l≠[],l.getLast h≠0
theorem Norm.nil:Norm []:=fun h=>absurd rfl h
theorem Norm.ge {B:Nat} {l:List Nat} (hn:Norm l) (h:l≠[]):B^(l.length-1)≤val B l:=by
 have e:=List.dropLast_concat_getLast h
 have hl:=hn h
 have:val B l=val B l.dropLast+B^l.dropLast.length*l.getLast h:=by
  conv=>lhs;rw [← e]
  exact cR B _ _
 rw [this,List.length_dropLast]
 have:B^(l.length-1)*1≤B^(l.length-1)*l.getLast h:=Nat.mul_le_mul_left _ (by omega)
 omega
theorem Norm.pos {B:Nat} (hB:0<B) {l:List Nat} (hn:Norm l) (h:l≠[]):0<val B l:=by
 have:=hn.ge (B:=B) h
 have h2:0<B^(l.length-1):=Nat.pow_pos hB
 omega
theorem Norm.zero_iff {B:Nat} (hB:0<B) {l:List Nat} (hn:Norm l):val B l=0↔l = []:=by
 constructor
 ·intro h
  rcases Classical.em (l = []) with e|e
  ·exact e
  ·have:=hn.pos hB e;omega
 ·rintro rfl;rfl
theorem dI {B:Nat} (hB:1<B) {a b:List Nat} (ha:Dig B a) (hb:Norm b) (h:a.length<b.length):val B a<val B b:=by
 have h1:=bV ha
 have hne:b≠[]:=by rintro rfl;simp at h
 have h2:=hb.ge (B:=B) hne
 have h3:B^a.length≤B^(b.length-1):=Nat.pow_le_pow_right (by omega) (by omega)
 omega
theorem lt_of_top {B:Nat} {a b:List Nat} (hl:a.length=b.length) (ha:Dig B a) {k:Nat} (hk:k<a.length) (htop:a.drop (k+1)=b.drop (k+1)) (hd:a[k]<b[k]'(by omega)):val B a<val B b:=by
 rw [eG B a (k+1) (by omega),eG B b (k+1) (by omega),htop,aF B a k hk,aF B b k (by omega)]
 have h1:=bV (ha.take k)
 rw [List.length_take,Nat.min_eq_left (by omega)] at h1
 have h2:B^k*(a[k]+1)≤B^k*b[k]'(by omega):=Nat.mul_le_mul_left _ hd
 rw [Nat.mul_add,Nat.mul_one] at h2
 omega
theorem aV {B L:Nat} (hB:1<B) {a:List Nat} (na:Norm a) (h:val B a<B^L):a.length≤L:=by
 rcases Classical.em (a = []) with rfl|e
 ·simp
 ·have h1:=na.ge (B:=B) e
  rcases Nat.lt_or_ge L a.length with hl|hl
  ·have:B^L≤B^(a.length-1):=Nat.pow_le_pow_right (by omega) (by omega)
   omega
  ·exact hl
theorem val_take_pred (B:Nat) {l:List Nat} {k:Nat} (hk:k<l.length) (h0:l[k]=0):val B (l.take (k+1))=val B (l.take k):=by
 rw [aF B l k hk,h0];simp
theorem norm_take {l:List Nat} {k:Nat} (hk:k≤l.length) (h:0<k→l[k-1]?≠some 0):Norm (l.take k):=by
 intro hne
 have hpos:0<k:=by
  rcases Nat.eq_zero_or_pos k with rfl|h
  ·simp at hne
  ·exact h
 have h1:=h hpos
 rw [List.getLast_eq_getElem]
 simp only [List.length_take,Nat.min_eq_left hk]
 intro he
 apply h1
 rw [List.getElem?_eq_getElem (by omega)]
 simp at he
 simp [he]
end Go.Proofs.YtofcdondmgojiaaGreatDoor.Pl
namespace Go.Proofs.YtofcdondmgojiaaGreatDoor
open Go.RowKit Pl
def aD:Nat:=18446744073709551616
theorem aH:aD=18446744073709551616:=rfl
theorem eO:1<aD:=by unfold aD;omega
theorem bD:0<aD:=by unfold aD;omega
def cellU (n:Nat):Value := .int .u64 (n:Int)
def Rd (w:World) (A:Option Addr) (n c:Nat) (xs:List Nat):Prop :=
 xs.length=n∧n≤c∧c≤maxLen∧(0<n→∃ ad,A=some ad∧ad.block<w.heap.size∧∀ (j x:Nat),xs[j]?=some x→w.cell? (ad.add j)=some (.int .u64 (x:Int)))
theorem bN (a:Addr) (n:Nat):(a.add n).block=a.block:=by unfold Addr.add;split <;> rfl
section
variable {w w' : World} {A:Option Addr} {n c:Nat} {xs:List Nat}
theorem Rd.len (h:Rd w A n c xs):xs.length=n:=h.1
theorem Rd.cap (h:Rd w A n c xs):n≤c:=h.2.1
theorem Rd.at_ (h:Rd w A n c xs) {k:Nat} (hk:k<n) :
 ∃ ad x,A=some ad∧ad.block<w.heap.size∧xs[k]?=some x∧w.cell? (ad.add k)=some (.int .u64 (x:Int)):=by
 obtain ⟨ad,e,hb,hc⟩:=h.2.2.2 (by omega)
 have hl:k<xs.length:=by have:=h.1;omega
 exact ⟨ad,xs[k],e,hb,List.getElem?_eq_getElem hl,hc k _ (List.getElem?_eq_getElem hl)⟩
theorem Rd.below (h:Rd w A n c xs) (hb:Below w.heap.size w w'):Rd w' A n c xs:=by
 refine ⟨h.1,h.2.1,h.2.2.1,fun hn=>?_⟩
 obtain ⟨ad,e,hl,hc⟩:=h.2.2.2 hn
 have:=hb.size
 exact ⟨ad,e,by omega,fun j x hx=>(hb.cell (p:=ad.add j) (by rw [bN];exact hl)).trans (hc j x hx)⟩
theorem Rd.nil:Rd w none 0 0 []:=⟨rfl,Nat.le_refl _,Nat.zero_le _,fun h=>absurd h (by omega)⟩
theorem Rd.take (h:Rd w A n c xs) {k:Nat} (hk:k≤n):Rd w A k c (xs.take k):=by
 refine ⟨by rw [List.length_take,h.1];omega,Nat.le_trans hk h.2.1,h.2.2.1,fun hp=>?_⟩
 obtain ⟨ad,e,hl,hc⟩:=h.2.2.2 (by omega)
 refine ⟨ad,e,hl,fun j x hx=>hc j x ?_⟩
 rw [List.getElem?_take] at hx
 split at hx
 ·exact hx
 ·cases hx
end
def Blk (w:World) (g:Nat) (t:TypeId) (ys:List Nat):Prop:=w.heap[g]?=some (.cells (ys.map cellU).toArray t (0,0))
section
variable {w w' : World} {g:Nat} {t:TypeId} {ys:List Nat}
theorem Blk.lt (h:Blk w g t ys):g<w.heap.size:=by
 unfold Blk at h
 rcases Nat.lt_or_ge g w.heap.size with hlt|hge
 ·exact hlt
 ·rw [Array.getElem?_eq_none hge] at h;cases h
theorem Blk.cell (h:Blk w g t ys) {i x:Nat} (hx:ys[i]?=some x):w.cell? ⟨g,i,none⟩=some (.int .u64 (x:Int)):=by
 unfold Blk at h
 simp [World.cell?,h,hx,cellU]
theorem Blk.cell_get (h:Blk w g t ys) {i:Nat} (hi:i<ys.length):w.cell? ⟨g,i,none⟩=some (.int .u64 ((ys[i]:Nat):Int)):=h.cell (List.getElem?_eq_getElem hi)
theorem Blk.frozen (h:Blk w g t ys) (i:Nat):w.frozen? ⟨g,i,none⟩=false:=by
 unfold Blk at h
 simp [World.frozen?,h]
theorem Blk.set_ (h:Blk w g t ys) (i x:Nat):Blk (w.setCell ⟨g,i,none⟩ (.int .u64 (x:Int))) g t (ys.set i x):=by
 unfold Blk at h ⊢
 simp only [World.setCell,Array.getElem?_modify,h]
 simp [List.map_set,cellU]
theorem Blk.drew (h:Blk w g t ys):Blk w.drew g t ys:=h
theorem Blk.alloc (h:Blk w g t ys) (o:Obj):Blk (w.alloc o) g t ys:=(Below.heap_alloc w o g h.lt).trans h
theorem Blk.far (h:Blk w g t ys) {p:Addr} (hp:g≠p.block) (u:Value):Blk (w.setCell p u) g t ys:=(Below.heap_setCell w p u g hp).trans h
theorem Blk.below {B:Nat} (h:Blk w g t ys) (hb:Below B w w') (hg:g<B):Blk w' g t ys:=(hb.block g hg).trans h
theorem Blk.rd (h:Blk w g t ys) (hm:ys.length≤maxLen):Rd w (some ⟨g,0,none⟩) ys.length ys.length ys:=by
 refine ⟨rfl,Nat.le_refl _,hm,fun _=>⟨_,rfl,h.lt,fun j x hx=>?_⟩⟩
 have:(⟨g,0,none⟩:Addr).add j=⟨g,j,none⟩:=by unfold Addr.add;split <;> simp_all
 rw [this]
 exact h.cell hx
theorem Blk.of_own {base e n:Nat} {xs:List Value} (h:w.ownsRow base e 1 (.slice (some ⟨g,0,none⟩) n n) n xs) (hx:xs=ys.map cellU):Blk w g e ys:=by
 obtain ⟨h1,h2|⟨g',cap,cur,hv,_,hh,_,_,hs,ht⟩⟩:=h
 ·obtain ⟨hv,_⟩:=h2
  injection hv with hv
  cases hv
 ·injection hv with hv _ hc
  injection hv with hv
  injection hv with hv
  subst hc
  subst hv
  unfold Blk
  rw [hh]
  have:cur.toList=xs:=by
   rw [← ht,List.take_of_length_le]
   simp [hs]
  have e2:cur=(ys.map cellU).toArray:=by rw [← hx,← this]
  rw [e2]
end
def Nt (w:World) (v:Value) (a:Nat):Prop :=
 ∃ A n c xs,v = .slice A n c∧Rd w A n c xs∧Dig aD xs∧Norm xs∧val aD xs=a
theorem Nt.below {w w' : World} {v:Value} {a:Nat} (h:Nt w v a) (hb:Below w.heap.size w w'):Nt w' v a:=by
 obtain ⟨A,n,c,xs,hv,hr,hd,hn,ha⟩:=h
 exact ⟨A,n,c,xs,hv,hr.below hb,hd,hn,ha⟩
def Lv (k a:Nat):Prop:=a<aD^(2^k)
theorem Lv.mono {k l a:Nat} (h:Lv k a) (hk:k≤l):Lv l a :=
 Nat.lt_of_lt_of_le h (Nat.pow_le_pow_right bD (Nat.pow_le_pow_right (by omega) hk))
theorem Lv.mul {k a b:Nat} (h:Lv k a) (h' : Lv k b):Lv (k+1) (a*b):=by
 unfold Lv at *
 rw [Nat.pow_succ 2 k,Nat.mul_two,Nat.pow_add]
 exact Nat.mul_lt_mul'' h h'
theorem Lv.le {k a b:Nat} (h:Lv k a) (hb:b≤a):Lv k b:=Nat.lt_of_le_of_lt hb h
theorem Lv.add {k a b:Nat} (h:Lv k a) (h' : Lv k b):Lv (k+1) (a+b):=by
 unfold Lv at *
 rw [Nat.pow_succ 2 k,Nat.mul_two,Nat.pow_add]
 generalize aD^2^k=P at *
 rcases Nat.lt_or_ge P 2 with hp|hp
 ·have:P=1:=by omega
  subst this;omega
 ·have:P*2≤P*P:=Nat.mul_le_mul_left _ hp
  omega
theorem Lv.one {k:Nat} (n:Nat) (h:n<aD):Lv k n:=by
 unfold Lv
 have:aD^1≤aD^2^k:=Nat.pow_le_pow_right bD (Nat.one_le_two_pow)
 rw [Nat.pow_one] at this
 omega
theorem Lv.len {k:Nat} {xs:List Nat} (h:Lv k (val aD xs)) (hn:Norm xs):xs.length≤2^k:=aV eO hn h
theorem Lv.len40 {xs:List Nat} (h:Lv 40 (val aD xs)) (hn:Norm xs):xs.length≤1099511627776:=h.len hn
def lenOf:Value→Nat | .slice _ k _=>k|_=>0
def TrimTo (xs:List Nat) (k:Nat):Prop:=k≤xs.length∧Norm (xs.take k)∧val aD (xs.take k)=val aD xs
set_option maxHeartbeats 400000 in
theorem trimmed_raw (A:Option Addr) (n c:Nat) (xs:List Nat) (w:World) (h:Rd w A n c xs) :
 Calls Tryz.prog 158 #[.slice A n c] w fun e w'=>Hid (∃ k,TrimTo xs k∧e = .returned (.slice A k c))∧w=w':=by
 have HR:=Lib.hid h
 have hnc:n≤c:=h.cap
 have hcm:c≤9223372036854775807:=h.2.2.1
 clear h
 go_enter Tryz.func158,Tryz.ntmps158
 go_wp2
 go_loop [0] (fun v => ∃ k:Nat,k≤n∧val aD (xs.take k)=val aD xs∧v = .slice A k c) (fun v=>lenOf v)
 case atStart=>exact ⟨n,Nat.le_refl _,by rw [List.take_of_length_le (by rw [HR.out.len];omega)],rfl⟩
 case round =>
  obtain ⟨k,hk,hv,rfl⟩:=hrel
  have HV:=Lib.hid hv
  clear hv
  by_cases hk0:0<k
  ·obtain ⟨ad,x,rfl,_hb,hx,hcell⟩:=HR.out.at_ (k:=k-1) (by omega)
   have HX:=Lib.hid hx
   clear hx
   go_wp2
   ·have h0 : x = 0 := by have:((x:Int)==0)=true:=by assumption
                          simpa using this
    subst h0
    refine ⟨⟨k-1,by omega,?_,rfl⟩,by simp only [lenOf];omega⟩
    have hlt:k-1<xs.length:=by rw [HR.out.len];omega
    have hz:xs[k-1]=0:=by have:=HX.out;rw [List.getElem?_eq_getElem hlt] at this;injection this
    have:=val_take_pred aD hlt hz
    rw [show k-1+1=k from by omega] at this
    rw [← this];exact HV.out
   ·have h0:((x:Int)==0)=false:=by assumption
    go_ret
    refine ⟨⟨k,⟨by rw [HR.out.len];exact hk,norm_take (by rw [HR.out.len];exact hk) (fun _=>?_),HV.out⟩,rfl⟩,rfl⟩
    rw [HX.out]
    intro e
    injection e with e
    subst e
    simp at h0
  ·have hz:decide (0<(k:Int))=false:=by simp;omega
   have hk00:k=0:=by omega
   have HK:=Lib.hid hk00
   clear hk00
   go_wp2
   go_ret
   refine ⟨⟨k,⟨by omega,?_,HV.out⟩,rfl⟩,rfl⟩
   rw [HK.out]
   simpa using Norm.nil
theorem eJ (A:Option Addr) (n c:Nat) (xs:List Nat) (w:World) (h:Rd w A n c xs) (hd:Dig aD xs) :
 Calls Tryz.prog 158 #[.slice A n c] w fun e w'=>(∃ v,e = .returned v∧Nt w v (val aD xs))∧w=w':=by
 refine (trimmed_raw A n c xs w h).mono ?_
 rintro e w' ⟨⟨k,⟨hk,hn,hv⟩,rfl⟩,rfl⟩
 refine ⟨⟨_,rfl,A,k,c,xs.take k,rfl,h.take (by rw [← h.len];exact hk),hd.take k,hn,hv⟩,rfl⟩
theorem bY {k:IntKind} {a b:Int} (h:a=b):Ending.returned (.int k a) = .returned (.int k b):=by rw [h]
theorem ret_bool {a b:Bool} (h:a=b):Ending.returned (.bool a) = .returned (.bool b):=by rw [h]
def GivesNt (w:World) (a:Nat) (e:Ending) (w' : World):Prop := ∃ v,e = .returned v∧Nt w' v a∧Below w.heap.size w w'
def Gives (w:World) (v:Value) (e:Ending) (w' : World):Prop:=e = .returned v∧Below w.heap.size w w'
theorem cA {B:Nat} {w0 w:World} (h:Below B w0 w) (n:Nat):Below B w0 (w.drewN n):=h.trans ⟨rfl,rfl,rfl,Nat.le_refl _,fun _ _=>rfl⟩
theorem cB (x:Nat) (hx:x<aD) (w:World):Calls Tryz.prog 104 #[.int .u64 (x:Int)] w (GivesNt w x):=by
 have hblk:Blk (w.alloc (.cells #[.int .u64 (x:Int)] 151)) w.heap.size 151 [x]:=heap_alloc_new w _
 have hrd:=hblk.rd (by simp [maxLen])
 have hd:Dig aD [x]:=Dig.cons hx (Dig.nil _)
 have HH:=Lib.hid (And.intro hrd hd)
 clear hblk hrd hd
 go_enter Tryz.func104,Tryz.ntmps104
 go_wp2_with (go_at_call 158;refine (eJ _ _ _ [x] _ HH.out.1 HH.out.2).mono ?_;rintro e w' ⟨⟨v,rfl,hv⟩,rfl⟩)
 go_ret
 refine ⟨v,rfl,by simpa [val] using hv,(Below.refl _ _).alloc (Nat.le_refl _) _⟩
theorem isZero_any (A:Option Addr) (n c:Nat) (w:World) :
 Calls Tryz.prog 125 #[.slice A n c] w fun e w'=>e = .returned (.bool (decide (n=0)))∧w=w':=by
 go_enter Tryz.func125,Tryz.ntmps125
 go_wp2
 go_ret
 refine ⟨?_,rfl⟩
 congr 2
 by_cases h:n=0 <;> simp [h]
theorem low_any (A:Option Addr) (n c:Nat) (xs:List Nat) (w:World) (h:Rd w A n c xs) (hd:Dig aD xs) :
 Calls Tryz.prog 134 #[.slice A n c] w fun e w'=>e = .returned (.int .u64 ((val aD xs%aD:Nat):Int))∧w=w':=by
 have HR:=Lib.hid h
 have HD:=Lib.hid hd
 have hnc:n≤c:=h.cap
 have hcm:c≤9223372036854775807:=h.2.2.1
 clear h hd
 rcases Nat.eq_zero_or_pos n with rfl|hn
 ·go_enter Tryz.func134,Tryz.ntmps134
  go_wp2_with (go_at_call 125;refine (isZero_any _ _ _ _).mono ?_;rintro e w' ⟨rfl,rfl⟩)
  go_ret
  refine ⟨?_,rfl⟩
  have:xs = []:=List.eq_nil_of_length_eq_zero HR.out.len
  subst this
  simp [val]
 ·obtain ⟨ad,x,rfl,_hb,hx,hcell⟩:=HR.out.at_ hn
  have hz:decide (n=0)=false:=by simp;omega
  have HX:=Lib.hid hx
  have hcell' : w.cell? ad=some (.int .u64 (x:Int)):=by simpa [Addr.add] using hcell
  clear hx
  go_enter Tryz.func134,Tryz.ntmps134
  go_wp2_with (go_at_call 125;refine (isZero_any _ _ _ _).mono ?_;rintro e w' ⟨rfl,rfl⟩)
  go_ret
  refine ⟨bY ?_,rfl⟩
  have hx:=HX.out
  match xs,hx,HD.out with
  | y::l,hx,hd =>
    simp at hx
    subst hx
    have:=hd y (by simp)
    rw [val,Nat.add_mul_mod_self_left,Nat.mod_eq_of_lt this]
theorem isOne_any (A:Option Addr) (n c:Nat) (xs:List Nat) (w:World) (h:Rd w A n c xs) (hd:Dig aD xs) (hn:Norm xs) :
 Calls Tryz.prog 127 #[.slice A n c] w fun e w'=>e = .returned (.bool (decide (val aD xs=1)))∧w=w':=by
 have HR:=Lib.hid h
 have HD:=Lib.hid (And.intro hd hn)
 have hnc:n≤c:=h.cap
 have hcm:c≤9223372036854775807:=h.2.2.1
 clear h hd hn
 by_cases h1:n=1
 ·subst h1
  obtain ⟨ad,x,rfl,_hb,hx,hcell⟩:=HR.out.at_ Nat.zero_lt_one
  have HX:=Lib.hid hx
  have hcell' : w.cell? ad=some (.int .u64 (x:Int)):=by simpa [Addr.add] using hcell
  clear hx hcell
  go_enter Tryz.func127,Tryz.ntmps127
  go_wp2
  go_ret
  refine ⟨?_,rfl⟩
  have hx:=HX.out
  have hl:=HR.out.len
  match xs,hx,hl with
  | [y],hx,_ =>
    simp at hx
    subst hx
    congr 2
    simp only [val]
    by_cases e:y=1
    ·subst e;simp
    ·simp [e];omega
 ·have hz:((n:Int)==1)=false:=by simp;omega
  go_enter Tryz.func127,Tryz.ntmps127
  go_wp2
  go_ret
  refine ⟨?_,rfl⟩
  have:¬ val aD xs=1:=by
   intro e
   have hl:=HR.out.len
   have hlt:xs.length≤1:=aV eO HD.out.2 (by rw [e,Nat.pow_one];exact eO)
   have:xs = []:=List.eq_nil_of_length_eq_zero (by omega)
   subst this
   simp [val] at e
  simp [this]
def bZ (a b:Int):Int:=if a<b then -1 else if b<a then 1 else 0
theorem nanInt_any (a:Int) (w:World):Calls Tryz.prog 254 #[.int .i64 a] w fun e w'=>e = .returned (.bool false)∧w=w':=by
 have h:(a != a)=false:=by simp
 go_enter Tryz.func254,Tryz.ntmps254
 go_wp2
 go_ret
 exact ⟨ret_bool (by simp),rfl⟩
theorem cmpInt_any (a b:Int) (w:World):Calls Tryz.prog 226 #[.int .i64 a,.int .i64 b] w fun e w'=>e = .returned (.int .i64 (bZ a b))∧w=w':=by
 rcases Int.lt_trichotomy a b with h|h|h
 ·have hp:=Lib.hid (show bZ a b = -1 by unfold bZ;rw [if_pos h])
  go_enter Tryz.func226,Tryz.ntmps226
  go_wp2_with (go_at_call 254;refine (nanInt_any _ _).mono ?_;rintro e w' ⟨rfl,rfl⟩)
  go_ret
  exact ⟨bY hp.out.symm,rfl⟩
 ·subst h
  have hp:=Lib.hid (show bZ a a=0 by unfold bZ;rw [if_neg (by omega),if_neg (by omega)])
  go_enter Tryz.func226,Tryz.ntmps226
  go_wp2_with (go_at_call 254;refine (nanInt_any _ _).mono ?_;rintro e w' ⟨rfl,rfl⟩)
  go_ret
  exact ⟨bY hp.out.symm,rfl⟩
 ·have hp:=Lib.hid (show bZ a b=1 by unfold bZ;rw [if_neg (by omega),if_pos h])
  go_enter Tryz.func226,Tryz.ntmps226
  go_wp2_with (go_at_call 254;refine (nanInt_any _ _).mono ?_;rintro e w' ⟨rfl,rfl⟩)
  go_ret
  exact ⟨bY hp.out.symm,rfl⟩
theorem nanWord_any (a:Int) (w:World):Calls Tryz.prog 255 #[.int .u64 a] w fun e w'=>e = .returned (.bool false)∧w=w':=by
 have h:(a != a)=false:=by simp
 go_enter Tryz.func255,Tryz.ntmps255
 go_wp2
 go_ret
 exact ⟨ret_bool (by simp),rfl⟩
theorem cmpWord_any (a b:Int) (w:World):Calls Tryz.prog 227 #[.int .u64 a,.int .u64 b] w fun e w'=>e = .returned (.int .i64 (bZ a b))∧w=w':=by
 rcases Int.lt_trichotomy a b with h|h|h
 ·have hp:=Lib.hid (show bZ a b = -1 by unfold bZ;rw [if_pos h])
  go_enter Tryz.func227,Tryz.ntmps227
  go_wp2_with (go_at_call 255;refine (nanWord_any _ _).mono ?_;rintro e w' ⟨rfl,rfl⟩)
  go_ret
  exact ⟨bY hp.out.symm,rfl⟩
 ·subst h
  have hp:=Lib.hid (show bZ a a=0 by unfold bZ;rw [if_neg (by omega),if_neg (by omega)])
  go_enter Tryz.func227,Tryz.ntmps227
  go_wp2_with (go_at_call 255;refine (nanWord_any _ _).mono ?_;rintro e w' ⟨rfl,rfl⟩)
  go_ret
  exact ⟨bY hp.out.symm,rfl⟩
 ·have hp:=Lib.hid (show bZ a b=1 by unfold bZ;rw [if_neg (by omega),if_pos h])
  go_enter Tryz.func227,Tryz.ntmps227
  go_wp2_with (go_at_call 255;refine (nanWord_any _ _).mono ?_;rintro e w' ⟨rfl,rfl⟩)
  go_ret
  exact ⟨bY hp.out.symm,rfl⟩
theorem cmpI_len {B:Nat} (hB:1<B) {a b:List Nat} (ha:Dig B a) (hb:Dig B b) (na:Norm a) (nb:Norm b) (h:a.length≠b.length):bZ a.length b.length=bZ (val B a) (val B b):=by
 unfold bZ
 rcases Nat.lt_or_gt_of_ne h with h|h
 ·have:=dI hB ha nb h
  rw [if_pos (by omega),if_pos (by omega)]
 ·have:=dI hB hb na h
  rw [if_neg (by omega),if_pos (by omega),if_neg (by omega),if_pos (by omega)]
theorem cmpI_top {B:Nat} {a b:List Nat} (hl:a.length=b.length) (ha:Dig B a) (hb:Dig B b) {k:Nat} (hk:k<a.length) (htop:a.drop (k+1)=b.drop (k+1)) {x y:Nat} (hx:a[k]?=some x) (hy:b[k]?=some y) (hne:x≠y) :
 bZ x y=bZ (val B a) (val B b):=by
 rw [List.getElem?_eq_getElem hk] at hx
 rw [List.getElem?_eq_getElem (by omega)] at hy
 injection hx with hx
 injection hy with hy
 subst hx
 subst hy
 unfold bZ
 rcases Nat.lt_or_gt_of_ne hne with h|h
 ·have:=lt_of_top hl ha hk htop h
  rw [if_pos (by omega),if_pos (by omega)]
 ·have:=lt_of_top hl.symm hb (by omega) htop.symm h
  rw [if_neg (by omega),if_pos (by omega),if_neg (by omega),if_pos (by omega)]
def Agree (a b:List Nat) (k:Nat):Prop:=a.drop k=b.drop k
theorem Agree.step {a b:List Nat} {k:Nat} (h:Agree a b (k+1)) {x y:Nat} (hx:a[k]?=some x) (hy:b[k]?=some y) (he:x=y):Agree a b k:=by
 obtain ⟨h1,e1⟩:=List.getElem?_eq_some_iff.1 hx
 obtain ⟨h2,e2⟩:=List.getElem?_eq_some_iff.1 hy
 unfold Agree at *
 rw [List.drop_eq_getElem_cons h1,List.drop_eq_getElem_cons h2,h,e1,e2,he]
set_option maxHeartbeats 1000000 in
theorem compare_any (A:Option Addr) (n c:Nat) (xs:List Nat) (A' : Option Addr) (n' c' : Nat) (ys:List Nat) (w:World) (h:Rd w A n c xs) (h' : Rd w A' n' c' ys)
 (hd:Dig aD xs) (hd' : Dig aD ys) (hn:Norm xs) (hn' : Norm ys) :
 Calls Tryz.prog 190 #[.slice A n c,.slice A' n' c'] w (Gives w (.int .i64 (bZ (val aD xs) (val aD ys)))):=by
 have HX:=Lib.hid (And.intro h (And.intro hd hn))
 have HY:=Lib.hid (And.intro h' (And.intro hd' hn'))
 have hnc:n≤c:=h.cap
 have hcm:c≤9223372036854775807:=h.2.2.1
 have hnc' : n'≤c':=h'.cap
 have hcm' : c'≤9223372036854775807:=h'.2.2.1
 clear h h' hd hd' hn hn'
 by_cases hl:n=n'
 ·subst hl
  have ht:((n:Int) != n)=false:=by simp
  go_enter Tryz.func190,Tryz.ntmps190
  go_wp2
  go_loopw [5] (fun i wr => ∃ k:Nat,k≤n∧Agree xs ys k∧i = .int .i64 ((k:Int)-1)∧Below w.heap.size w wr) (fun i _=>(intOf i+1).toNat)
  case atStart=>exact ⟨n,Nat.le_refl _,by unfold Agree;rw [List.drop_eq_nil_of_le (by rw [HX.out.1.len];omega),List.drop_eq_nil_of_le (by rw [HY.out.1.len];omega)],rfl,Below.refl _ _⟩
  case round =>
   obtain ⟨k,hk,hag,rfl,hb⟩:=hrel
   have HA:=Lib.hid hag
   clear hag
   rcases Nat.eq_zero_or_pos k with rfl|hk0
   ·go_wp2
    go_ret
    refine ⟨bY ?_,hb⟩
    have:=HA.out
    unfold Agree at this
    simp at this
    rw [this]
    unfold bZ
    simp
   ·obtain ⟨m,rfl⟩:∃ m,k=m+1:=⟨k-1,by omega⟩
    obtain ⟨ad,x,hA,_,hx,hcx⟩:=(HX.out.1.below hb).at_ (k:=m) (by omega)
    obtain ⟨ad',y,hA',_,hy,hcy⟩:=(HY.out.1.below hb).at_ (k:=m) (by omega)
    subst hA
    subst hA'
    have HE:=Lib.hid (And.intro hx hy)
    clear hx hy hk0
    have hidx:((m:Int)+1-1)=m:=by omega
    simp only [Int.natCast_add,Int.natCast_one,hidx]
    clear hidx
    by_cases he:x=y
    ·have ht:((x:Int) != y)=false:=by simp [he]
     have HE2:=Lib.hid he
     clear he
     go_wp2
     go_quiet (fail)
     go_wp2
     go_roundw
     case rel=>exact ⟨m,by omega,HA.out.step HE.out.1 HE.out.2 HE2.out,rfl,cA hb _⟩
     case measure=>simp [intOf]
    ·have ht:((x:Int) != y)=true:=by simp;omega
     have HE2:=Lib.hid he
     clear he
     go_wp2
     go_quiet (fail)
     have hcx2:(wr.drewN nq).cell? (ad.add m)=some (.int .u64 (x:Int)):=hcx
     have hcy2:(wr.drewN nq).cell? (ad'.add m)=some (.int .u64 (y:Int)):=hcy
     have hb2:=cA hb nq
     clear hb hcx hcy
     generalize wr.drewN nq=w2 at *
     go_wp2
     go_quiet ((go_at_call 227;exact Calls.quiet_of_same ((cmpWord_any _ _ _).mono fun _ _ h=>⟨h.1,h.2.symm⟩)))
     go_wp2
     go_ret
     refine ⟨bY ?_,cA hb2 _⟩
     exact cmpI_top (by rw [HX.out.1.len,HY.out.1.len]) HX.out.2.1 HY.out.2.1 (by rw [HX.out.1.len];omega) HA.out HE.out.1 HE.out.2 HE2.out
 ·have ht:((n:Int) != n')=true:=by simp;omega
  have HL:=Lib.hid hl
  clear hl
  go_enter Tryz.func190,Tryz.ntmps190
  go_wp2_with (go_at_call 226;refine (cmpInt_any _ _ _).mono ?_;rintro e w' ⟨rfl,rfl⟩)
  go_ret
  refine ⟨bY ?_,Below.refl _ _⟩
  have e1:=HX.out.1.len
  have e2:=HY.out.1.len
  rw [← e1,← e2]
  exact cmpI_len eO HX.out.2.1 HY.out.2.1 HX.out.2.2 HY.out.2.2 (by rw [e1,e2];exact HL.out)
theorem gC (x y c:Nat) (hc:c≤1) (w:World) :
 (callFunc 198 #[.int .u64 (x:Int),.int .u64 (y:Int),.int .u64 (c:Int)]).run Tryz.prog w =
  .ok (.value (.tuple #[.int .u64 (((x+y+c)%aD:Nat):Int),.int .u64 (((x+y+c)/aD:Nat):Int)])) w:=by
 rw [run_callFunc_extern Tryz.func198 (by kernel_rfl) (by kernel_rfl) (by kernel_rfl) (e:=add64Entry) (by kernel_rfl),run_add64 x y c (by omega) (by omega) (by omega) (by omega)]
 simp only [Result.andThen,aD]
 congr 5 <;> omega
theorem run_sub64' (x y b:Nat) (hb:b≤1) (w:World) :
 (callFunc 258 #[.int .u64 (x:Int),.int .u64 (y:Int),.int .u64 (b:Int)]).run Tryz.prog w =
  .ok (.value (.tuple #[.int .u64 (((x+aD-y-b)%aD:Nat):Int),.int .u64 ((if x<y+b then 1 else 0:Nat):Int)])) w:=by
 rw [run_callFunc_extern Tryz.func258 (by kernel_rfl) (by kernel_rfl) (by kernel_rfl) (e:=sub64Entry) (by kernel_rfl),run_sub64 x y b hb]
 rfl
theorem eY:(Tryz.prog.info? 151).map (fun i=>(i.zero,i.size,i.bytes))=some (some (.int .u64 0),1,8):=by kernel_rfl
theorem dV {w:World} {g base n:Nat} (h:w.ownsRow base 151 1 (.slice (some ⟨g,0,none⟩) n n) n (madeCells #[Value.int .u64 0] n).toList):Blk w g 151 (List.replicate n 0):=by
 refine Blk.of_own h ?_
 rw [toList_madeCells_one]
 simp [cellU]
def AddInv (xs ys zs:List Nat) (k cy:Nat):Prop :=
 cy≤1∧Dig aD zs∧zs.length=xs.length+1∧val aD (zs.take k)+aD^k*cy=val aD (xs.take k)+val aD (ys.take k)∧(∀ j,k≤j→j<zs.length→zs[j]?=some 0)
theorem AddInv.step {xs ys zs:List Nat} {k cy x y:Nat} (h:AddInv xs ys zs k cy) (hx:xs[k]?=some x) (hy:ys.getD k 0=y) (hdx:Dig aD xs) (hdy:Dig aD ys) :
 AddInv xs ys (zs.set k ((x+y+cy)%aD)) (k+1) ((x+y+cy)/aD):=by
 obtain ⟨h1,h2,h3,h4,h5⟩:=h
 obtain ⟨hk,ex⟩:=List.getElem?_eq_some_iff.1 hx
 have bx:=hdx.at_ hx
 have by' : y<aD:=by rw [← hy];exact hdy.get0 bD k
 have hq:(x+y+cy)/aD≤1:=by
  have:=aH
  rw [this] at bx by' ⊢
  omega
 have hr:(x+y+cy)%aD<aD:=Nat.mod_lt _ bD
 have hdm:=Nat.div_add_mod (x+y+cy) aD
 refine ⟨hq,h2.set hr,by simp [h3],?_,?_⟩
 ·have e1:val aD ((zs.set k ((x+y+cy)%aD)).take (k+1))=val aD (zs.take k)+aD^k*((x+y+cy)%aD):=by
   rw [aF _ _ _ (by simp;omega),List.take_set_of_le (Nat.le_refl _)]
   simp
  have e2:val aD (ys.take (k+1))=val aD (ys.take k)+aD^k*y:=by
   rcases Nat.lt_or_ge k ys.length with hl|hl
   ·rw [aF _ _ _ hl]
    simp [List.getD,List.getElem?_eq_getElem hl] at hy
    rw [hy]
   ·rw [List.take_of_length_le (by omega),List.take_of_length_le hl]
    simp [List.getD,List.getElem?_eq_none hl] at hy
    rw [← hy];simp
  rw [e1,e2,aF _ _ _ hk,ex,Nat.pow_succ]
  generalize (x+y+cy)/aD=q at *
  generalize (x+y+cy)%aD=r at *
  generalize aD^k=P at *
  generalize aD=V at *
  grind
 ·intro j hj hl
  rw [List.getElem?_set_ne (by omega)]
  exact h5 j (by omega) (by simpa using hl)
theorem AddInv.start {xs ys:List Nat}:AddInv xs ys (List.replicate (xs.length+1) 0) 0 0 :=
 ⟨by omega,Dig.replicate bD _,by simp,by simp [val],by intro j _ h;simp at h;simp [h]⟩
theorem AddInv.finish {xs ys zs:List Nat} {cy:Nat} (h:AddInv xs ys zs xs.length cy) (hl:ys.length≤xs.length) :
 Dig aD (zs.set xs.length cy)∧val aD (zs.set xs.length cy)=val aD xs+val aD ys:=by
 obtain ⟨h1,h2,h3,h4,h5⟩:=h
 refine ⟨h2.set (by have:=eO;omega),?_⟩
 rw [List.take_of_length_le (Nat.le_refl _),List.take_of_length_le (l:=ys) hl] at h4
 rw [← h4,← List.take_of_length_le (l:=zs.set xs.length cy) (i:=xs.length+1) (by simp;omega),aF _ _ _ (by simp;omega),List.take_set_of_le (Nat.le_refl _)]
 simp
set_option maxHeartbeats 1000000 in
theorem plus_ge (A:Option Addr) (n c:Nat) (xs:List Nat) (A' : Option Addr) (n' c' : Nat) (ys:List Nat) (w:World) (h:Rd w A n c xs) (h' : Rd w A' n' c' ys)
 (hd:Dig aD xs) (hd' : Dig aD ys) (hn:n≤2199023255552) (hle:¬ n<n') :
 Calls Tryz.prog 132 #[.slice A n c,.slice A' n' c'] w (GivesNt w (val aD xs+val aD ys)):=by
 have HX:=Lib.hid (And.intro h hd)
 have HY:=Lib.hid (And.intro h' hd')
 have hnc:n≤c:=h.cap
 have hcm:c≤9223372036854775807:=h.2.2.1
 have hnc' : n'≤c':=h'.cap
 have hcm' : c'≤9223372036854775807:=h'.2.2.1
 have hle' : n'≤n:=by omega
 obtain ⟨i0,hi,hz0,hz1,hz2⟩:=info_parts eY
 have HI:=Lib.hid (And.intro hi (And.intro hz0 (And.intro hz1 hz2)))
 clear h h' hd hd' hi hz0 hz1 hz2
 go_enter Tryz.func132,Tryz.ntmps132
 go_wp2_with (at_make;refine wpList_make_full _ rfl _ _ 102 rfl w.heap.size 151 i0 (.int .u64 0) 1 Tryz.underlying102 HI.out.1 HI.out.2.1 HI.out.2.2.1 _ _ _ _ (n+1) rfl rfl ?b0 ?b1 ?b2 ?b3 (Nat.le_refl _) ?_)
 case b0=>omega
 case b1=>omega
 case b2=>rw [HI.out.2.2.2];omega
 case b3=>show n+1≤9223372036854775807;omega
 intro w1 hown hg1
 have hb1:Below w.heap.size w w1:=(Below.refl _ _).grown hg1 (Nat.le_refl _) (fun k h=>by cases h)
 have hblk:=dV hown
 have e0:AddInv xs ys (List.replicate (n+1) 0) 0 0:=by
  have:=AddInv.start (xs:=xs) (ys:=ys)
  rwa [HX.out.1.len] at this
 have HB:=Lib.hid hblk
 have H0:=Lib.hid e0
 clear hown hg1 hblk e0
 obtain ⟨g,hg⟩:∃ g,g=w.heap.size:=⟨_,rfl⟩
 rw [← hg] at HB ⊢
 have HG:=Lib.hid hg
 clear hg
 go_wp2
 go_loopw [6,23] (fun cy i wr => ∃ (k cv:Nat) (zs:List Nat),k≤n'∧i = .int .i64 (k:Int)∧cy = .int .u64 (cv:Int)∧AddInv xs ys zs k cv∧Blk wr g 151 zs∧Below w.heap.size w wr) (fun _ i _=>n'-(intOf i).toNat)
 case atStart=>exact ⟨0,0,_,Nat.zero_le _,rfl,rfl,H0.out,HB.out,hb1⟩
 case round =>
  obtain ⟨k,cv,zs,hk,rfl,rfl,hinv,hblk,hb⟩:=hrel
  have hcv:cv≤1:=hinv.1
  have hzl:k<zs.length:=by rw [hinv.2.2.1,HX.out.1.len];omega
  have HV:=Lib.hid hinv
  by_cases hlt:k<n'
  ·obtain ⟨ad,x,hA,_,hx,hcx⟩:=(HX.out.1.below hb).at_ (k:=k) (by omega)
   obtain ⟨ad',y,hA',_,hy,hcy⟩:=(HY.out.1.below hb).at_ (k:=k) (by omega)
   subst hA
   subst hA'
   obtain ⟨z,hcz⟩:∃ z:Int,wr.cell? ⟨g,k,none⟩=some (.int .u64 z):=⟨_,hblk.cell_get hzl⟩
   have hfz:=hblk.frozen k
   have hadd:=fun w=>gC x y cv hcv w
   have HE:=Lib.hid (And.intro hx (And.intro hy hblk))
   clear hx hy hinv hblk hzl
   go_wp2
   go_roundw
   case rel=>exact ⟨k+1,(x+y+cv)/aD,zs.set k ((x+y+cv)%aD),by omega,by go_num,rfl,HV.out.step HE.out.1 (by rw [List.getD,HE.out.2.1];rfl) HX.out.2 HY.out.2,HE.out.2.2.set_ _ _,hb.setCell (by rw [HG.out];exact Nat.le_refl _) _⟩
   case measure=>simp [intOf];omega
  ·obtain rfl:k=n':=by omega
   have HBl:=Lib.hid hblk
   clear hinv hblk hlt hzl
   go_wp2
   go_loopw [6,9] (fun cy i wr => ∃ (m cv:Nat) (zs:List Nat),m≤n∧k≤m∧i = .int .i64 (m:Int)∧cy = .int .u64 (cv:Int)∧AddInv xs ys zs m cv∧Blk wr g 151 zs∧Below w.heap.size w wr) (fun _ i _=>n-(intOf i).toNat)
   case atStart=>exact ⟨k,cv,zs,by omega,by omega,rfl,rfl,HV.out,HBl.out,hb⟩
   case round =>
    clear hb hcv
    obtain ⟨m,cv,zs,hm,hkm,rfl,rfl,hinv,hblk,hb⟩:=hrel
    have hcv:cv≤1:=hinv.1
    have hzl:m<zs.length:=by rw [hinv.2.2.1,HX.out.1.len];omega
    obtain ⟨z,hcz⟩:∃ z:Int,wr.cell? ⟨g,m,none⟩=some (.int .u64 z):=⟨_,hblk.cell_get hzl⟩
    have hfz:=hblk.frozen m
    have HV:=Lib.hid hinv
    by_cases hlt:m<n
    ·obtain ⟨ad,x,hA,_,hx,hcx⟩:=(HX.out.1.below hb).at_ (k:=m) (by omega)
     subst hA
     have hadd:=fun w=>gC x 0 cv hcv w
     simp only [Int.natCast_zero] at hadd
     have HE:=Lib.hid (And.intro hx hblk)
     clear hx hinv hblk hzl
     go_wp2
     go_roundw
     case rel=>exact ⟨m+1,(x+0+cv)/aD,zs.set m ((x+0+cv)%aD),by omega,by omega,by go_num,rfl,HV.out.step HE.out.1 (by rw [List.getD,List.getElem?_eq_none (by rw [HY.out.1.len];omega)];rfl) HX.out.2 HY.out.2,HE.out.2.set_ _ _,hb.setCell (by rw [HG.out];exact Nat.le_refl _) _⟩
     case measure=>simp [intOf];omega
    ·obtain rfl:m=n:=by omega
     have hfin:=HV.out
     rw [← HX.out.1.len] at hfin
     have hfin2:=hfin.finish (by rw [HY.out.1.len,HX.out.1.len];omega)
     rw [HX.out.1.len] at hfin2
     have hb2:=hblk.set_ m cv
     have hl2:(zs.set m cv).length=m+1:=by rw [List.length_set,hinv.2.2.1,HX.out.1.len]
     have hrd:=hb2.rd (by rw [hl2];show m+1≤9223372036854775807;omega)
     rw [hl2] at hrd
     have HF:=Lib.hid (And.intro hfin2 (And.intro hrd hb2))
     clear hfin hfin2 hb2 hl2 hrd hinv hblk hlt hzl
     go_wp2_with (go_at_call 158;refine (eJ _ _ _ (zs.set m cv) _ HF.out.2.1 HF.out.1.1).mono ?_;rintro e w' ⟨⟨v,rfl,hv⟩,rfl⟩)
     go_ret
     exact ⟨v,rfl,by rw [← HF.out.1.2];exact hv,hb.setCell (by rw [HG.out];exact Nat.le_refl _) _⟩
set_option maxHeartbeats 1000000 in
theorem plus_lt (A:Option Addr) (n c:Nat) (xs:List Nat) (A' : Option Addr) (n' c' : Nat) (ys:List Nat) (w:World) (h:Rd w A n c xs) (h' : Rd w A' n' c' ys)
 (hd:Dig aD xs) (hd' : Dig aD ys) (hn:n≤2199023255552) (hle:n'<n) :
 Calls Tryz.prog 132 #[.slice A' n' c',.slice A n c] w (GivesNt w (val aD xs+val aD ys)):=by
 have HX:=Lib.hid (And.intro h hd)
 have HY:=Lib.hid (And.intro h' hd')
 have hnc:n≤c:=h.cap
 have hcm:c≤9223372036854775807:=h.2.2.1
 have hnc' : n'≤c':=h'.cap
 have hcm' : c'≤9223372036854775807:=h'.2.2.1
 have hle' : n'≤n:=by omega
 obtain ⟨i0,hi,hz0,hz1,hz2⟩:=info_parts eY
 have HI:=Lib.hid (And.intro hi (And.intro hz0 (And.intro hz1 hz2)))
 clear h h' hd hd' hi hz0 hz1 hz2
 go_enter Tryz.func132,Tryz.ntmps132
 go_wp2_with (at_make;refine wpList_make_full _ rfl _ _ 102 rfl w.heap.size 151 i0 (.int .u64 0) 1 Tryz.underlying102 HI.out.1 HI.out.2.1 HI.out.2.2.1 _ _ _ _ (n+1) rfl rfl ?b0 ?b1 ?b2 ?b3 (Nat.le_refl _) ?_)
 case b0=>omega
 case b1=>omega
 case b2=>rw [HI.out.2.2.2];omega
 case b3=>show n+1≤9223372036854775807;omega
 intro w1 hown hg1
 have hb1:Below w.heap.size w w1:=(Below.refl _ _).grown hg1 (Nat.le_refl _) (fun k h=>by cases h)
 have hblk:=dV hown
 have e0:AddInv xs ys (List.replicate (n+1) 0) 0 0:=by
  have:=AddInv.start (xs:=xs) (ys:=ys)
  rwa [HX.out.1.len] at this
 have HB:=Lib.hid hblk
 have H0:=Lib.hid e0
 clear hown hg1 hblk e0
 obtain ⟨g,hg⟩:∃ g,g=w.heap.size:=⟨_,rfl⟩
 rw [← hg] at HB ⊢
 have HG:=Lib.hid hg
 clear hg
 go_wp2
 go_loopw [6,23] (fun cy i wr => ∃ (k cv:Nat) (zs:List Nat),k≤n'∧i = .int .i64 (k:Int)∧cy = .int .u64 (cv:Int)∧AddInv xs ys zs k cv∧Blk wr g 151 zs∧Below w.heap.size w wr) (fun _ i _=>n'-(intOf i).toNat)
 case atStart=>exact ⟨0,0,_,Nat.zero_le _,rfl,rfl,H0.out,HB.out,hb1⟩
 case round =>
  obtain ⟨k,cv,zs,hk,rfl,rfl,hinv,hblk,hb⟩:=hrel
  have hcv:cv≤1:=hinv.1
  have hzl:k<zs.length:=by rw [hinv.2.2.1,HX.out.1.len];omega
  have HV:=Lib.hid hinv
  by_cases hlt:k<n'
  ·obtain ⟨ad,x,hA,_,hx,hcx⟩:=(HX.out.1.below hb).at_ (k:=k) (by omega)
   obtain ⟨ad',y,hA',_,hy,hcy⟩:=(HY.out.1.below hb).at_ (k:=k) (by omega)
   subst hA
   subst hA'
   obtain ⟨z,hcz⟩:∃ z:Int,wr.cell? ⟨g,k,none⟩=some (.int .u64 z):=⟨_,hblk.cell_get hzl⟩
   have hfz:=hblk.frozen k
   have hadd:=fun w=>gC x y cv hcv w
   have HE:=Lib.hid (And.intro hx (And.intro hy hblk))
   clear hx hy hinv hblk hzl
   go_wp2
   go_roundw
   case rel=>exact ⟨k+1,(x+y+cv)/aD,zs.set k ((x+y+cv)%aD),by omega,by go_num,rfl,HV.out.step HE.out.1 (by rw [List.getD,HE.out.2.1];rfl) HX.out.2 HY.out.2,HE.out.2.2.set_ _ _,hb.setCell (by rw [HG.out];exact Nat.le_refl _) _⟩
   case measure=>simp [intOf];omega
  ·obtain rfl:k=n':=by omega
   have HBl:=Lib.hid hblk
   clear hinv hblk hlt hzl
   go_wp2
   go_loopw [6,9] (fun cy i wr => ∃ (m cv:Nat) (zs:List Nat),m≤n∧k≤m∧i = .int .i64 (m:Int)∧cy = .int .u64 (cv:Int)∧AddInv xs ys zs m cv∧Blk wr g 151 zs∧Below w.heap.size w wr) (fun _ i _=>n-(intOf i).toNat)
   case atStart=>exact ⟨k,cv,zs,by omega,by omega,rfl,rfl,HV.out,HBl.out,hb⟩
   case round =>
    clear hb hcv
    obtain ⟨m,cv,zs,hm,hkm,rfl,rfl,hinv,hblk,hb⟩:=hrel
    have hcv:cv≤1:=hinv.1
    have hzl:m<zs.length:=by rw [hinv.2.2.1,HX.out.1.len];omega
    obtain ⟨z,hcz⟩:∃ z:Int,wr.cell? ⟨g,m,none⟩=some (.int .u64 z):=⟨_,hblk.cell_get hzl⟩
    have hfz:=hblk.frozen m
    have HV:=Lib.hid hinv
    by_cases hlt:m<n
    ·obtain ⟨ad,x,hA,_,hx,hcx⟩:=(HX.out.1.below hb).at_ (k:=m) (by omega)
     subst hA
     have hadd:=fun w=>gC x 0 cv hcv w
     simp only [Int.natCast_zero] at hadd
     have HE:=Lib.hid (And.intro hx hblk)
     clear hx hinv hblk hzl
     go_wp2
     go_roundw
     case rel=>exact ⟨m+1,(x+0+cv)/aD,zs.set m ((x+0+cv)%aD),by omega,by omega,by go_num,rfl,HV.out.step HE.out.1 (by rw [List.getD,List.getElem?_eq_none (by rw [HY.out.1.len];omega)];rfl) HX.out.2 HY.out.2,HE.out.2.set_ _ _,hb.setCell (by rw [HG.out];exact Nat.le_refl _) _⟩
     case measure=>simp [intOf];omega
    ·obtain rfl:m=n:=by omega
     have hfin:=HV.out
     rw [← HX.out.1.len] at hfin
     have hfin2:=hfin.finish (by rw [HY.out.1.len,HX.out.1.len];omega)
     rw [HX.out.1.len] at hfin2
     have hb2:=hblk.set_ m cv
     have hl2:(zs.set m cv).length=m+1:=by rw [List.length_set,hinv.2.2.1,HX.out.1.len]
     have hrd:=hb2.rd (by rw [hl2];show m+1≤9223372036854775807;omega)
     rw [hl2] at hrd
     have HF:=Lib.hid (And.intro hfin2 (And.intro hrd hb2))
     clear hfin hfin2 hb2 hl2 hrd hinv hblk hlt hzl
     go_wp2_with (go_at_call 158;refine (eJ _ _ _ (zs.set m cv) _ HF.out.2.1 HF.out.1.1).mono ?_;rintro e w' ⟨⟨v,rfl,hv⟩,rfl⟩)
     go_ret
     exact ⟨v,rfl,by rw [← HF.out.1.2];exact hv,hb.setCell (by rw [HG.out];exact Nat.le_refl _) _⟩
theorem plus_any (A:Option Addr) (n c:Nat) (xs:List Nat) (A' : Option Addr) (n' c' : Nat) (ys:List Nat) (w:World) (h:Rd w A n c xs) (h' : Rd w A' n' c' ys)
 (hd:Dig aD xs) (hd' : Dig aD ys) (hn:n≤2199023255552) (hn' : n'≤2199023255552) :
 Calls Tryz.prog 132 #[.slice A n c,.slice A' n' c'] w (GivesNt w (val aD xs+val aD ys)):=by
 rcases Nat.lt_or_ge n n' with hl|hl
 ·rw [Nat.add_comm]
  exact plus_lt A' n' c' ys A n c xs w h' h hd' hd hn' hl
 ·exact plus_ge A n c xs A' n' c' ys w h h' hd hd' hn (by omega)
def SubInv (xs ys zs:List Nat) (k bw:Nat):Prop :=
 bw≤1∧Dig aD zs∧zs.length=xs.length∧val aD (zs.take k)+val aD (ys.take k)=val aD (xs.take k)+aD^k*bw
theorem SubInv.step {xs ys zs:List Nat} {k bw x y:Nat} (h:SubInv xs ys zs k bw) (hx:xs[k]?=some x) (hy:ys.getD k 0=y) (hdx:Dig aD xs) (hdy:Dig aD ys) :
 SubInv xs ys (zs.set k ((x+aD-y-bw)%aD)) (k+1) (if x<y+bw then 1 else 0):=by
 obtain ⟨h1,h2,h3,h4⟩:=h
 obtain ⟨hk,ex⟩:=List.getElem?_eq_some_iff.1 hx
 have bx:=hdx.at_ hx
 have by' : y<aD:=by rw [← hy];exact hdy.get0 bD k
 have hr:(x+aD-y-bw)%aD<aD:=Nat.mod_lt _ bD
 have hdm:(x+aD-y-bw)%aD+y+bw=x+aD*(if x<y+bw then 1 else 0):=by
  have:=aH
  rw [this] at bx by' ⊢
  split <;> omega
 refine ⟨by split <;> omega,h2.set hr,by simp [h3],?_⟩
 have e1:val aD ((zs.set k ((x+aD-y-bw)%aD)).take (k+1))=val aD (zs.take k)+aD^k*((x+aD-y-bw)%aD):=by
  rw [aF _ _ _ (by simp;omega),List.take_set_of_le (Nat.le_refl _)]
  simp
 have e2:val aD (ys.take (k+1))=val aD (ys.take k)+aD^k*y:=by
  rcases Nat.lt_or_ge k ys.length with hl|hl
  ·rw [aF _ _ _ hl]
   simp [List.getD,List.getElem?_eq_getElem hl] at hy
   rw [hy]
  ·rw [List.take_of_length_le (by omega),List.take_of_length_le hl]
   simp [List.getD,List.getElem?_eq_none hl] at hy
   rw [← hy];simp
 rw [e1,e2,aF _ _ _ hk,ex,Nat.pow_succ]
 generalize (if x<y+bw then 1 else 0)=q at *
 generalize (x+aD-y-bw)%aD=r at *
 generalize aD^k=P at *
 generalize aD=V at *
 grind
theorem SubInv.start {xs ys:List Nat}:SubInv xs ys (List.replicate xs.length 0) 0 0 :=
 ⟨by omega,Dig.replicate bD _,by simp,by simp [val]⟩
theorem SubInv.finish {xs ys zs:List Nat} {bw:Nat} (h:SubInv xs ys zs xs.length bw) (hl:ys.length≤xs.length) (hge:val aD ys≤val aD xs) (hd:Dig aD xs) :
 Dig aD zs∧val aD zs=val aD xs-val aD ys:=by
 obtain ⟨h1,h2,h3,h4⟩:=h
 refine ⟨h2,?_⟩
 rw [List.take_of_length_le (l:=xs) (Nat.le_refl _),List.take_of_length_le (l:=ys) hl,List.take_of_length_le (l:=zs) (by omega)] at h4
 have hz:=bV h2
 have hx:=bV hd
 rw [h3] at hz
 have:bw=0:=by
  rcases Nat.eq_zero_or_pos bw with e|e
  ·exact e
  ·have:bw=1:=by omega
   subst this
   omega
 subst this
 omega
set_option maxHeartbeats 1000000 in
theorem minus_any (A:Option Addr) (n c:Nat) (xs:List Nat) (A' : Option Addr) (n' c' : Nat) (ys:List Nat) (w:World) (h:Rd w A n c xs) (h' : Rd w A' n' c' ys)
 (hd:Dig aD xs) (hd' : Dig aD ys) (hn:n≤2199023255552) (hle' : n'≤n) (hge:val aD ys≤val aD xs) :
 Calls Tryz.prog 242 #[.slice A n c,.slice A' n' c'] w (GivesNt w (val aD xs-val aD ys)):=by
 have HX:=Lib.hid (And.intro h hd)
 have HY:=Lib.hid (And.intro h' (And.intro hd' hge))
 have hnc:n≤c:=h.cap
 have hcm:c≤9223372036854775807:=h.2.2.1
 have hnc' : n'≤c':=h'.cap
 have hcm' : c'≤9223372036854775807:=h'.2.2.1
 obtain ⟨i0,hi,hz0,hz1,hz2⟩:=info_parts eY
 have HI:=Lib.hid (And.intro hi (And.intro hz0 (And.intro hz1 hz2)))
 clear h h' hd hd' hi hz0 hz1 hz2 hge
 go_enter Tryz.func242,Tryz.ntmps242
 go_wp2_with (at_make;refine wpList_make_full _ rfl _ _ 102 rfl w.heap.size 151 i0 (.int .u64 0) 1 Tryz.underlying102 HI.out.1 HI.out.2.1 HI.out.2.2.1 _ _ _ _ n rfl rfl ?b0 ?b1 ?b2 ?b3 (Nat.le_refl _) ?_)
 case b0=>rfl
 case b1=>rfl
 case b2=>rw [HI.out.2.2.2];omega
 case b3=>show n≤9223372036854775807;omega
 intro w1 hown hg1
 have hb1:Below w.heap.size w w1:=(Below.refl _ _).grown hg1 (Nat.le_refl _) (fun k h=>by cases h)
 have hblk:=dV hown
 have e0:SubInv xs ys (List.replicate n 0) 0 0:=by
  have:=SubInv.start (xs:=xs) (ys:=ys)
  rwa [HX.out.1.len] at this
 have HB:=Lib.hid hblk
 have H0:=Lib.hid e0
 clear hown hg1 hblk e0
 obtain ⟨g,hg⟩:∃ g,g=w.heap.size:=⟨_,rfl⟩
 rw [← hg] at HB ⊢
 have HG:=Lib.hid hg
 clear hg
 go_wp2
 go_loopw [6,15] (fun cy i wr => ∃ (k cv:Nat) (zs:List Nat),k≤n'∧i = .int .i64 (k:Int)∧cy = .int .u64 (cv:Int)∧SubInv xs ys zs k cv∧Blk wr g 151 zs∧Below w.heap.size w wr) (fun _ i _=>n'-(intOf i).toNat)
 case atStart=>exact ⟨0,0,_,Nat.zero_le _,rfl,rfl,H0.out,HB.out,hb1⟩
 case round =>
  obtain ⟨k,cv,zs,hk,rfl,rfl,hinv,hblk,hb⟩:=hrel
  have hcv:cv≤1:=hinv.1
  have hzn:zs.length=n:=by rw [hinv.2.2.1,HX.out.1.len]
  have HV:=Lib.hid hinv
  by_cases hlt:k<n'
  ·obtain ⟨ad,x,hA,_,hx,hcx⟩:=(HX.out.1.below hb).at_ (k:=k) (by omega)
   obtain ⟨ad',y,hA',_,hy,hcy⟩:=(HY.out.1.below hb).at_ (k:=k) (by omega)
   subst hA
   subst hA'
   obtain ⟨z,hcz⟩:∃ z:Int,wr.cell? ⟨g,k,none⟩=some (.int .u64 z):=⟨_,hblk.cell_get (by omega)⟩
   have hfz:=hblk.frozen k
   have hsub:=fun w=>run_sub64' x y cv hcv w
   have HE:=Lib.hid (And.intro hx (And.intro hy hblk))
   obtain ⟨q,hq⟩:∃ q:Nat,q=if x<y+cv then 1 else 0:=⟨_,rfl⟩
   rw [← hq] at hsub
   have HQ:=Lib.hid hq
   clear hx hy hinv hblk hzn hq
   go_wp2
   go_roundw
   case rel=>exact ⟨k+1,q,zs.set k ((x+aD-y-cv)%aD),by omega,by go_num,rfl,by rw [HQ.out];exact HV.out.step HE.out.1 (by rw [List.getD,HE.out.2.1];rfl) HX.out.2 HY.out.2.1,HE.out.2.2.set_ _ _,hb.setCell (by rw [HG.out];exact Nat.le_refl _) _⟩
   case measure=>simp [intOf];omega
  ·obtain rfl:k=n':=by omega
   have HBl:=Lib.hid hblk
   clear hinv hblk hlt hzn
   go_wp2
   go_loopw [6,9] (fun cy i wr => ∃ (m cv:Nat) (zs:List Nat),m≤n∧k≤m∧i = .int .i64 (m:Int)∧cy = .int .u64 (cv:Int)∧SubInv xs ys zs m cv∧Blk wr g 151 zs∧Below w.heap.size w wr) (fun _ i _=>n-(intOf i).toNat)
   case atStart=>exact ⟨k,cv,zs,by omega,by omega,rfl,rfl,HV.out,HBl.out,hb⟩
   case round =>
    clear hb hcv
    obtain ⟨m,cv,zs,hm,hkm,rfl,rfl,hinv,hblk,hb⟩:=hrel
    have hcv:cv≤1:=hinv.1
    have hzn:zs.length=n:=by rw [hinv.2.2.1,HX.out.1.len]
    have HV:=Lib.hid hinv
    by_cases hlt:m<n
    ·obtain ⟨z,hcz⟩:∃ z:Int,wr.cell? ⟨g,m,none⟩=some (.int .u64 z):=⟨_,hblk.cell_get (by omega)⟩
     have hfz:=hblk.frozen m
     obtain ⟨ad,x,hA,_,hx,hcx⟩:=(HX.out.1.below hb).at_ (k:=m) (by omega)
     subst hA
     have hsub:=fun w=>run_sub64' x 0 cv hcv w
     simp only [Int.natCast_zero] at hsub
     have HE:=Lib.hid (And.intro hx hblk)
     obtain ⟨q,hq⟩:∃ q:Nat,q=if x<0+cv then 1 else 0:=⟨_,rfl⟩
     rw [← hq] at hsub
     have HQ:=Lib.hid hq
     clear hx hinv hblk hzn hq
     go_wp2
     go_roundw
     case rel=>exact ⟨m+1,q,zs.set m ((x+aD-0-cv)%aD),by omega,by omega,by go_num,rfl,by rw [HQ.out];exact HV.out.step HE.out.1 (by rw [List.getD,List.getElem?_eq_none (by rw [HY.out.1.len];omega)];rfl) HX.out.2 HY.out.2.1,HE.out.2.set_ _ _,hb.setCell (by rw [HG.out];exact Nat.le_refl _) _⟩
     case measure=>simp [intOf];omega
    ·obtain rfl:m=n:=by omega
     have hfin:=HV.out
     rw [← HX.out.1.len] at hfin
     have hfin2:=hfin.finish (by rw [HY.out.1.len,HX.out.1.len];omega) HY.out.2.2 HX.out.2
     have hrd:=hblk.rd (by rw [hzn];show m≤9223372036854775807;omega)
     rw [hzn] at hrd
     have HF:=Lib.hid (And.intro hfin2 hrd)
     clear hfin hfin2 hzn hrd hinv hblk hlt
     go_wp2_with (go_at_call 158;refine (eJ _ _ _ zs _ HF.out.2 HF.out.1.1).mono ?_;rintro e w' ⟨⟨v,rfl,hv⟩,rfl⟩)
     go_ret
     exact ⟨v,rfl,by rw [← HF.out.1.2];exact hv,hb⟩
def B9:Nat:=1000000000
theorem cV:B9=1000000000:=rfl
theorem eB:1<B9:=by unfold B9;omega
theorem cN:0<B9:=by unfold B9;omega
def eH (n:Nat):Value := .int .i64 (n:Int)
def Ri (w:World) (A:Option Addr) (n c:Nat) (xs:List Nat):Prop :=
 xs.length=n∧n≤c∧c≤maxLen∧(0<n→∃ ad,A=some ad∧ad.block<w.heap.size∧∀ (j x:Nat),xs[j]?=some x→w.cell? (ad.add j)=some (.int .i64 (x:Int)))
section
variable {w w' : World} {A:Option Addr} {n c:Nat} {xs:List Nat}
theorem Ri.len (h:Ri w A n c xs):xs.length=n:=h.1
theorem Ri.cap (h:Ri w A n c xs):n≤c:=h.2.1
theorem Ri.at_ (h:Ri w A n c xs) {k:Nat} (hk:k<n) :
 ∃ ad x,A=some ad∧ad.block<w.heap.size∧xs[k]?=some x∧w.cell? (ad.add k)=some (.int .i64 (x:Int)):=by
 obtain ⟨ad,e,hb,hc⟩:=h.2.2.2 (by omega)
 have hl:k<xs.length:=by have:=h.1;omega
 exact ⟨ad,xs[k],e,hb,List.getElem?_eq_getElem hl,hc k _ (List.getElem?_eq_getElem hl)⟩
theorem Ri.below (h:Ri w A n c xs) (hb:Below w.heap.size w w'):Ri w' A n c xs:=by
 refine ⟨h.1,h.2.1,h.2.2.1,fun hn=>?_⟩
 obtain ⟨ad,e,hl,hc⟩:=h.2.2.2 hn
 have:=hb.size
 exact ⟨ad,e,by omega,fun j x hx=>(hb.cell (p:=ad.add j) (by rw [bN];exact hl)).trans (hc j x hx)⟩
theorem Ri.nil:Ri w none 0 0 []:=⟨rfl,Nat.le_refl _,Nat.zero_le _,fun h=>absurd h (by omega)⟩
theorem Ri.take (h:Ri w A n c xs) {k:Nat} (hk:k≤n):Ri w A k c (xs.take k):=by
 refine ⟨by rw [List.length_take,h.1];omega,Nat.le_trans hk h.2.1,h.2.2.1,fun hp=>?_⟩
 obtain ⟨ad,e,hl,hc⟩:=h.2.2.2 (by omega)
 refine ⟨ad,e,hl,fun j x hx=>hc j x ?_⟩
 rw [List.getElem?_take] at hx
 split at hx
 ·exact hx
 ·cases hx
end
def Bi (w:World) (g:Nat) (t:TypeId) (ys:List Nat):Prop:=w.heap[g]?=some (.cells (ys.map eH).toArray t (0,0))
section
variable {w w' : World} {g:Nat} {t:TypeId} {ys:List Nat}
theorem Bi.lt (h:Bi w g t ys):g<w.heap.size:=by
 unfold Bi at h
 rcases Nat.lt_or_ge g w.heap.size with hlt|hge
 ·exact hlt
 ·rw [Array.getElem?_eq_none hge] at h;cases h
theorem Bi.cell (h:Bi w g t ys) {i x:Nat} (hx:ys[i]?=some x):w.cell? ⟨g,i,none⟩=some (.int .i64 (x:Int)):=by
 unfold Bi at h
 simp [World.cell?,h,hx,eH]
theorem Bi.cell_get (h:Bi w g t ys) {i:Nat} (hi:i<ys.length):w.cell? ⟨g,i,none⟩=some (.int .i64 ((ys[i]:Nat):Int)):=h.cell (List.getElem?_eq_getElem hi)
theorem Bi.frozen (h:Bi w g t ys) (i:Nat):w.frozen? ⟨g,i,none⟩=false:=by
 unfold Bi at h
 simp [World.frozen?,h]
theorem Bi.set_ (h:Bi w g t ys) (i x:Nat):Bi (w.setCell ⟨g,i,none⟩ (.int .i64 (x:Int))) g t (ys.set i x):=by
 unfold Bi at h ⊢
 simp only [World.setCell,Array.getElem?_modify,h]
 simp [List.map_set,eH]
theorem Bi.drew (h:Bi w g t ys):Bi w.drew g t ys:=h
theorem Bi.drewN (h:Bi w g t ys) (k:Nat):Bi (w.drewN k) g t ys:=h
theorem Bi.alloc (h:Bi w g t ys) (o:Obj):Bi (w.alloc o) g t ys:=(Below.heap_alloc w o g h.lt).trans h
theorem Bi.far (h:Bi w g t ys) {p:Addr} (hp:g≠p.block) (u:Value):Bi (w.setCell p u) g t ys:=(Below.heap_setCell w p u g hp).trans h
theorem Bi.below {B:Nat} (h:Bi w g t ys) (hb:Below B w w') (hg:g<B):Bi w' g t ys:=(hb.block g hg).trans h
theorem Bi.rd (h:Bi w g t ys) (hm:ys.length≤maxLen):Ri w (some ⟨g,0,none⟩) ys.length ys.length ys:=by
 refine ⟨rfl,Nat.le_refl _,hm,fun _=>⟨_,rfl,h.lt,fun j x hx=>?_⟩⟩
 have:(⟨g,0,none⟩:Addr).add j=⟨g,j,none⟩:=by unfold Addr.add;split <;> simp_all
 rw [this]
 exact h.cell hx
theorem Bi.of_own {base e n:Nat} {xs:List Value} (h:w.ownsRow base e 1 (.slice (some ⟨g,0,none⟩) n n) n xs) (hx:xs=ys.map eH):Bi w g e ys:=by
 obtain ⟨h1,h2|⟨g',cap,cur,hv,_,hh,_,_,hs,ht⟩⟩:=h
 ·obtain ⟨hv,_⟩:=h2
  injection hv with hv
  cases hv
 ·injection hv with hv _ hc
  injection hv with hv
  injection hv with hv
  subst hc
  subst hv
  unfold Bi
  rw [hh]
  have:cur.toList=xs:=by
   rw [← ht,List.take_of_length_le]
   simp [hs]
  have e2:cur=(ys.map eH).toArray:=by rw [← hx,← this]
  rw [e2]
end
def In (w:World) (v:Value) (z:Int):Prop :=
 ∃ A n c xs,v = .agg #[.bool (decide (z<0)),.slice A n c]∧Ri w A n c xs∧Dig B9 xs∧Norm xs∧val B9 xs=z.natAbs
def TrimI (xs:List Nat) (k:Nat):Prop:=k≤xs.length∧Norm (xs.take k)∧val B9 (xs.take k)=val B9 xs
set_option maxHeartbeats 400000 in
theorem trim_raw (A:Option Addr) (n c:Nat) (xs:List Nat) (w:World) (h:Ri w A n c xs) :
 Calls Tryz.prog 211 #[.slice A n c] w fun e w'=>Hid (∃ k,TrimI xs k∧e = .returned (.slice A k c))∧w=w':=by
 have HR:=Lib.hid h
 have hnc:n≤c:=h.cap
 have hcm:c≤9223372036854775807:=h.2.2.1
 clear h
 go_enter Tryz.func211,Tryz.ntmps211
 go_wp2
 go_loop [0] (fun v => ∃ k:Nat,k≤n∧val B9 (xs.take k)=val B9 xs∧v = .slice A k c) (fun v=>lenOf v)
 case atStart=>exact ⟨n,Nat.le_refl _,by rw [List.take_of_length_le (by rw [HR.out.len];omega)],rfl⟩
 case round =>
  obtain ⟨k,hk,hv,rfl⟩:=hrel
  have HV:=Lib.hid hv
  clear hv
  by_cases hk0:0<k
  ·obtain ⟨ad,x,rfl,_hb,hx,hcell⟩:=HR.out.at_ (k:=k-1) (by omega)
   have HX:=Lib.hid hx
   clear hx
   go_wp2
   ·have h0 : x = 0 := by have:((x:Int)==0)=true:=by assumption
                          simpa using this
    subst h0
    refine ⟨⟨k-1,by omega,?_,rfl⟩,by simp only [lenOf];omega⟩
    have hlt:k-1<xs.length:=by rw [HR.out.len];omega
    have hz:xs[k-1]=0:=by have:=HX.out;rw [List.getElem?_eq_getElem hlt] at this;injection this
    have:=val_take_pred B9 hlt hz
    rw [show k-1+1=k from by omega] at this
    rw [← this];exact HV.out
   ·have h0:((x:Int)==0)=false:=by assumption
    go_ret
    refine ⟨⟨k,⟨by rw [HR.out.len];exact hk,norm_take (by rw [HR.out.len];exact hk) (fun _=>?_),HV.out⟩,rfl⟩,rfl⟩
    rw [HX.out]
    intro e
    injection e with e
    subst e
    simp at h0
  ·have hz:decide (0<(k:Int))=false:=by simp;omega
   have hk00:k=0:=by omega
   have HK:=Lib.hid hk00
   clear hk00
   go_wp2
   go_ret
   refine ⟨⟨k,⟨by omega,?_,HV.out⟩,rfl⟩,rfl⟩
   rw [HK.out]
   simpa using Norm.nil
end Go.Proofs.YtofcdondmgojiaaGreatDoor
namespace Go.Proofs.YtofcdondmgojiaaGreatDoor.Pl
open Go
def AllDig (l:List UInt8):Prop := ∀ c∈l,48≤c.toNat∧c.toNat≤57
def digStep (a:Nat) (c:UInt8):Nat:=a*10+(c.toNat-48)
def natAcc (acc:Nat) (l:List UInt8):Nat:=l.foldl digStep acc
def aT (l:List UInt8):Nat:=natAcc 0 l
theorem eC (acc:Nat):natAcc acc []=acc:=by unfold natAcc;rw [List.foldl_nil]
theorem eK (acc:Nat) (c:UInt8) (r:List UInt8):natAcc acc (c::r)=natAcc (acc*10+(c.toNat-48)) r:=by unfold natAcc;rw [List.foldl_cons,digStep]
theorem acc_alg (a d T n:Nat):(a*10+d)*T+n=a*(T*10)+(d*T+n):=by grind
theorem natAcc_eq (l:List UInt8):∀ acc,natAcc acc l=acc*10^l.length+natAcc 0 l:=by
 induction l with
 | nil=>intro acc;rw [eC,eC,List.length_nil,Nat.pow_zero,Nat.mul_one,Nat.add_zero]
 | cons c r ih =>
   intro acc
   rw [eK,eK,ih,ih (0*10+(c.toNat-48)),Nat.zero_mul,Nat.zero_add,List.length_cons,Nat.pow_succ]
   exact acc_alg _ _ _ _
theorem natOf_cons (c:UInt8) (r:List UInt8):aT (c::r)=(c.toNat-48)*10^r.length+aT r:=by
 unfold aT
 rw [eK,natAcc_eq,Nat.zero_mul,Nat.zero_add]
theorem fO (l r:List UInt8):aT (l++r)=aT l*10^r.length+aT r:=by
 have key:∀ acc,natAcc acc (l++r)=natAcc (natAcc acc l) r:=by
  induction l with
  | nil=>intro acc;rw [eC,List.nil_append]
  | cons c l ih=>intro acc;rw [List.cons_append,eK,eK];exact ih _
 unfold aT
 rw [key,natAcc_eq r (natAcc 0 l)]
theorem natOf_lt {l:List UInt8} (h:AllDig l):aT l<10^l.length:=by
 induction l with
 | nil=>rw [aT,eC,List.length_nil,Nat.pow_zero];omega
 | cons c r ih =>
   have hc:=h c (by simp)
   have hr:=ih (fun x hx=>h x (by simp [hx]))
   rw [natOf_cons,List.length_cons,Nat.pow_succ]
   generalize aT r=n at *
   generalize 10^r.length=T at *
   have:(c.toNat-48)*T≤9*T:=Nat.mul_le_mul_right _ (by omega)
   omega
theorem AllDig.take {l:List UInt8} (h:AllDig l) (n:Nat):AllDig (l.take n):=fun c hc=>h c (List.mem_of_mem_take hc)
theorem AllDig.drop {l:List UInt8} (h:AllDig l) (n:Nat):AllDig (l.drop n):=fun c hc=>h c (List.mem_of_mem_drop hc)
theorem parseUintM_ok:∀ (l:List UInt8) (acc:Nat),AllDig l→(acc+1)*10^l.length≤10000000000000000000→Lib.parseUintM (2^64-1) acc l = .ok (natAcc acc l)
 | [],acc,_,_=>by rw [eC];rfl
 | c :: r,acc,h,hb=>by
   have hc:=h c (by simp)
   rw [List.length_cons,Nat.pow_succ] at hb
   have hp:1≤10^r.length:=Nat.one_le_pow _ _ (by omega)
   have h1:(acc+1)*10≤10000000000000000000:=by
    have:(acc+1)*10≤(acc+1)*(10^r.length*10):=Nat.mul_le_mul_left _ (by omega)
    omega
   have h2:(acc*10+(c.toNat-48)+1)*10^r.length≤10000000000000000000:=by
    have:(acc*10+(c.toNat-48)+1)*10^r.length≤(acc+1)*10*10^r.length:=Nat.mul_le_mul_right _ (by omega)
    have e:(acc+1)*10*10^r.length=(acc+1)*(10^r.length*10):=by rw [Nat.mul_assoc,Nat.mul_comm 10]
    omega
   unfold Lib.parseUintM
   rw [if_pos hc,if_neg (by omega),if_neg (by omega),eK]
   exact parseUintM_ok r _ (fun x hx=>h x (by simp [hx])) h2
theorem parseUint_ok {l:List UInt8} (h:AllDig l) (h0:l≠[]) (hl:l.length≤19):Lib.parseUintB 64 l = .ok (aT l):=by
 unfold Lib.parseUintB
 rw [if_neg h0]
 refine parseUintM_ok l 0 h ?_
 have:10^l.length≤10^19:=Nat.pow_le_pow_right (by omega) hl
 omega
theorem cI (n:Nat):aT (Lib.decDigits n)=n∧AllDig (Lib.decDigits n)∧Lib.decDigits n≠[]:=by
 induction n using Nat.strongRecOn with
 | ind n ih =>
   rw [Lib.decDigits]
   have hd:∀ d:Nat,d<10→(UInt8.ofNat (48+d)).toNat=48+d:=fun d hd=>by
    rw [UInt8.toNat_ofNat'];omega
   split
   ·rename_i h
    refine ⟨?_,?_,by simp⟩
    ·rw [aT,eK,eC,hd n h];omega
    ·intro c hc
     simp only [List.mem_singleton] at hc
     subst hc
     rw [hd n h];omega
   ·rename_i h
    obtain ⟨i1,i2,i3⟩:=ih (n/10) (by omega)
    refine ⟨?_,?_,by simp⟩
    ·rw [fO,i1]
     rw [List.length_singleton,Nat.pow_one,aT,eK,eC,hd _ (by omega)];omega
    ·intro c hc
     rcases List.mem_append.1 hc with hc|hc
     ·exact i2 c hc
     ·simp only [List.mem_singleton] at hc
      subst hc
      rw [hd _ (by omega)];omega
theorem head_app {l r:List UInt8} (h:l≠[]):(l++r).head?=l.head?:=by
 cases l with
 | nil=>exact absurd rfl h
 | cons c l=>rfl
theorem dA {n:Nat} (h:n<10):Lib.decDigits n = [UInt8.ofNat (48+n)]:=by rw [Lib.decDigits,dif_pos h]
theorem eZ {n:Nat} (h:¬ n<10):Lib.decDigits n=Lib.decDigits (n/10) ++ [UInt8.ofNat (48+n%10)]:=by rw [Lib.decDigits,dif_neg h]
theorem digit_back {c:UInt8} (h:48≤c.toNat∧c.toNat≤57) {d:Nat} (hd:d=c.toNat-48):UInt8.ofNat (48+d)=c:=by
 apply UInt8.toNat_inj.1
 rw [UInt8.toNat_ofNat']
 omega
theorem natOf_snoc (l:List UInt8) (c:UInt8):aT (l ++ [c])=aT l*10+(c.toNat-48):=by
 rw [fO,List.length_singleton,Nat.pow_one,natOf_cons,List.length_nil,Nat.pow_zero,Nat.mul_one,aT,aT,eC,Nat.add_zero]
theorem natOf_nil:aT []=0:=eC 0
theorem natOf_pos {l:List UInt8} (h:AllDig l) (h0:l≠[]) (hh:l.head?≠some 48):0<aT l:=by
 match l,h0 with
 | c :: r,_ =>
   rw [natOf_cons]
   have hc:=h c (by simp)
   have hne:c.toNat≠48:=fun e=>hh (by
    rw [List.head?_cons]
    exact congrArg some (UInt8.toNat_inj.1 (by rw [e];rfl)))
   have:1*1≤(c.toNat-48)*10^r.length:=Nat.mul_le_mul (by omega) (Nat.pow_pos (by omega))
   omega
theorem dec_natOf (n:Nat):∀ l:List UInt8,l.length=n→AllDig l→l≠[]→(l.length=1∨l.head?≠some 48)→Lib.decDigits (aT l)=l:=by
 induction n with
 | zero=>intro l hl _ h0;exact absurd (List.eq_nil_of_length_eq_zero hl) h0
 | succ n ih =>
   intro l hl hd h0 hh
   obtain ⟨r,c,rfl⟩:∃ r c,l=r ++ [c]:=⟨l.dropLast,l.getLast h0,(List.dropLast_concat_getLast h0).symm⟩
   have hc:=hd c (by simp)
   rw [natOf_snoc]
   by_cases hr:r = []
   ·subst hr
    rw [natOf_nil,Nat.zero_mul,Nat.zero_add,dA (by omega),digit_back hc rfl,List.nil_append]
   ·have hr1:AllDig r:=fun x hx=>hd x (by simp [hx])
    have hlen:r.length=n:=by simpa using hl
    have hh2:r.head?≠some 48:=by
     rcases hh with hh|hh
     ·rw [List.length_append,List.length_singleton] at hh
      exact absurd (List.eq_nil_of_length_eq_zero (by omega)) hr
     ·rwa [head_app hr] at hh
    have hp:=natOf_pos hr1 hr hh2
    rw [eZ (by omega),show (aT r*10+(c.toNat-48))/10=aT r from by omega,show (aT r*10+(c.toNat-48))%10=c.toNat-48 from by omega,
     ih r hlen hr1 hr (.inr hh2),digit_back hc rfl]
theorem dec_head {n:Nat} (h:0<n):(Lib.decDigits n).head?≠some 48:=by
 induction n using Nat.strongRecOn with
 | ind n ih =>
   by_cases hn:n<10
   ·rw [dA hn,List.head?_cons]
    intro e
    injection e with e
    have:=congrArg UInt8.toNat e
    rw [UInt8.toNat_ofNat'] at this
    have h48:(48:UInt8).toNat=48:=rfl
    omega
   ·rw [eZ hn,head_app (cI _).2.2]
    exact ih _ (by omega) (by omega)
theorem dec_length_le (k:Nat):∀ w,w<10^(k+1)→(Lib.decDigits w).length≤k+1:=by
 induction k with
 | zero=>intro w h;rw [dA (by omega)];simp
 | succ k ih =>
   intro w h
   by_cases hw:w<10
   ·rw [dA hw,List.length_singleton];omega
   ·rw [eZ hw,List.length_append,List.length_singleton]
    have:=ih (w/10) (by rw [Nat.pow_succ] at h;omega)
    omega
theorem natOf_zeros (k:Nat) (l:List UInt8):aT (List.replicate k 48++l)=aT l:=by
 induction k with
 | zero=>simp
 | succ k ih =>
   rw [List.replicate_succ,List.cons_append,natOf_cons,ih]
   have:((48:UInt8).toNat-48)=0:=rfl
   rw [this,Nat.zero_mul,Nat.zero_add]
theorem dec_chunk {q w:Nat} (hq:0<q) (hw:w<10000000000000000000):(Lib.decDigits w).length≤19 ∧
 Lib.decDigits (q*10000000000000000000+w)=Lib.decDigits q++(List.replicate (19-(Lib.decDigits w).length) 48++Lib.decDigits w):=by
 have hl:(Lib.decDigits w).length≤19:=dec_length_le 18 w hw
 obtain ⟨q1,q2,q3⟩:=cI q
 obtain ⟨w1,w2,w3⟩:=cI w
 refine ⟨hl,?_⟩
 have hlen:(List.replicate (19-(Lib.decDigits w).length) (48:UInt8)++Lib.decDigits w).length=19:=by rw [List.length_append,List.length_replicate];omega
 have hval:aT (Lib.decDigits q++(List.replicate (19-(Lib.decDigits w).length) 48++Lib.decDigits w))=q*10000000000000000000+w:=by
  rw [fO,hlen,natOf_zeros,q1,w1]
 rw [← hval]
 refine dec_natOf _ _ rfl ?_ (by simp [q3]) (.inr ?_)
 ·intro c hc
  rcases List.mem_append.1 hc with hc|hc
  ·exact q2 c hc
  ·rcases List.mem_append.1 hc with hc|hc
   ·rw [List.mem_replicate] at hc
    rw [hc.2]
    exact ⟨by decide,by decide⟩
   ·exact w2 c hc
 ·rw [head_app q3]
  exact dec_head hq
theorem dec_length_pow {a k:Nat} (h:a<10^(k+1)):(Lib.decDigits a).length≤k+1:=dec_length_le k a h
end Go.Proofs.YtofcdondmgojiaaGreatDoor.Pl
namespace Go.Proofs.YtofcdondmgojiaaGreatDoor.Ab
open Go.RowKit
def hotObj (K:Obj→Bool) (o:Obj):Bool:=K o
structure Ext (K:Obj→Bool) (w w' : World):Prop where
 size:w.heap.size≤w'.heap.size
 block:∀ (g:Nat) (o:Obj),w.heap[g]?=some o→hotObj K o=true→w'.heap[g]?=some o
theorem lt_of_block {w:World} {g:Nat} {o:Obj} (h:w.heap[g]?=some o):g<w.heap.size:=by
 rcases Nat.lt_or_ge g w.heap.size with hlt|hge
 ·exact hlt
 ·rw [Array.getElem?_eq_none hge] at h;cases h
theorem Ext.trans {K:Obj→Bool} {a b c:World} (h:Ext K a b) (h' : Ext K b c):Ext K a c:=⟨Nat.le_trans h.size h'.size,fun g o hg ho=>h'.block g o (h.block g o hg ho) ho⟩
theorem Ext.of_below {K:Obj→Bool} {w w' : World} (h:Below w.heap.size w w'):Ext K w w':=⟨h.size,fun g _ hg _=>(h.block g (lt_of_block hg)).trans hg⟩
abbrev Sp:=Value→World→Prop
def Stable (K:Obj→Bool) (S:Sp):Prop := ∀ v w w',S v w→Ext K w w'→S v w'
def StableO (K:Obj→Bool) (S:Obj→World→Prop):Prop := ∀ v w w',S v w→Ext K w w'→S v w'
def Sp.is (u:Value):Sp:=fun v _=>v=u
theorem Sp.is_stable (K:Obj→Bool) (u:Value):Stable K (Sp.is u):=fun _ _ _ h _=>h
inductive Kd where
 | val (S:Sp)
 | new (o:Obj)
 | put (d:Tmp) (S:Obj→World→Prop)
 | old (g:Nat) (S:Obj→World→Prop)
structure Ent where
 dst:Option Tmp
 kd:Kd
def isVar (B:Nat):Sp:=fun v w => ∃ g,v = .pointer (some ⟨g,0,none⟩)∧B≤g∧g<w.heap.size
def Kd.spec (B:Nat):Kd→Sp
 | .val S=>S
 | .new _=>isVar B
 | _=>fun _ _=>True
def specOf (a0:Act) (B:Nat) (t:Tmp):List Ent→Sp
 | []=>fun v _=>v=a0.eval (.tmp t)
 | e::g=>if e.dst=some t then e.kd.spec B else specOf a0 B t g
def known (a0:Act) (B:Nat) (g:List Ent) (A:Act) (w:World):List Tmp→Prop
 | []=>True
 | t::l=>specOf a0 B t g (A.eval (.tmp t)) w∧known a0 B g A w l
theorem known_iff {a0:Act} {B:Nat} {g:List Ent} {A:Act} {w:World} {l:List Tmp}:known a0 B g A w l↔∀ t∈l,specOf a0 B t g (A.eval (.tmp t)) w:=by
 induction l with
 | nil=>simp [known]
 | cons t l ih=>simp [known,ih]
structure Base (T:List Nat) (w0 w:World):Prop where
 os:w.os=w0.os
 tape:w.tape=w0.tape
 output:w.output=w0.output
 size:w0.heap.size≤w.heap.size
 block:∀ k,k<w0.heap.size→k∉T→w.heap[k]?=w0.heap[k]?
theorem Base.below {w0 w:World} (h:Base [] w0 w):Below w0.heap.size w0 w:=⟨h.os,h.tape,h.output,h.size,fun k hk=>h.block k hk (by simp)⟩
theorem Base.step {T:List Nat} {w0 w w' : World} (h:Base T w0 w) (h' : Below w.heap.size w w'):Base T w0 w' :=
 ⟨h'.os.trans h.os,h'.tape.trans h.tape,h'.output.trans h.output,Nat.le_trans h.size h'.size,fun k hk hT=>(h'.block k (Nat.lt_of_lt_of_le hk h.size)).trans (h.block k hk hT)⟩
structure Turned (g:Nat) (o:Obj) (w w' : World):Prop where
 os:w'.os=w.os
 tape:w'.tape=w.tape
 output:w'.output=w.output
 size:w'.heap.size=w.heap.size
 at_:w'.heap[g]?=some o
 block:∀ k,k≠g→w'.heap[k]?=w.heap[k]?
theorem Turned.ext {K:Obj→Bool} {g:Nat} {o o0:Obj} {w w' : World} (h:Turned g o w w') (h0:w.heap[g]?=some o0) (hc:hotObj K o0=false):Ext K w w':=by
 refine ⟨by rw [h.size];exact Nat.le_refl _,fun k o' hk ho=>?_⟩
 by_cases e:k=g
 ·subst e
  rw [h0] at hk
  injection hk with hk
  subst hk
  rw [hc] at ho
  cases ho
 ·rw [h.block k e];exact hk
def TyPost (w:World) (S:Sp) (e:Ending) (w'' : World):Prop := ∃ v,e = .returned v∧Below w.heap.size w w''∧S v w''
def tyUpon (P:Program) (w:World) (S:Sp):Result Next→Prop
 | .ok (.value u) w'=>Below w.heap.size w w'∧S u w'
 | .ok .skip w'=>Below w.heap.size w w'∧S undef w'
 | .ok (.enter f args) w'=>w'=w∧Calls P f args w (TyPost w S)
 | _=>False
def putUpon (g:Nat) (w:World) (S:Obj→World→Prop):Result Next→Prop
 | .ok (.value _) w' => ∃ o,Turned g o w w'∧S o w
 | .ok .skip w' => ∃ o,Turned g o w w'∧S o w
 | _=>False
def putOf (e:Ent):Option Tmp:=match e.dst,e.kd with|none,.put d _=>some d|_,_=>none
def oldOf (e:Ent):Option Nat:=match e.dst,e.kd with|none,.old k _=>some k|_,_=>none
def onceB (G:List Ent):Bool:=decide ((G.filterMap putOf).Nodup)&&decide ((G.filterMap oldOf).Nodup)
structure View (K:Obj→Bool) (T:List Nat) (E:Nat→Nat→Bool) (w0:World) (i:Nat) (w:World):Prop where
 base:Base T w0 w
 ext:Ext K w0 w
 early:∀ (k b:Nat),E i k=true→T[k]?=some b→w.heap[b]?=w0.heap[b]?
def earlyB (md:Region.Mode) (ops:Array Oper) (E:Nat→Nat→Bool) (G:List Ent):Bool :=
 (List.range ops.size).all fun j=>match (G[j]?).bind oldOf with
  | some k=>(List.range ops.size).all fun i => !E i k || i==j || (ops[j]?).any fun o=>o.after.any fun e=>Region.binds md e&&e.on==i
  | none=>true
section
variable (P:Program) (ops:Array Oper) (K:Obj→Bool) (T:List Nat) (E:Nat→Nat→Bool) (w0:World) (a0:Act)
def Oblig (g:List Ent) (o:Oper):Kd→Prop
 | .val S=>Stable K S∧∀ (A:Act) (w:World),View K T E w0 g.length w→known a0 w0.heap.size g A w (o.looksAt ops) →
  (Region.wanted o (yielded ops A.tmps)=true∧tyUpon P w S ((execOp A.eval o).run P w))∨(Region.wanted o (yielded ops A.tmps)=false∧S undef w)
 | .new o0=>hotObj K o0=false∧o.guard=none∧o.dst.isSome=true∧∀ (A:Act) (w:World),(execOp A.eval o).run P w = .ok (.value (.pointer (some ⟨w.heap.size,0,none⟩))) (w.alloc o0)
 | .put d S=>o.dst=none∧o.guard=none∧d∈o.looksAt ops∧StableO K S∧∃ o0,(⟨some d,.new o0⟩:Ent)∈g ∧
  ∀ (A:Act) (w:World) (b:Nat),View K T E w0 g.length w→known a0 w0.heap.size g A w (o.looksAt ops)→A.eval (.tmp d) = .pointer (some ⟨b,0,none⟩)→w.heap[b]?=some o0→putUpon b w S ((execOp A.eval o).run P w)
 | .old k S=>o.dst=none∧o.guard=none∧StableO K S∧∃ b o0,T[k]?=some b∧w0.heap[b]?=some o0∧hotObj K o0=false ∧
  ∀ (A:Act) (w:World),View K T E w0 g.length w→known a0 w0.heap.size g A w (o.looksAt ops)→w.heap[b]?=some o0→putUpon b w S ((execOp A.eval o).run P w)
def frameOf:List Ent→(Tmp→Value)→Act
 | [],_=>a0
 | e::g,f=>match e.dst with
   | some d=>(frameOf g f).put (some d) (f d)
   | none=>frameOf g f
def Final1 (G:List Ent) (f:Tmp→Value) (w:World) (e:Ent):Prop :=
 match e.dst,e.kd with
 | some d,.val S=>S (f d) w
 | some d,.new o0 => ∃ b,f d = .pointer (some ⟨b,0,none⟩)∧w0.heap.size≤b∧b<w.heap.size∧((∀ S,(⟨none,.put d S⟩:Ent)∉G)→w.heap[b]?=some o0)∧(∀ S,(⟨none,.put d S⟩:Ent)∈G→∃ o,S o w∧w.heap[b]?=some o)
 | _,.old k S => ∃ b o,T[k]?=some b∧S o w∧w.heap[b]?=some o
 | _,_=>True
def Still (G:List Ent) (w:World):Prop := ∀ (k b:Nat),T[k]?=some b→(∀ S,(⟨none,.old k S⟩:Ent)∉G)→w.heap[b]?=w0.heap[b]?
def Apart (G:List Ent) (f:Tmp→Value):Prop := ∀ d d' o o',(⟨some d,.new o⟩:Ent)∈G→(⟨some d',.new o'⟩:Ent)∈G→d≠d'→f d≠f d'
def wpTy (Q:Act→World→Prop):List Oper→List Ent→Prop
 | [],g=>onceB g=true∧earlyB .any ops E g.reverse=true∧∀ (f:Tmp→Value) (w:World),Base T w0 w→Ext K w0 w→(∀ e∈g,Final1 T w0 g f w e)→Still T w0 g w→Apart g f→Q (frameOf a0 g f) w
 | o::rest,g => ∃ k,Oblig P ops K T E w0 a0 g o k∧wpTy Q rest (⟨o.dst,k⟩::g)
end
def Region.tyB (md:Region.Mode) (ops:Array Oper) (n:Nat):Bool :=
 Region.noSelect ops&&(List.range ops.size).all fun i=>(ops[i]?).all fun o =>
  (o.after.all fun e => !Region.binds md e || decide (e.on<i)) &&
  (match o.dst with|some d=>decide (d<n)&&(List.range ops.size).all (fun j=>j==i || (ops[j]?).all fun o'=>o'.dst != some d)|none=>true) &&
  (o.looksAt ops).all fun t=>(List.range ops.size).all fun j=>(ops[j]?).all fun o'=>o'.dst != some t || (decide (j<i)&&o.after.any fun e=>Region.binds md e&&e.on==j)
section
variable {P:Program} {ops:Array Oper} {K:Obj→Bool} {T:List Nat} {E:Nat→Nat→Bool} {w0:World} {a0:Act} {md:Region.Mode}
theorem specOf_of {B:Nat} {t:Tmp} {v:Value} {w:World} {g:List Ent} (h1:∀ e∈g,e.dst=some t→e.kd.spec B v w) (h2:(∀ e∈g,e.dst≠some t)→v=a0.eval (.tmp t)):specOf a0 B t g v w:=by
 induction g with
 | nil=>exact h2 (fun _ h=>by cases h)
 | cons e g ih =>
   simp only [specOf]
   split
   ·rename_i he
    exact h1 e (by simp) he
   ·rename_i he
    refine ih (fun e' he'=>h1 e' (by simp [he'])) (fun hn=>h2 (fun e' he'=>?_))
    rcases List.mem_cons.1 he' with rfl|he'
    ·exact he
    ·exact hn e' he'
def lst (listed:Array Bool) (i:Nat):Prop:=listed.getD i true=true
theorem lst_set {listed:Array Bool} {i j:Nat} (hi:i<listed.size):lst (listed.setIfInBounds i true) j↔(j=i∨lst listed j):=by
 unfold lst
 simp only [Array.getD_eq_getD_getElem?,Array.getElem?_setIfInBounds]
 by_cases h:i=j
 ·subst h;simp [hi]
 ·simp only [h,if_false]
  constructor
  ·intro h';exact .inr h'
  ·rintro (rfl|h')
   ·exact absurd rfl h
   ·exact h'
structure Inv (ops:Array Oper) (K:Obj→Bool) (T:List Nat) (w0:World) (a0:Act) (md:Region.Mode) (G:List Ent) (listed:Array Bool) (f:Tmp→Value) (a:Act) (w:World):Prop where
 lsize:listed.size=ops.size
 defers:a.defers=a0.defers
 tsize:a.tmps.size=a0.tmps.size
 hit:∀ (i:Nat) (o:Oper) d,ops[i]?=some o→lst listed i→o.dst=some d→a.eval (.tmp d)=f d
 miss:∀ t,(∀ (i:Nat) (o:Oper),ops[i]?=some o→o.dst≠some t)→a.eval (.tmp t)=a0.eval (.tmp t)
 closed:∀ (i:Nat) (o:Oper),ops[i]?=some o→lst listed i→∀ e∈o.after,Region.binds md e=true→lst listed e.on
 base:Base T w0 w
 ext:Ext K w0 w
 vals:∀ (i:Nat) d S,G[i]?=some ⟨some d,.val S⟩→lst listed i→S (f d) w
 news:∀ (i:Nat) d o0,G[i]?=some ⟨some d,.new o0⟩→lst listed i→∃ b,f d = .pointer (some ⟨b,0,none⟩)∧w0.heap.size≤b∧b<w.heap.size ∧
  ((∀ (j:Nat) S,G[j]?=some ⟨none,.put d S⟩→¬ lst listed j)→w.heap[b]?=some o0)∧(∀ (j:Nat) S,G[j]?=some ⟨none,.put d S⟩→lst listed j→∃ o,S o w∧w.heap[b]?=some o)
 olds:∀ (j k b:Nat) S,G[j]?=some ⟨none,.old k S⟩→T[k]?=some b→lst listed j→∃ o,S o w∧w.heap[b]?=some o
 still:∀ (k b:Nat),T[k]?=some b→(∀ (j:Nat) S,G[j]?=some ⟨none,.old k S⟩→¬ lst listed j)→w.heap[b]?=w0.heap[b]?
 apart:∀ (i i' : Nat) d d' o o',G[i]?=some ⟨some d,.new o⟩→G[i']?=some ⟨some d',.new o'⟩→lst listed i→lst listed i'→d≠d'→f d≠f d'
structure Walked (P:Program) (ops:Array Oper) (K:Obj→Bool) (T:List Nat) (E:Nat→Nat→Bool) (w0:World) (a0:Act) (md:Region.Mode) (G:List Ent):Prop where
 len:G.length=ops.size
 each:∀ (i:Nat) (o:Oper),ops[i]?=some o→∃ k,G[i]?=some ⟨o.dst,k⟩∧Oblig P ops K T E w0 a0 (G.take i).reverse o k
 form:Region.tyB md ops a0.tmps.size=true
 once:onceB G=true
 early:earlyB md ops E G=true
 tnd:T.Nodup
 tlt:∀ b∈T,b<w0.heap.size
theorem tyB_spec {n:Nat} (h:Region.tyB md ops n=true) {i:Nat} {o:Oper} (ho:ops[i]?=some o) :
 (∀ e∈o.after,Region.binds md e=true→e.on<i)∧(∀ d,o.dst=some d→d<n∧∀ (j:Nat) (o' : Oper),ops[j]?=some o'→o'.dst=some d→j=i) ∧
 (∀ t∈o.looksAt ops,∀ (j:Nat) (o' : Oper),ops[j]?=some o'→o'.dst=some t→j<i∧∃ e∈o.after,Region.binds md e=true∧e.on=j):=by
 have lt:∀ {j:Nat} {o' : Oper},ops[j]?=some o'→j<ops.size:=fun h=>by
  rcases Nat.lt_or_ge _ ops.size with h'|h'
  ·exact h'
  ·rw [Array.getElem?_eq_none h'] at h;cases h
 simp only [Region.tyB,Bool.and_eq_true,List.all_eq_true,List.mem_range] at h
 have h2:=h.2 i (lt ho)
 simp only [ho,Option.all_some,Bool.and_eq_true] at h2
 obtain ⟨⟨h3,h4⟩,h5⟩:=h2
 refine ⟨fun e he hb=>?_,fun d hd=>?_,fun t ht j o' hj hdt=>?_⟩
 ·have:=Array.all_eq_true'.1 h3 e he
  simp only [hb,Bool.not_true,Bool.false_or,decide_eq_true_eq] at this
  exact this
 ·rw [hd] at h4
  simp only [Bool.and_eq_true,decide_eq_true_eq,List.all_eq_true,List.mem_range] at h4
  refine ⟨h4.1,fun j o' hj hd'=>?_⟩
  have:=h4.2 j (lt hj)
  simp only [hj,Option.all_some,Bool.or_eq_true,beq_iff_eq,bne_iff_ne] at this
  rcases this with h|h
  ·exact h
  ·exact absurd hd' h
 ·have:=List.all_eq_true.1 h5 t ht
  have:=List.all_eq_true.1 this j (List.mem_range.2 (lt hj))
  simp only [hj,Option.all_some,Bool.or_eq_true,bne_iff_ne,Bool.and_eq_true,decide_eq_true_eq] at this
  rcases this with h|⟨h,h'⟩
  ·exact absurd hdt h
  ·obtain ⟨e,he,hb⟩:=Array.any_eq_true'.1 h'
   simp only [Bool.and_eq_true,beq_iff_eq] at hb
   exact ⟨h,e,he,hb.1,hb.2⟩
end
section
variable {P:Program} {ops:Array Oper} {K:Obj→Bool} {T:List Nat} {E:Nat→Nat→Bool} {w0:World} {a0:Act} {md:Region.Mode} {G:List Ent}
theorem Walked.ent (W:Walked P ops K T E w0 a0 md G) {i:Nat} {e:Ent} (h:G[i]?=some e):∃ o,ops[i]?=some o∧e.dst=o.dst∧Oblig P ops K T E w0 a0 (G.take i).reverse o e.kd:=by
 obtain ⟨hlt,_⟩:=List.getElem?_eq_some_iff.1 h
 have hlt' : i<ops.size:=by rw [← W.len];exact hlt
 obtain ⟨k,hk,ho⟩:=W.each i ops[i] (Array.getElem?_eq_getElem hlt')
 rw [h] at hk
 injection hk with hk
 subst hk
 exact ⟨_,Array.getElem?_eq_getElem hlt',rfl,ho⟩
theorem Walked.dst (W:Walked P ops K T E w0 a0 md G) {i j d:Nat} {k k' : Kd} (h:G[i]?=some ⟨some d,k⟩) (h' : G[j]?=some ⟨some d,k'⟩):i=j:=by
 obtain ⟨o,ho,hd,_⟩:=W.ent h
 obtain ⟨o',ho',hd',_⟩:=W.ent h'
 exact (tyB_spec W.form ho').2.1 d hd'.symm |>.2 i o ho hd.symm
theorem filterMap_once {α β:Type} [DecidableEq β] (f:α→Option β):∀ (l:List α) (i j:Nat) (a b:α) (x:β),(l.filterMap f).Nodup→l[i]?=some a→l[j]?=some b→f a=some x→f b=some x→i=j
 | [],i,_,_,_,_,_,h,_,_,_=>by simp at h
 | c :: l,i,j,a,b,x,hn,hi,hj,ha,hb=>by
   have tail:(l.filterMap f).Nodup:=by
    rw [List.filterMap_cons] at hn
    split at hn
    ·exact hn
    ·exact (List.nodup_cons.1 hn).2
   have mem:∀ (k:Nat) (y:α),l[k]?=some y→f y=some x→f c=some x→False:=fun k y hk hy hc=>by
    rw [List.filterMap_cons,hc] at hn
    exact (List.nodup_cons.1 hn).1 (List.mem_filterMap.2 ⟨y,List.mem_of_getElem? hk,hy⟩)
   match i,j with
   | 0,0=>rfl
   | 0,j+1 =>
     simp only [List.getElem?_cons_zero,Option.some.injEq] at hi
     subst hi
     exact (mem j b (by simpa using hj) hb ha).elim
   | i+1,0 =>
     simp only [List.getElem?_cons_zero,Option.some.injEq] at hj
     subst hj
     exact (mem i a (by simpa using hi) ha hb).elim
   | i+1,j+1=>exact congrArg (· + 1) (filterMap_once f l i j a b x tail (by simpa using hi) (by simpa using hj) ha hb)
theorem Walked.put (W:Walked P ops K T E w0 a0 md G) {i j d:Nat} {S S' : Obj→World→Prop} (h:G[i]?=some ⟨none,.put d S⟩) (h' : G[j]?=some ⟨none,.put d S'⟩):i=j:=by
 have:=W.once
 simp only [onceB,Bool.and_eq_true,decide_eq_true_eq] at this
 exact filterMap_once putOf G i j _ _ d this.1 h h' rfl rfl
theorem Walked.old (W:Walked P ops K T E w0 a0 md G) {i j k:Nat} {S S' : Obj→World→Prop} (h:G[i]?=some ⟨none,.old k S⟩) (h' : G[j]?=some ⟨none,.old k S'⟩):i=j:=by
 have:=W.once
 simp only [onceB,Bool.and_eq_true,decide_eq_true_eq] at this
 exact filterMap_once oldOf G i j _ _ k this.2 h h' rfl rfl
theorem Walked.blk_lt (W:Walked P ops K T E w0 a0 md G) {k b:Nat} (h:T[k]?=some b):b<w0.heap.size:=W.tlt b (List.mem_of_getElem? h)
theorem nodup_get {α:Type}:∀ {l:List α} {i j:Nat} {x:α},l.Nodup→l[i]?=some x→l[j]?=some x→i=j
 | [],_,_,_,_,h,_=>by simp at h
 | a :: l,i,j,x,hn,hi,hj=>by
   rw [List.nodup_cons] at hn
   match i,j with
   | 0,0=>rfl
   | 0,j+1 =>
     simp only [List.getElem?_cons_zero,Option.some.injEq] at hi
     subst hi
     exact absurd (List.mem_of_getElem? (by simpa using hj)) hn.1
   | i+1,0 =>
     simp only [List.getElem?_cons_zero,Option.some.injEq] at hj
     subst hj
     exact absurd (List.mem_of_getElem? (by simpa using hi)) hn.1
   | i+1,j+1=>exact congrArg (· + 1) (nodup_get hn.2 (by simpa using hi) (by simpa using hj))
theorem Walked.blk_eq (W:Walked P ops K T E w0 a0 md G) {k k' b:Nat} (h:T[k]?=some b) (h' : T[k']?=some b):k=k':=nodup_get W.tnd h h'
theorem Walked.waits (W:Walked P ops K T E w0 a0 md G) {i j k:Nat} {S:Obj→World→Prop} {oj:Oper} (h:G[j]?=some ⟨none,.old k S⟩) (hj:ops[j]?=some oj) (hi:i<ops.size) (hE:E i k=true) :
 i=j∨∃ e∈oj.after,Region.binds md e=true∧e.on=i:=by
 have hjlt:j<ops.size:=by
  rcases Nat.lt_or_ge j ops.size with h'|h'
  ·exact h'
  ·rw [Array.getElem?_eq_none h'] at hj;cases hj
 have:=W.early
 simp only [earlyB,List.all_eq_true,List.mem_range] at this
 have:=this j hjlt
 simp only [h,Option.bind_some,oldOf,List.all_eq_true,List.mem_range] at this
 have:=this i hi
 rw [hE,hj] at this
 simp only [Bool.not_true,Bool.false_or,Bool.or_eq_true,beq_iff_eq,Option.any_some] at this
 rcases this with e|e
 ·exact .inl e
 ·obtain ⟨e,he,h1⟩:=Array.any_eq_true'.1 e
  simp only [Bool.and_eq_true,beq_iff_eq] at h1
  exact .inr ⟨e,he,h1.1,h1.2⟩
theorem Walked.stable (W:Walked P ops K T E w0 a0 md G) {i d:Nat} {S:Sp} (h:G[i]?=some ⟨some d,.val S⟩):Stable K S:=by
 obtain ⟨o,_,_,ho⟩:=W.ent h;exact ho.1
theorem Walked.stable_put (W:Walked P ops K T E w0 a0 md G) {i d:Nat} {S:Obj→World→Prop} (h:G[i]?=some ⟨none,.put d S⟩):StableO K S:=by
 obtain ⟨o,_,_,ho⟩:=W.ent h;exact ho.2.2.2.1
theorem Walked.stable_old (W:Walked P ops K T E w0 a0 md G) {i b:Nat} {S:Obj→World→Prop} (h:G[i]?=some ⟨none,.old b S⟩):StableO K S:=by
 obtain ⟨o,_,_,ho⟩:=W.ent h;exact ho.2.2.1
variable {listed:Array Bool} {f:Tmp→Value} {a:Act} {w:World}
theorem Inv.view (I:Inv ops K T w0 a0 md G listed f a w) (W:Walked P ops K T E w0 a0 md G) {i:Nat} {o:Oper} (ho:ops[i]?=some o) (hun:¬ lst listed i):View K T E w0 (G.take i).reverse.length w:=by
 have hi:i<ops.size:=by
  rcases Nat.lt_or_ge i ops.size with h|h
  ·exact h
  ·rw [Array.getElem?_eq_none h] at ho;cases ho
 have hl:(G.take i).reverse.length=i:=by
  rw [List.length_reverse,List.length_take,W.len]
  omega
 rw [hl]
 refine ⟨I.base,I.ext,fun k b hE hT=>I.still k b hT (fun j S hj hlj=>?_)⟩
 obtain ⟨oj,hoj,_,_⟩:=W.ent hj
 rcases W.waits hj hoj hi hE with e|⟨e,he,hb,hon⟩
 ·subst e
  exact hun hlj
 ·have:=I.closed j oj hoj hlj e he hb
  rw [hon] at this
  exact hun this
theorem Inv.known (I:Inv ops K T w0 a0 md G listed f a w) (W:Walked P ops K T E w0 a0 md G) {i:Nat} {o:Oper} (ho:ops[i]?=some o) (hr:∀ e∈o.after,Region.binds md e=true→lst listed e.on) :
 known a0 w0.heap.size (G.take i).reverse a w (o.looksAt ops):=by
 rw [known_iff]
 intro t ht
 have hf:=(tyB_spec W.form ho).2.2 t ht
 refine specOf_of (fun e he hd=>?_) (fun hn=>I.miss t (fun j oj hj hdj=>?_))
 ·obtain ⟨j,hj⟩:=List.getElem?_of_mem (List.mem_reverse.1 he)
  have hjG:G[j]?=some e:=by
   rw [List.getElem?_take] at hj
   split at hj
   ·exact hj
   ·cases hj
  obtain ⟨oj,hoj,hdj,_⟩:=W.ent hjG
  obtain ⟨_,ed,hed,hb,hon⟩:=hf j oj hoj (by rw [← hdj];exact hd)
  have hl:lst listed j:=by rw [← hon];exact hr ed hed hb
  have hv:a.eval (.tmp t)=f t:=I.hit j oj t hoj hl (by rw [← hdj];exact hd)
  rw [hv]
  obtain ⟨dst,kd⟩:=e
  simp only at hd
  subst hd
  match kd,hjG with
  | .val S,hjG=>exact I.vals j t S hjG hl
  | .new o0,hjG =>
    obtain ⟨b,h1,h2,h3,_⟩:=I.news j t o0 hjG hl
    exact ⟨b,h1,h2,h3⟩
  | .put _ _,_=>trivial
  | .old _ _,_=>trivial
 ·obtain ⟨hlt,_⟩:=hf j oj hj hdj
  obtain ⟨k,hk,_⟩:=W.each j oj hj
  refine hn ⟨oj.dst,k⟩ (List.mem_reverse.2 (List.mem_of_getElem? (i:=j) ?_)) hdj
  rw [List.getElem?_take,if_pos hlt]
  exact hk
theorem Act.eval_put_hit {a:Act} {d:Tmp} {v:Value} (h:d<a.tmps.size):(a.put (some d) v).eval (.tmp d)=v:=by
 simp [Act.put,Act.eval,h]
theorem Act.eval_put_miss {a:Act} {dst:Option Tmp} {t:Tmp} {v:Value} (h:dst≠some t):(a.put dst v).eval (.tmp t)=a.eval (.tmp t):=by
 cases dst with
 | none=>rfl
 | some d =>
   have:d≠t:=fun e=>h (by rw [e])
   simp [Act.put,Act.eval,Array.getElem?_setIfInBounds_ne this]
theorem Act.put_size {a:Act} {dst:Option Tmp} {v:Value}:(a.put dst v).tmps.size=a.tmps.size:=by
 cases dst <;> simp [Act.put]
theorem Act.put_defers {a:Act} {dst:Option Tmp} {v:Value}:(a.put dst v).defers=a.defers:=by
 cases dst <;> rfl
def upd (f:Tmp→Value) (dst:Option Tmp) (v:Value):Tmp→Value:=fun t=>if dst=some t then v else f t
theorem upd_hit {f:Tmp→Value} {d:Tmp} {v:Value}:upd f (some d) v d=v:=by simp [upd]
theorem upd_miss {f:Tmp→Value} {dst:Option Tmp} {t:Tmp} {v:Value} (h:dst≠some t):upd f dst v t=f t:=by simp [upd,h]
theorem Inv.frame (I:Inv ops K T w0 a0 md G listed f a w) (W:Walked P ops K T E w0 a0 md G) {i:Nat} {o:Oper} (ho:ops[i]?=some o) (hr:∀ e∈o.after,Region.binds md e=true→lst listed e.on) (v:Value) :
 (∀ (j:Nat) (o' : Oper) d,ops[j]?=some o'→lst (listed.setIfInBounds i true) j→o'.dst=some d→(a.put o.dst v).eval (.tmp d)=upd f o.dst v d) ∧
 (∀ t,(∀ (j:Nat) (o' : Oper),ops[j]?=some o'→o'.dst≠some t)→(a.put o.dst v).eval (.tmp t)=a0.eval (.tmp t)) ∧
 (∀ (j:Nat) (o' : Oper),ops[j]?=some o'→lst (listed.setIfInBounds i true) j→∀ e∈o'.after,Region.binds md e=true→lst (listed.setIfInBounds i true) e.on)∧i<listed.size:=by
 have hi:i<listed.size:=by
  rw [I.lsize]
  rcases Nat.lt_or_ge i ops.size with h|h
  ·exact h
  ·rw [Array.getElem?_eq_none h] at ho;cases ho
 refine ⟨fun j o' d hj hl hd=>?_,fun t ht=>?_,fun j o' hj hl e he hb=>?_,hi⟩
 ·by_cases hji:j=i
  ·subst hji
   rw [ho] at hj
   injection hj with hj
   subst hj
   have hlt:=((tyB_spec W.form ho).2.1 d hd).1
   rw [hd,Act.eval_put_hit (by rw [I.tsize];exact hlt),upd_hit]
  ·have hl' : lst listed j:=((lst_set hi).1 hl).resolve_left hji
   have hne:o.dst≠some d:=fun e=>hji (((tyB_spec W.form ho).2.1 d e).2 j o' hj hd)
   rw [Act.eval_put_miss hne,upd_miss hne]
   exact I.hit j o' d hj hl' hd
 ·rw [Act.eval_put_miss (ht i o ho)]
  exact I.miss t ht
 ·rw [lst_set hi]
  by_cases hji:j=i
  ·subst hji
   rw [ho] at hj
   injection hj with hj
   subst hj
   exact .inr (hr e he hb)
  ·exact .inr (I.closed j o' hj (((lst_set hi).1 hl).resolve_left hji) e he hb)
theorem Inv.val (I:Inv ops K T w0 a0 md G listed f a w) (W:Walked P ops K T E w0 a0 md G) {i:Nat} {o:Oper} {S:Sp} (ho:ops[i]?=some o) (hG:G[i]?=some ⟨o.dst,.val S⟩) (hun:¬ lst listed i)
 (hr:∀ e∈o.after,Region.binds md e=true→lst listed e.on) {v:Value} {w' : World} (hb:Below w.heap.size w w') (hS:S v w') :
 Inv ops K T w0 a0 md G (listed.setIfInBounds i true) (upd f o.dst v) (a.put o.dst v) w':=by
 obtain ⟨h1,h2,h3,hi⟩:=I.frame W ho hr v
 have hx:Ext K w w':=Ext.of_below hb
 have keep:∀ (j d:Nat) k,G[j]?=some ⟨some d,k⟩→j≠i→o.dst≠some d:=fun j d k hj hji e=>by
  rw [e] at hG
  exact hji (W.dst hj hG)
 have other:∀ {j:Nat},j≠i→(lst (listed.setIfInBounds i true) j↔lst listed j):=fun h=>by
  rw [lst_set hi];exact ⟨fun h'=>h'.resolve_left h,.inr⟩
 refine ⟨by rw [Array.size_setIfInBounds];exact I.lsize,by rw [Act.put_defers];exact I.defers,by rw [Act.put_size];exact I.tsize,h1,h2,h3,I.base.step hb,I.ext.trans hx,?_,?_,?_,?_,?_⟩
 ·intro j d S' hj hl
  by_cases hji:j=i
  ·subst hji
   rw [hG] at hj
   injection hj with hj
   injection hj with e1 e2
   injection e2 with e2
   subst e2
   rw [e1,upd_hit]
   exact hS
  ·rw [upd_miss (keep j d _ hj hji)]
   exact W.stable hj _ _ _ (I.vals j d S' hj ((other hji).1 hl)) hx
 ·intro j d o0 hj hl
  have hji:j≠i:=fun e=>by subst e;rw [hG] at hj;injection hj with hj;injection hj with _ hj;cases hj
  rw [upd_miss (keep j d _ hj hji)]
  obtain ⟨b,e1,e2,e3,e4,e5⟩:=I.news j d o0 hj ((other hji).1 hl)
  refine ⟨b,e1,e2,Nat.lt_of_lt_of_le e3 hb.size,fun h=>?_,fun k S' hk hlk=>?_⟩
  ·rw [hb.block b e3]
   refine e4 (fun k S' hk hlk=>h k S' hk ?_)
   rw [lst_set hi];exact .inr hlk
  ·have hki:k≠i:=fun e=>by subst e;rw [hG] at hk;injection hk with hk;injection hk with _ hk;cases hk
   obtain ⟨o',h1',h2'⟩:=e5 k S' hk ((other hki).1 hlk)
   exact ⟨o',W.stable_put hk _ _ _ h1' hx,by rw [hb.block b e3];exact h2'⟩
 ·intro j k b S' hj hT hl
  have hji:j≠i:=fun e=>by subst e;rw [hG] at hj;injection hj with hj;injection hj with _ hj;cases hj
  have hlt:b<w.heap.size:=Nat.lt_of_lt_of_le (W.blk_lt hT) I.base.size
  obtain ⟨o',h1',h2'⟩:=I.olds j k b S' hj hT ((other hji).1 hl)
  exact ⟨o',W.stable_old hj _ _ _ h1' hx,by rw [hb.block b hlt];exact h2'⟩
 ·intro k b hT hn
  have hlt:b<w.heap.size:=Nat.lt_of_lt_of_le (W.blk_lt hT) I.base.size
  rw [hb.block b hlt]
  exact I.still k b hT (fun j S' hj hl=>hn j S' hj ((lst_set hi).2 (.inr hl)))
 ·intro j j' d d' o1 o2 hj hj' hl hl' hne
  have hji:j≠i:=fun e=>by subst e;rw [hG] at hj;injection hj with hj;injection hj with _ hj;cases hj
  have hji' : j'≠i:=fun e=>by subst e;rw [hG] at hj';injection hj' with hj';injection hj' with _ hj';cases hj'
  rw [upd_miss (keep j d _ hj hji),upd_miss (keep j' d' _ hj' hji')]
  exact I.apart j j' d d' o1 o2 hj hj' ((other hji).1 hl) ((other hji').1 hl') hne
end
end Go.Proofs.YtofcdondmgojiaaGreatDoor.Ab
