/- Parts of the proof, joined. -/
import Derived.Below
import Derived.WalkKit
import Derived.Lib.Hide
import Derived.Deep.Draws
import Derived.Test.YtklnecajplnboaaGreatDoorProg
import Derived.WalkSpells
import Derived.BigQuiet
import Derived.Deep.QuietTactic
import Derived.OwnWalk
import Derived.Laws.Externs
import Derived.Shelf.Spec.BitsCarry
import Derived.Lib.ParseIntB
import Derived.Lib.ItoaNum
import Derived.Deep.Quiet
import Derived.Deep.MidRow
set_option maxHeartbeats 4000000
set_option linter.unusedSimpArgs false
set_option linter.unusedVariables false
set_option linter.constructorNameAsVariable false
namespace Go.Proofs.YtklnecajplnboaaGreatDoor
section
theorem aI{a b:Prop}(h:a)(k:b):a∧b:=⟨h,k⟩
theorem aH{p:Prop}(h:p):Go.RowKit.Hid p:=Go.Lib.hid h
theorem aR(n:Nat):n≤n:=Nat.le_refl n
theorem aB(n:Nat)(w:World):Go.RowKit.Below n w w:=Go.RowKit.Below.refl n w
end
namespace Pl
def val (B:Nat):List Nat→Nat
 | []=>0
 | d::l=>d+B*val B l
theorem fN (B:Nat) (l m:List Nat):val B (l++m)=val B l+B^l.length*val B m:=by
 induction l with
 | nil=>simp [val]
 | cons d l ih =>
   simp only [List.cons_append,val,ih,List.length_cons,Nat.pow_succ]
   grind
theorem cM (B:Nat) (l:List Nat) (d:Nat):val B (l ++ [d])=val B l+B^l.length*d:=by
 rw [fN];simp [val]
def Dig (B:Nat) (l:List Nat):Prop := ∀ d∈l,d<B
theorem Dig.nil (B:Nat):Dig B []:=by intro d h;cases h
theorem Dig.cons {B d:Nat} {l:List Nat} (h:d<B) (hl:Dig B l):Dig B (d::l):=by
 intro e he
 rcases List.mem_cons.1 he with rfl|he
 ·exact h
 ·exact hl e he
theorem Dig.app {B:Nat} {l m:List Nat} (hl:Dig B l) (hm:Dig B m):Dig B (l++m):=by
 intro e he
 rcases List.mem_append.1 he with he|he
 ·exact hl e he
 ·exact hm e he
theorem Dig.take {B:Nat} {l:List Nat} (hl:Dig B l) (k:Nat):Dig B (l.take k):=fun e he=>hl e (List.mem_of_mem_take he)
theorem Dig.drop {B:Nat} {l:List Nat} (hl:Dig B l) (k:Nat):Dig B (l.drop k):=fun e he=>hl e (List.mem_of_mem_drop he)
theorem Dig.at_ {B:Nat} {l:List Nat} (hl:Dig B l) {k d:Nat} (h:l[k]?=some d):d<B:=hl d (List.mem_of_getElem? h)
theorem Dig.get {B:Nat} {l:List Nat} (hl:Dig B l) (k:Nat) (h:k<l.length):l[k]<B:=hl _ (List.getElem_mem h)
theorem Dig.get0 {B:Nat} {l:List Nat} (hB:0<B) (hl:Dig B l) (k:Nat):l.getD k 0<B:=by
 rcases Nat.lt_or_ge k l.length with h|h
 ·simp [List.getD,List.getElem?_eq_getElem h];exact hl.get k h
 ·simp [List.getD,List.getElem?_eq_none h,hB]
theorem Dig.set {B:Nat} {l:List Nat} (hl:Dig B l) {k d:Nat} (hd:d<B):Dig B (l.set k d):=by
 intro e he
 rcases List.mem_or_eq_of_mem_set he with he|rfl
 ·exact hl e he
 ·exact hd
theorem Dig.replicate {B:Nat} (hB:0<B) (n:Nat):Dig B (List.replicate n 0):=by
 intro e he;rw [List.eq_of_mem_replicate he];exact hB
theorem bW {B:Nat} {l:List Nat} (h:Dig B l):val B l<B^l.length:=by
 induction l with
 | nil=>simp [val]
 | cons d l ih =>
   have hd:d<B:=h d (by simp)
   have hl:=ih (fun e he=>h e (by simp [he]))
   simp only [val,List.length_cons,Nat.pow_succ]
   have h1:val B l+1≤B^l.length:=hl
   have h2:=Nat.mul_le_mul_left B h1
   rw [Nat.mul_add,Nat.mul_one,Nat.mul_comm B (B^l.length)] at h2
   omega
theorem lI (B n:Nat):val B (List.replicate n 0)=0:=by
 induction n with
 | zero=>rfl
 | succ n ih=>simp [List.replicate_succ,val,ih]
theorem aF (B:Nat) (l:List Nat) (k:Nat) (h:k<l.length):val B (l.take (k+1))=val B (l.take k)+B^k*l[k]:=by
 rw [List.take_succ_eq_append_getElem h,cM,List.length_take,Nat.min_eq_left (by omega)]
theorem dX (B:Nat) (l:List Nat) (k:Nat) (h:k≤l.length):val B l=val B (l.take k)+B^k*val B (l.drop k):=by
 have:=fN B (l.take k) (l.drop k)
 rw [List.take_append_drop,List.length_take,Nat.min_eq_left h] at this
 exact this
theorem lJ (B:Nat) (l:List Nat) (k:Nat) (h:k<l.length):val B (l.drop k)=l[k]+B*val B (l.drop (k+1)):=by
 rw [List.drop_eq_getElem_cons h];rfl
def Norm (l:List Nat):Prop := ∀ h:l≠[],l.getLast h≠0
theorem Norm.nil:Norm []:=fun h=>absurd rfl h
theorem Norm.ge {B:Nat} {l:List Nat} (hn:Norm l) (h:l≠[]):B^(l.length-1)≤val B l:=by
 have e:=List.dropLast_concat_getLast h
 have hl:=hn h
 have:val B l=val B l.dropLast+B^l.dropLast.length*l.getLast h:=by
  conv=>lhs;rw [← e]
  exact cM B _ _
 rw [this,List.length_dropLast]
 have:B^(l.length-1)*1≤B^(l.length-1)*l.getLast h:=Nat.mul_le_mul_left _ (by omega)
 omega
theorem Norm.pos {B:Nat} (hB:0<B) {l:List Nat} (hn:Norm l) (h:l≠[]):0<val B l:=by
 have:=hn.ge (B:=B) h
 have h2:0<B^(l.length-1):=Nat.pow_pos hB
 omega
theorem Norm.zero_iff {B:Nat} (hB:0<B) {l:List Nat} (hn:Norm l):val B l=0↔l = []:=by
 constructor
 ·intro h
  rcases Classical.em (l = []) with e|e
  ·exact e
  ·have:=hn.pos hB e;omega
 ·rintro rfl;rfl
theorem dF {B:Nat} (hB:1<B) {a b:List Nat} (ha:Dig B a) (hb:Norm b) (h:a.length<b.length):val B a<val B b:=by
 have h1:=bW ha
 have hne:b≠[]:=by rintro rfl;simp at h
 have h2:=hb.ge (B:=B) hne
 have h3:B^a.length≤B^(b.length-1):=Nat.pow_le_pow_right (by omega) (by omega)
 omega
theorem aAk {B:Nat} {a b:List Nat} (hl:a.length=b.length) (ha:Dig B a) {k:Nat} (hk:k<a.length) (htop:a.drop (k+1)=b.drop (k+1)) (hd:a[k]<b[k]'(by omega)):val B a<val B b:=by
 rw [dX B a (k+1) (by omega),dX B b (k+1) (by omega),htop,aF B a k hk,aF B b k (by omega)]
 have h1:=bW (ha.take k)
 rw [List.length_take,Nat.min_eq_left (by omega)] at h1
 have h2:B^k*(a[k]+1)≤B^k*b[k]'(by omega):=Nat.mul_le_mul_left _ hd
 rw [Nat.mul_add,Nat.mul_one] at h2
 omega
theorem aV {B L:Nat} (hB:1<B) {a:List Nat} (na:Norm a) (h:val B a<B^L):a.length≤L:=by
 rcases Classical.em (a = []) with rfl|e
 ·simp
 ·have h1:=na.ge (B:=B) e
  rcases Nat.lt_or_ge L a.length with hl|hl
  ·have:B^L≤B^(a.length-1):=Nat.pow_le_pow_right (by omega) (by omega)
   omega
  ·exact hl
theorem qB (B:Nat) {l:List Nat} {k:Nat} (hk:k<l.length) (h0:l[k]=0):val B (l.take (k+1))=val B (l.take k):=by
 rw [aF B l k hk,h0];simp
theorem aAl {l:List Nat} {k:Nat} (hk:k≤l.length) (h:0<k→l[k-1]?≠some 0):Norm (l.take k):=by
 intro hne
 have hpos:0<k:=by
  rcases Nat.eq_zero_or_pos k with rfl|h
  ·simp at hne
  ·exact h
 have h1:=h hpos
 rw [List.getLast_eq_getElem]
 simp only [List.length_take,Nat.min_eq_left hk]
 intro he
 apply h1
 rw [List.getElem?_eq_getElem (by omega)]
 simp at he
 simp [he]
end Pl
section
open Go.RowKit Pl
def aD:Nat:=18446744073709551616
theorem aL:aD=18446744073709551616:=rfl
theorem eD:1<aD:=by unfold aD;omega
theorem bF:0<aD:=by unfold aD;omega
def rY (n:Nat):Value := .int .u64 (n:Int)
def Rd (w:World) (A:Option Addr) (n c:Nat) (xs:List Nat):Prop :=
 xs.length=n∧n≤c∧c≤maxLen∧(0<n→∃ ad,A=some ad∧ad.block<w.heap.size∧∀ (j x:Nat),xs[j]?=some x→w.cell? (ad.add j)=some (.int .u64 (x:Int)))
theorem bK (a:Addr) (n:Nat):(a.add n).block=a.block:=by unfold Addr.add;split <;> rfl
section
variable {w w' : World} {A:Option Addr} {n c:Nat} {xs:List Nat}
theorem Rd.len (h:Rd w A n c xs):xs.length=n:=h.1
theorem Rd.cap (h:Rd w A n c xs):n≤c:=h.2.1
theorem Rd.at_ (h:Rd w A n c xs) {k:Nat} (hk:k<n) :
 ∃ ad x,A=some ad∧ad.block<w.heap.size∧xs[k]?=some x∧w.cell? (ad.add k)=some (.int .u64 (x:Int)):=by
 obtain ⟨ad,e,hb,hc⟩:=h.2.2.2 (by omega)
 have hl:k<xs.length:=by have:=h.1;omega
 exact ⟨ad,xs[k],e,hb,List.getElem?_eq_getElem hl,hc k _ (List.getElem?_eq_getElem hl)⟩
theorem Rd.below (h:Rd w A n c xs) (hb:Below w.heap.size w w'):Rd w' A n c xs:=by
 refine ⟨h.1,h.2.1,h.2.2.1,fun hn=>?_⟩
 obtain ⟨ad,e,hl,hc⟩:=h.2.2.2 hn
 have:=hb.size
 exact ⟨ad,e,by omega,fun j x hx=>(hb.cell (p:=ad.add j) (by rw [bK];exact hl)).trans (hc j x hx)⟩
theorem Rd.nil:Rd w none 0 0 []:=⟨rfl,aR _,Nat.zero_le _,fun h=>absurd h (by omega)⟩
theorem Rd.take (h:Rd w A n c xs) {k:Nat} (hk:k≤n):Rd w A k c (xs.take k):=by
 refine ⟨by rw [List.length_take,h.1];omega,Nat.le_trans hk h.2.1,h.2.2.1,fun hp=>?_⟩
 obtain ⟨ad,e,hl,hc⟩:=h.2.2.2 (by omega)
 refine ⟨ad,e,hl,fun j x hx=>hc j x ?_⟩
 rw [List.getElem?_take] at hx
 split at hx
 ·exact hx
 ·cases hx
end
def Blk (w:World) (g:Nat) (t:TypeId) (ys:List Nat):Prop:=w.heap[g]?=some (.cells (ys.map rY).toArray t (0,0))
section
variable {w w' : World} {g:Nat} {t:TypeId} {ys:List Nat}
theorem Blk.lt (h:Blk w g t ys):g<w.heap.size:=by
 unfold Blk at h
 rcases Nat.lt_or_ge g w.heap.size with hlt|hge
 ·exact hlt
 ·rw [Array.getElem?_eq_none hge] at h;cases h
theorem Blk.cell (h:Blk w g t ys) {i x:Nat} (hx:ys[i]?=some x):w.cell? ⟨g,i,none⟩=some (.int .u64 (x:Int)):=by
 unfold Blk at h
 simp [World.cell?,h,hx,rY]
theorem Blk.cell_get (h:Blk w g t ys) {i:Nat} (hi:i<ys.length):w.cell? ⟨g,i,none⟩=some (.int .u64 ((ys[i]:Nat):Int)):=h.cell (List.getElem?_eq_getElem hi)
theorem Blk.frozen (h:Blk w g t ys) (i:Nat):w.frozen? ⟨g,i,none⟩=false:=by
 unfold Blk at h
 simp [World.frozen?,h]
theorem Blk.set_ (h:Blk w g t ys) (i x:Nat):Blk (w.setCell ⟨g,i,none⟩ (.int .u64 (x:Int))) g t (ys.set i x):=by
 unfold Blk at h ⊢
 simp only [World.setCell,Array.getElem?_modify,h]
 simp [List.map_set,rY]
theorem Blk.drew (h:Blk w g t ys):Blk w.drew g t ys:=h
theorem Blk.alloc (h:Blk w g t ys) (o:Obj):Blk (w.alloc o) g t ys:=(Below.heap_alloc w o g h.lt).trans h
theorem Blk.far (h:Blk w g t ys) {p:Addr} (hp:g≠p.block) (u:Value):Blk (w.setCell p u) g t ys:=(Below.heap_setCell w p u g hp).trans h
theorem Blk.below {B:Nat} (h:Blk w g t ys) (hb:Below B w w') (hg:g<B):Blk w' g t ys:=(hb.block g hg).trans h
theorem Blk.rd (h:Blk w g t ys) (hm:ys.length≤maxLen):Rd w (some ⟨g,0,none⟩) ys.length ys.length ys:=by
 refine ⟨rfl,aR _,hm,fun _=>⟨_,rfl,h.lt,fun j x hx=>?_⟩⟩
 have:(⟨g,0,none⟩:Addr).add j=⟨g,j,none⟩:=by unfold Addr.add;split <;> simp_all
 rw [this]
 exact h.cell hx
theorem Blk.of_own {base e n:Nat} {xs:List Value} (h:w.ownsRow base e 1 (.slice (some ⟨g,0,none⟩) n n) n xs) (hx:xs=ys.map rY):Blk w g e ys:=by
 obtain ⟨h1,h2|⟨g',cap,cur,hv,_,hh,_,_,hs,ht⟩⟩:=h
 ·obtain ⟨hv,_⟩:=h2
  injection hv with hv
  cases hv
 ·injection hv with hv _ hc
  injection hv with hv
  injection hv with hv
  subst hc
  subst hv
  unfold Blk
  rw [hh]
  have:cur.toList=xs:=by
   rw [← ht,List.take_of_length_le]
   simp [hs]
  have e2:cur=(ys.map rY).toArray:=by rw [← hx,← this]
  rw [e2]
end
def Nt (w:World) (v:Value) (a:Nat):Prop :=
 ∃ A n c xs,v = .slice A n c∧Rd w A n c xs∧Dig aD xs∧Norm xs∧val aD xs=a
theorem Nt.below {w w' : World} {v:Value} {a:Nat} (h:Nt w v a) (hb:Below w.heap.size w w'):Nt w' v a:=by
 obtain ⟨A,n,c,xs,hv,hr,hd,hn,ha⟩:=h
 exact ⟨A,n,c,xs,hv,hr.below hb,hd,hn,ha⟩
def Lv (k a:Nat):Prop:=a<aD^(2^k)
theorem Lv.mono {k l a:Nat} (h:Lv k a) (hk:k≤l):Lv l a :=
 Nat.lt_of_lt_of_le h (Nat.pow_le_pow_right bF (Nat.pow_le_pow_right (by omega) hk))
theorem Lv.mul {k a b:Nat} (h:Lv k a) (h' : Lv k b):Lv (k+1) (a*b):=by
 unfold Lv at *
 rw [Nat.pow_succ 2 k,Nat.mul_two,Nat.pow_add]
 exact Nat.mul_lt_mul'' h h'
theorem Lv.le {k a b:Nat} (h:Lv k a) (hb:b≤a):Lv k b:=Nat.lt_of_le_of_lt hb h
theorem Lv.add {k a b:Nat} (h:Lv k a) (h' : Lv k b):Lv (k+1) (a+b):=by
 unfold Lv at *
 rw [Nat.pow_succ 2 k,Nat.mul_two,Nat.pow_add]
 generalize aD^2^k=P at *
 rcases Nat.lt_or_ge P 2 with hp|hp
 ·have:P=1:=by omega
  subst this;omega
 ·have:P*2≤P*P:=Nat.mul_le_mul_left _ hp
  omega
theorem Lv.one {k:Nat} (n:Nat) (h:n<aD):Lv k n:=by
 unfold Lv
 have:aD^1≤aD^2^k:=Nat.pow_le_pow_right bF (Nat.one_le_two_pow)
 rw [Nat.pow_one] at this
 omega
theorem Lv.len {k:Nat} {xs:List Nat} (h:Lv k (val aD xs)) (hn:Norm xs):xs.length≤2^k:=aV eD hn h
theorem Lv.len40 {xs:List Nat} (h:Lv 40 (val aD xs)) (hn:Norm xs):xs.length≤1099511627776:=h.len hn
def lenOf:Value→Nat | .slice _ k _=>k|_=>0
def TrimTo (xs:List Nat) (k:Nat):Prop:=k≤xs.length∧Norm (xs.take k)∧val aD (xs.take k)=val aD xs
theorem nX (A:Option Addr) (n c:Nat) (xs:List Nat) (w:World) (h:Rd w A n c xs) :
 Calls Tryz.prog 212 #[.slice A n c] w fun e w'=>Hid (∃ k,TrimTo xs k∧e = .returned (.slice A k c))∧w=w':=by
 have HR:=aH h
 have hnc:n≤c:=h.cap
 have hcm:c≤9223372036854775807:=h.2.2.1
 clear h
 go_enter Tryz.func212,Tryz.ntmps212
 go_wp2
 go_loop [0] (fun v => ∃ k:Nat,k≤n∧val aD (xs.take k)=val aD xs∧v = .slice A k c) (fun v=>lenOf v)
 case atStart=>exact ⟨n,aR _,by rw [List.take_of_length_le (by rw [HR.out.len];omega)],rfl⟩
 case round =>
  obtain ⟨k,hk,hv,rfl⟩:=hrel
  have HV:=aH hv
  clear hv
  by_cases hk0:0<k
  ·obtain ⟨ad,x,rfl,_hb,hx,hcell⟩:=HR.out.at_ (k:=k-1) (by omega)
   have HX:=aH hx
   clear hx
   go_wp2
   ·have h0 : x = 0 := by have:((x:Int)==0)=true:=by assumption
                          simpa using this
    subst h0
    refine ⟨⟨k-1,by omega,?_,rfl⟩,by simp only [lenOf];omega⟩
    have hlt:k-1<xs.length:=by rw [HR.out.len];omega
    have hz:xs[k-1]=0:=by have:=HX.out;rw [List.getElem?_eq_getElem hlt] at this;injection this
    have:=qB aD hlt hz
    rw [show k-1+1=k from by omega] at this
    rw [← this];exact HV.out
   ·have h0:((x:Int)==0)=false:=by assumption
    go_ret
    refine ⟨⟨k,⟨by rw [HR.out.len];exact hk,aAl (by rw [HR.out.len];exact hk) (fun _=>?_),HV.out⟩,rfl⟩,rfl⟩
    rw [HX.out]
    intro e
    injection e with e
    subst e
    simp at h0
  ·have hz:decide (0<(k:Int))=false:=by simp;omega
   have hk00:k=0:=by omega
   have HK:=aH hk00
   clear hk00
   go_wp2
   go_ret
   refine ⟨⟨k,⟨by omega,?_,HV.out⟩,rfl⟩,rfl⟩
   rw [HK.out]
   simpa using Norm.nil
theorem eA (A:Option Addr) (n c:Nat) (xs:List Nat) (w:World) (h:Rd w A n c xs) (hd:Dig aD xs) :
 Calls Tryz.prog 212 #[.slice A n c] w fun e w'=>(∃ v,e = .returned v∧Nt w v (val aD xs))∧w=w':=by
 refine (nX A n c xs w h).mono ?_
 rintro e w' ⟨⟨k,⟨hk,hn,hv⟩,rfl⟩,rfl⟩
 refine ⟨⟨_,rfl,A,k,c,xs.take k,rfl,h.take (by rw [← h.len];exact hk),hd.take k,hn,hv⟩,rfl⟩
theorem bX {k:IntKind} {a b:Int} (h:a=b):Ending.returned (.int k a) = .returned (.int k b):=by rw [h]
theorem rZ {a b:Bool} (h:a=b):Ending.returned (.bool a) = .returned (.bool b):=by rw [h]
def GivesNt (w:World) (a:Nat) (e:Ending) (w' : World):Prop := ∃ v,e = .returned v∧Nt w' v a∧Below w.heap.size w w'
def Gives (w:World) (v:Value) (e:Ending) (w' : World):Prop:=e = .returned v∧Below w.heap.size w w'
theorem bZ {B:Nat} {w0 w:World} (h:Below B w0 w) (n:Nat):Below B w0 (w.drewN n):=h.trans ⟨rfl,rfl,rfl,aR _,fun _ _=>rfl⟩
theorem cA (x:Nat) (hx:x<aD) (w:World):Calls Tryz.prog 146 #[.int .u64 (x:Int)] w (GivesNt w x):=by
 have hblk:Blk (w.alloc (.cells #[.int .u64 (x:Int)] 151)) w.heap.size 151 [x]:=heap_alloc_new w _
 have hrd:=hblk.rd (by simp [maxLen])
 have hd:Dig aD [x]:=Dig.cons hx (Dig.nil _)
 have HH:=aH (aI hrd hd)
 clear hblk hrd hd
 go_enter Tryz.func146,Tryz.ntmps146
 go_wp2_with (go_at_call 212;refine (eA _ _ _ [x] _ HH.out.1 HH.out.2).mono ?_;rintro e w' ⟨⟨v,rfl,hv⟩,rfl⟩)
 go_ret
 refine ⟨v,rfl,by simpa [val] using hv,(aB _ _).alloc (aR _) _⟩
theorem qS (A:Option Addr) (n c:Nat) (w:World) :
 Calls Tryz.prog 139 #[.slice A n c] w fun e w'=>e = .returned (.bool (decide (n=0)))∧w=w':=by
 go_enter Tryz.func139,Tryz.ntmps139
 go_wp2
 go_ret
 refine ⟨?_,rfl⟩
 congr 2
 by_cases h:n=0 <;> simp [h]
theorem low_any (A:Option Addr) (n c:Nat) (xs:List Nat) (w:World) (h:Rd w A n c xs) (hd:Dig aD xs) :
 Calls Tryz.prog 149 #[.slice A n c] w fun e w'=>e = .returned (.int .u64 ((val aD xs%aD:Nat):Int))∧w=w':=by
 have HR:=aH h
 have HD:=aH hd
 have hnc:n≤c:=h.cap
 have hcm:c≤9223372036854775807:=h.2.2.1
 clear h hd
 rcases Nat.eq_zero_or_pos n with rfl|hn
 ·go_enter Tryz.func149,Tryz.ntmps149
  go_wp2_with (go_at_call 139;refine (qS _ _ _ _).mono ?_;rintro e w' ⟨rfl,rfl⟩)
  go_ret
  refine ⟨?_,rfl⟩
  have:xs = []:=List.eq_nil_of_length_eq_zero HR.out.len
  subst this
  simp [val]
 ·obtain ⟨ad,x,rfl,_hb,hx,hcell⟩:=HR.out.at_ hn
  have hz:decide (n=0)=false:=by simp;omega
  have HX:=aH hx
  have hcell' : w.cell? ad=some (.int .u64 (x:Int)):=by simpa [Addr.add] using hcell
  clear hx
  go_enter Tryz.func149,Tryz.ntmps149
  go_wp2_with (go_at_call 139;refine (qS _ _ _ _).mono ?_;rintro e w' ⟨rfl,rfl⟩)
  go_ret
  refine ⟨bX ?_,rfl⟩
  have hx:=HX.out
  match xs,hx,HD.out with
  | y::l,hx,hd =>
    simp at hx
    subst hx
    have:=hd y (by simp)
    rw [val,Nat.add_mul_mod_self_left,Nat.mod_eq_of_lt this]
theorem isOne_any (A:Option Addr) (n c:Nat) (xs:List Nat) (w:World) (h:Rd w A n c xs) (hd:Dig aD xs) (hn:Norm xs) :
 Calls Tryz.prog 141 #[.slice A n c] w fun e w'=>e = .returned (.bool (decide (val aD xs=1)))∧w=w':=by
 have HR:=aH h
 have HD:=aH (aI hd hn)
 have hnc:n≤c:=h.cap
 have hcm:c≤9223372036854775807:=h.2.2.1
 clear h hd hn
 by_cases h1:n=1
 ·subst h1
  obtain ⟨ad,x,rfl,_hb,hx,hcell⟩:=HR.out.at_ Nat.zero_lt_one
  have HX:=aH hx
  have hcell' : w.cell? ad=some (.int .u64 (x:Int)):=by simpa [Addr.add] using hcell
  clear hx hcell
  go_enter Tryz.func141,Tryz.ntmps141
  go_wp2
  go_ret
  refine ⟨?_,rfl⟩
  have hx:=HX.out
  have hl:=HR.out.len
  match xs,hx,hl with
  | [y],hx,_ =>
    simp at hx
    subst hx
    congr 2
    simp only [val]
    by_cases e:y=1
    ·subst e;simp
    ·simp [e];omega
 ·have hz:((n:Int)==1)=false:=by simp;omega
  go_enter Tryz.func141,Tryz.ntmps141
  go_wp2
  go_ret
  refine ⟨?_,rfl⟩
  have:¬ val aD xs=1:=by
   intro e
   have hl:=HR.out.len
   have hlt:xs.length≤1:=aV eD HD.out.2 (by rw [e,Nat.pow_one];exact eD)
   have:xs = []:=List.eq_nil_of_length_eq_zero (by omega)
   subst this
   simp [val] at e
  simp [this]
def bU (a b:Int):Int:=if a<b then -1 else if b<a then 1 else 0
theorem qT (a:Int) (w:World):Calls Tryz.prog 260 #[.int .i64 a] w fun e w'=>e = .returned (.bool false)∧w=w':=by
 have h:(a != a)=false:=by simp
 go_enter Tryz.func260,Tryz.ntmps260
 go_wp2
 go_ret
 exact ⟨rZ (by simp),rfl⟩
theorem cmpInt_any (a b:Int) (w:World):Calls Tryz.prog 236 #[.int .i64 a,.int .i64 b] w fun e w'=>e = .returned (.int .i64 (bU a b))∧w=w':=by
 rcases Int.lt_trichotomy a b with h|h|h
 ·have hp:=aH (show bU a b = -1 by unfold bU;rw [if_pos h])
  go_enter Tryz.func236,Tryz.ntmps236
  go_wp2_with (go_at_call 260;refine (qT _ _).mono ?_;rintro e w' ⟨rfl,rfl⟩)
  go_ret
  exact ⟨bX hp.out.symm,rfl⟩
 ·subst h
  have hp:=aH (show bU a a=0 by unfold bU;rw [if_neg (by omega),if_neg (by omega)])
  go_enter Tryz.func236,Tryz.ntmps236
  go_wp2_with (go_at_call 260;refine (qT _ _).mono ?_;rintro e w' ⟨rfl,rfl⟩)
  go_ret
  exact ⟨bX hp.out.symm,rfl⟩
 ·have hp:=aH (show bU a b=1 by unfold bU;rw [if_neg (by omega),if_pos h])
  go_enter Tryz.func236,Tryz.ntmps236
  go_wp2_with (go_at_call 260;refine (qT _ _).mono ?_;rintro e w' ⟨rfl,rfl⟩)
  go_ret
  exact ⟨bX hp.out.symm,rfl⟩
theorem nY (a:Int) (w:World):Calls Tryz.prog 261 #[.int .u64 a] w fun e w'=>e = .returned (.bool false)∧w=w':=by
 have h:(a != a)=false:=by simp
 go_enter Tryz.func261,Tryz.ntmps261
 go_wp2
 go_ret
 exact ⟨rZ (by simp),rfl⟩
theorem cmpWord_any (a b:Int) (w:World):Calls Tryz.prog 237 #[.int .u64 a,.int .u64 b] w fun e w'=>e = .returned (.int .i64 (bU a b))∧w=w':=by
 rcases Int.lt_trichotomy a b with h|h|h
 ·have hp:=aH (show bU a b = -1 by unfold bU;rw [if_pos h])
  go_enter Tryz.func237,Tryz.ntmps237
  go_wp2_with (go_at_call 261;refine (nY _ _).mono ?_;rintro e w' ⟨rfl,rfl⟩)
  go_ret
  exact ⟨bX hp.out.symm,rfl⟩
 ·subst h
  have hp:=aH (show bU a a=0 by unfold bU;rw [if_neg (by omega),if_neg (by omega)])
  go_enter Tryz.func237,Tryz.ntmps237
  go_wp2_with (go_at_call 261;refine (nY _ _).mono ?_;rintro e w' ⟨rfl,rfl⟩)
  go_ret
  exact ⟨bX hp.out.symm,rfl⟩
 ·have hp:=aH (show bU a b=1 by unfold bU;rw [if_neg (by omega),if_pos h])
  go_enter Tryz.func237,Tryz.ntmps237
  go_wp2_with (go_at_call 261;refine (nY _ _).mono ?_;rintro e w' ⟨rfl,rfl⟩)
  go_ret
  exact ⟨bX hp.out.symm,rfl⟩
theorem cmpI_len {B:Nat} (hB:1<B) {a b:List Nat} (ha:Dig B a) (hb:Dig B b) (na:Norm a) (nb:Norm b) (h:a.length≠b.length):bU a.length b.length=bU (val B a) (val B b):=by
 unfold bU
 rcases Nat.lt_or_gt_of_ne h with h|h
 ·have:=dF hB ha nb h
  rw [if_pos (by omega),if_pos (by omega)]
 ·have:=dF hB hb na h
  rw [if_neg (by omega),if_pos (by omega),if_neg (by omega),if_pos (by omega)]
theorem xF {B:Nat} {a b:List Nat} (hl:a.length=b.length) (ha:Dig B a) (hb:Dig B b) {k:Nat} (hk:k<a.length) (htop:a.drop (k+1)=b.drop (k+1)) {x y:Nat} (hx:a[k]?=some x) (hy:b[k]?=some y) (hne:x≠y) :
 bU x y=bU (val B a) (val B b):=by
 rw [List.getElem?_eq_getElem hk] at hx
 rw [List.getElem?_eq_getElem (by omega)] at hy
 injection hx with hx
 injection hy with hy
 subst hx
 subst hy
 unfold bU
 rcases Nat.lt_or_gt_of_ne hne with h|h
 ·have:=aAk hl ha hk htop h
  rw [if_pos (by omega),if_pos (by omega)]
 ·have:=aAk hl.symm hb (by omega) htop.symm h
  rw [if_neg (by omega),if_pos (by omega),if_neg (by omega),if_pos (by omega)]
def Agree (a b:List Nat) (k:Nat):Prop:=a.drop k=b.drop k
theorem Agree.step {a b:List Nat} {k:Nat} (h:Agree a b (k+1)) {x y:Nat} (hx:a[k]?=some x) (hy:b[k]?=some y) (he:x=y):Agree a b k:=by
 obtain ⟨h1,e1⟩:=List.getElem?_eq_some_iff.1 hx
 obtain ⟨h2,e2⟩:=List.getElem?_eq_some_iff.1 hy
 unfold Agree at *
 rw [List.drop_eq_getElem_cons h1,List.drop_eq_getElem_cons h2,h,e1,e2,he]
theorem vM (A:Option Addr) (n c:Nat) (xs:List Nat) (A' : Option Addr) (n' c' : Nat) (ys:List Nat) (w:World) (h:Rd w A n c xs) (h' : Rd w A' n' c' ys)
 (hd:Dig aD xs) (hd' : Dig aD ys) (hn:Norm xs) (hn' : Norm ys) :
 Calls Tryz.prog 204 #[.slice A n c,.slice A' n' c'] w (Gives w (.int .i64 (bU (val aD xs) (val aD ys)))):=by
 have HX:=aH (aI h (aI hd hn))
 have HY:=aH (aI h' (aI hd' hn'))
 have hnc:n≤c:=h.cap
 have hcm:c≤9223372036854775807:=h.2.2.1
 have hnc' : n'≤c':=h'.cap
 have hcm' : c'≤9223372036854775807:=h'.2.2.1
 clear h h' hd hd' hn hn'
 by_cases hl:n=n'
 ·subst hl
  have ht:((n:Int) != n)=false:=by simp
  go_enter Tryz.func204,Tryz.ntmps204
  go_wp2
  go_loopw [5] (fun i wr => ∃ k:Nat,k≤n∧Agree xs ys k∧i = .int .i64 ((k:Int)-1)∧Below w.heap.size w wr) (fun i _=>(intOf i+1).toNat)
  case atStart=>exact ⟨n,aR _,by unfold Agree;rw [List.drop_eq_nil_of_le (by rw [HX.out.1.len];omega),List.drop_eq_nil_of_le (by rw [HY.out.1.len];omega)],rfl,aB _ _⟩
  case round =>
   obtain ⟨k,hk,hag,rfl,hb⟩:=hrel
   have HA:=aH hag
   clear hag
   rcases Nat.eq_zero_or_pos k with rfl|hk0
   ·go_wp2
    go_ret
    refine ⟨bX ?_,hb⟩
    have:=HA.out
    unfold Agree at this
    simp at this
    rw [this]
    unfold bU
    simp
   ·obtain ⟨m,rfl⟩:∃ m,k=m+1:=⟨k-1,by omega⟩
    obtain ⟨ad,x,hA,_,hx,hcx⟩:=(HX.out.1.below hb).at_ (k:=m) (by omega)
    obtain ⟨ad',y,hA',_,hy,hcy⟩:=(HY.out.1.below hb).at_ (k:=m) (by omega)
    subst hA
    subst hA'
    have HE:=aH (aI hx hy)
    clear hx hy hk0
    have hidx:((m:Int)+1-1)=m:=by omega
    simp only [Int.natCast_add,Int.natCast_one,hidx]
    clear hidx
    by_cases he:x=y
    ·have ht:((x:Int) != y)=false:=by simp [he]
     have HE2:=aH he
     clear he
     go_wp2
     go_quiet (fail)
     go_wp2
     go_roundw
     case rel=>exact ⟨m,by omega,HA.out.step HE.out.1 HE.out.2 HE2.out,rfl,bZ hb _⟩
     case measure=>simp [intOf]
    ·have ht:((x:Int) != y)=true:=by simp;omega
     have HE2:=aH he
     clear he
     go_wp2
     go_quiet (fail)
     have hcx2:(wr.drewN nq).cell? (ad.add m)=some (.int .u64 (x:Int)):=hcx
     have hcy2:(wr.drewN nq).cell? (ad'.add m)=some (.int .u64 (y:Int)):=hcy
     have hb2:=bZ hb nq
     clear hb hcx hcy
     generalize wr.drewN nq=w2 at *
     go_wp2
     go_quiet ((go_at_call 237;exact Calls.quiet_of_same ((cmpWord_any _ _ _).mono fun _ _ h=>⟨h.1,h.2.symm⟩)))
     go_wp2
     go_ret
     refine ⟨bX ?_,bZ hb2 _⟩
     exact xF (by rw [HX.out.1.len,HY.out.1.len]) HX.out.2.1 HY.out.2.1 (by rw [HX.out.1.len];omega) HA.out HE.out.1 HE.out.2 HE2.out
 ·have ht:((n:Int) != n')=true:=by simp;omega
  have HL:=aH hl
  clear hl
  go_enter Tryz.func204,Tryz.ntmps204
  go_wp2_with (go_at_call 236;refine (cmpInt_any _ _ _).mono ?_;rintro e w' ⟨rfl,rfl⟩)
  go_ret
  refine ⟨bX ?_,aB _ _⟩
  have e1:=HX.out.1.len
  have e2:=HY.out.1.len
  rw [← e1,← e2]
  exact cmpI_len eD HX.out.2.1 HY.out.2.1 HX.out.2.2 HY.out.2.2 (by rw [e1,e2];exact HL.out)
theorem fO (x y c:Nat) (hc:c≤1) (w:World) :
 (callFunc 213 #[.int .u64 (x:Int),.int .u64 (y:Int),.int .u64 (c:Int)]).run Tryz.prog w =
  .ok (.value (.tuple #[.int .u64 (((x+y+c)%aD:Nat):Int),.int .u64 (((x+y+c)/aD:Nat):Int)])) w:=by
 rw [run_callFunc_extern Tryz.func213 (by kernel_rfl) (by kernel_rfl) (by kernel_rfl) (e:=add64Entry) (by kernel_rfl),run_add64 x y c (by omega) (by omega) (by omega) (by omega)]
 simp only [Result.andThen,aD]
 congr 5 <;> omega
theorem mP (x y b:Nat) (hb:b≤1) (w:World) :
 (callFunc 254 #[.int .u64 (x:Int),.int .u64 (y:Int),.int .u64 (b:Int)]).run Tryz.prog w =
  .ok (.value (.tuple #[.int .u64 (((x+aD-y-b)%aD:Nat):Int),.int .u64 ((if x<y+b then 1 else 0:Nat):Int)])) w:=by
 rw [run_callFunc_extern Tryz.func254 (by kernel_rfl) (by kernel_rfl) (by kernel_rfl) (e:=sub64Entry) (by kernel_rfl),run_sub64 x y b hb]
 rfl
theorem eK:(Tryz.prog.info? 151).map (fun i=>(i.zero,i.size,i.bytes))=some (some (.int .u64 0),1,8):=by kernel_rfl
theorem dR {w:World} {g base n:Nat} (h:w.ownsRow base 151 1 (.slice (some ⟨g,0,none⟩) n n) n (madeCells #[Value.int .u64 0] n).toList):Blk w g 151 (List.replicate n 0):=by
 refine Blk.of_own h ?_
 rw [toList_madeCells_one]
 simp [rY]
def AddInv (xs ys zs:List Nat) (k cy:Nat):Prop :=
 cy≤1∧Dig aD zs∧zs.length=xs.length+1∧val aD (zs.take k)+aD^k*cy=val aD (xs.take k)+val aD (ys.take k)∧(∀ j,k≤j→j<zs.length→zs[j]?=some 0)
theorem AddInv.step {xs ys zs:List Nat} {k cy x y:Nat} (h:AddInv xs ys zs k cy) (hx:xs[k]?=some x) (hy:ys.getD k 0=y) (hdx:Dig aD xs) (hdy:Dig aD ys) :
 AddInv xs ys (zs.set k ((x+y+cy)%aD)) (k+1) ((x+y+cy)/aD):=by
 obtain ⟨h1,h2,h3,h4,h5⟩:=h
 obtain ⟨hk,ex⟩:=List.getElem?_eq_some_iff.1 hx
 have bx:=hdx.at_ hx
 have by' : y<aD:=by rw [← hy];exact hdy.get0 bF k
 have hq:(x+y+cy)/aD≤1:=by
  have:=aL
  rw [this] at bx by' ⊢
  omega
 have hr:(x+y+cy)%aD<aD:=Nat.mod_lt _ bF
 have hdm:=Nat.div_add_mod (x+y+cy) aD
 refine ⟨hq,h2.set hr,by simp [h3],?_,?_⟩
 ·have e1:val aD ((zs.set k ((x+y+cy)%aD)).take (k+1))=val aD (zs.take k)+aD^k*((x+y+cy)%aD):=by
   rw [aF _ _ _ (by simp;omega),List.take_set_of_le (aR _)]
   simp
  have e2:val aD (ys.take (k+1))=val aD (ys.take k)+aD^k*y:=by
   rcases Nat.lt_or_ge k ys.length with hl|hl
   ·rw [aF _ _ _ hl]
    simp [List.getD,List.getElem?_eq_getElem hl] at hy
    rw [hy]
   ·rw [List.take_of_length_le (by omega),List.take_of_length_le hl]
    simp [List.getD,List.getElem?_eq_none hl] at hy
    rw [← hy];simp
  rw [e1,e2,aF _ _ _ hk,ex,Nat.pow_succ]
  generalize (x+y+cy)/aD=q at *
  generalize (x+y+cy)%aD=r at *
  generalize aD^k=P at *
  generalize aD=V at *
  grind
 ·intro j hj hl
  rw [List.getElem?_set_ne (by omega)]
  exact h5 j (by omega) (by simpa using hl)
theorem AddInv.start {xs ys:List Nat}:AddInv xs ys (List.replicate (xs.length+1) 0) 0 0 :=
 ⟨by omega,Dig.replicate bF _,by simp,by simp [val],by intro j _ h;simp at h;simp [h]⟩
theorem AddInv.finish {xs ys zs:List Nat} {cy:Nat} (h:AddInv xs ys zs xs.length cy) (hl:ys.length≤xs.length) :
 Dig aD (zs.set xs.length cy)∧val aD (zs.set xs.length cy)=val aD xs+val aD ys:=by
 obtain ⟨h1,h2,h3,h4,h5⟩:=h
 refine ⟨h2.set (by have:=eD;omega),?_⟩
 rw [List.take_of_length_le (aR _),List.take_of_length_le (l:=ys) hl] at h4
 rw [← h4,← List.take_of_length_le (l:=zs.set xs.length cy) (i:=xs.length+1) (by simp;omega),aF _ _ _ (by simp;omega),List.take_set_of_le (aR _)]
 simp
theorem plus_ge (A:Option Addr) (n c:Nat) (xs:List Nat) (A' : Option Addr) (n' c' : Nat) (ys:List Nat) (w:World) (h:Rd w A n c xs) (h' : Rd w A' n' c' ys)
 (hd:Dig aD xs) (hd' : Dig aD ys) (hn:n≤2199023255552) (hle:¬ n<n') :
 Calls Tryz.prog 147 #[.slice A n c,.slice A' n' c'] w (GivesNt w (val aD xs+val aD ys)):=by
 have HX:=aH (aI h hd)
 have HY:=aH (aI h' hd')
 have hnc:n≤c:=h.cap
 have hcm:c≤9223372036854775807:=h.2.2.1
 have hnc' : n'≤c':=h'.cap
 have hcm' : c'≤9223372036854775807:=h'.2.2.1
 have hle' : n'≤n:=by omega
 obtain ⟨i0,hi,hz0,hz1,hz2⟩:=info_parts eK
 have HI:=aH (aI hi (aI hz0 (aI hz1 hz2)))
 clear h h' hd hd' hi hz0 hz1 hz2
 go_enter Tryz.func147,Tryz.ntmps147
 go_wp2_with (at_make;refine wpList_make_full _ rfl _ _ 100 rfl w.heap.size 151 i0 (.int .u64 0) 1 Tryz.underlying100 HI.out.1 HI.out.2.1 HI.out.2.2.1 _ _ _ _ (n+1) rfl rfl ?b0 ?b1 ?b2 ?b3 (aR _) ?_)
 case b0=>omega
 case b1=>omega
 case b2=>rw [HI.out.2.2.2];omega
 case b3=>show n+1≤9223372036854775807;omega
 intro w1 hown hg1
 have hb1:Below w.heap.size w w1:=(aB _ _).grown hg1 (aR _) (fun k h=>by cases h)
 have hblk:=dR hown
 have e0:AddInv xs ys (List.replicate (n+1) 0) 0 0:=by
  have:=AddInv.start (xs:=xs) (ys:=ys)
  rwa [HX.out.1.len] at this
 have HB:=aH hblk
 have H0:=aH e0
 clear hown hg1 hblk e0
 obtain ⟨g,hg⟩:∃ g,g=w.heap.size:=⟨_,rfl⟩
 rw [← hg] at HB ⊢
 have HG:=aH hg
 clear hg
 go_wp2
 go_loopw [6,23] (fun cy i wr => ∃ (k cv:Nat) (zs:List Nat),k≤n'∧i = .int .i64 (k:Int)∧cy = .int .u64 (cv:Int)∧AddInv xs ys zs k cv∧Blk wr g 151 zs∧Below w.heap.size w wr) (fun _ i _=>n'-(intOf i).toNat)
 case atStart=>exact ⟨0,0,_,Nat.zero_le _,rfl,rfl,H0.out,HB.out,hb1⟩
 case round =>
  obtain ⟨k,cv,zs,hk,rfl,rfl,hinv,hblk,hb⟩:=hrel
  have hcv:cv≤1:=hinv.1
  have hzl:k<zs.length:=by rw [hinv.2.2.1,HX.out.1.len];omega
  have HV:=aH hinv
  by_cases hlt:k<n'
  ·obtain ⟨ad,x,hA,_,hx,hcx⟩:=(HX.out.1.below hb).at_ (k:=k) (by omega)
   obtain ⟨ad',y,hA',_,hy,hcy⟩:=(HY.out.1.below hb).at_ (k:=k) (by omega)
   subst hA
   subst hA'
   obtain ⟨z,hcz⟩:∃ z:Int,wr.cell? ⟨g,k,none⟩=some (.int .u64 z):=⟨_,hblk.cell_get hzl⟩
   have hfz:=hblk.frozen k
   have hadd:=fun w=>fO x y cv hcv w
   have HE:=aH (aI hx (aI hy hblk))
   clear hx hy hinv hblk hzl
   go_wp2
   go_roundw
   case rel=>exact ⟨k+1,(x+y+cv)/aD,zs.set k ((x+y+cv)%aD),by omega,by go_num,rfl,HV.out.step HE.out.1 (by rw [List.getD,HE.out.2.1];rfl) HX.out.2 HY.out.2,HE.out.2.2.set_ _ _,hb.setCell (by rw [HG.out];exact aR _) _⟩
   case measure=>simp [intOf];omega
  ·obtain rfl:k=n':=by omega
   have HBl:=aH hblk
   clear hinv hblk hlt hzl
   go_wp2
   go_loopw [6,9] (fun cy i wr => ∃ (m cv:Nat) (zs:List Nat),m≤n∧k≤m∧i = .int .i64 (m:Int)∧cy = .int .u64 (cv:Int)∧AddInv xs ys zs m cv∧Blk wr g 151 zs∧Below w.heap.size w wr) (fun _ i _=>n-(intOf i).toNat)
   case atStart=>exact ⟨k,cv,zs,by omega,by omega,rfl,rfl,HV.out,HBl.out,hb⟩
   case round =>
    clear hb hcv
    obtain ⟨m,cv,zs,hm,hkm,rfl,rfl,hinv,hblk,hb⟩:=hrel
    have hcv:cv≤1:=hinv.1
    have hzl:m<zs.length:=by rw [hinv.2.2.1,HX.out.1.len];omega
    obtain ⟨z,hcz⟩:∃ z:Int,wr.cell? ⟨g,m,none⟩=some (.int .u64 z):=⟨_,hblk.cell_get hzl⟩
    have hfz:=hblk.frozen m
    have HV:=aH hinv
    by_cases hlt:m<n
    ·obtain ⟨ad,x,hA,_,hx,hcx⟩:=(HX.out.1.below hb).at_ (k:=m) (by omega)
     subst hA
     have hadd:=fun w=>fO x 0 cv hcv w
     simp only [Int.natCast_zero] at hadd
     have HE:=aH (aI hx hblk)
     clear hx hinv hblk hzl
     go_wp2
     go_roundw
     case rel=>exact ⟨m+1,(x+0+cv)/aD,zs.set m ((x+0+cv)%aD),by omega,by omega,by go_num,rfl,HV.out.step HE.out.1 (by rw [List.getD,List.getElem?_eq_none (by rw [HY.out.1.len];omega)];rfl) HX.out.2 HY.out.2,HE.out.2.set_ _ _,hb.setCell (by rw [HG.out];exact aR _) _⟩
     case measure=>simp [intOf];omega
    ·obtain rfl:m=n:=by omega
     have hfin:=HV.out
     rw [← HX.out.1.len] at hfin
     have hfin2:=hfin.finish (by rw [HY.out.1.len,HX.out.1.len];omega)
     rw [HX.out.1.len] at hfin2
     have hb2:=hblk.set_ m cv
     have hl2:(zs.set m cv).length=m+1:=by rw [List.length_set,hinv.2.2.1,HX.out.1.len]
     have hrd:=hb2.rd (by rw [hl2];show m+1≤9223372036854775807;omega)
     rw [hl2] at hrd
     have HF:=aH (aI hfin2 (aI hrd hb2))
     clear hfin hfin2 hb2 hl2 hrd hinv hblk hlt hzl
     go_wp2_with (go_at_call 212;refine (eA _ _ _ (zs.set m cv) _ HF.out.2.1 HF.out.1.1).mono ?_;rintro e w' ⟨⟨v,rfl,hv⟩,rfl⟩)
     go_ret
     exact ⟨v,rfl,by rw [← HF.out.1.2];exact hv,hb.setCell (by rw [HG.out];exact aR _) _⟩
theorem plus_lt (A:Option Addr) (n c:Nat) (xs:List Nat) (A' : Option Addr) (n' c' : Nat) (ys:List Nat) (w:World) (h:Rd w A n c xs) (h' : Rd w A' n' c' ys)
 (hd:Dig aD xs) (hd' : Dig aD ys) (hn:n≤2199023255552) (hle:n'<n) :
 Calls Tryz.prog 147 #[.slice A' n' c',.slice A n c] w (GivesNt w (val aD xs+val aD ys)):=by
 have HX:=aH (aI h hd)
 have HY:=aH (aI h' hd')
 have hnc:n≤c:=h.cap
 have hcm:c≤9223372036854775807:=h.2.2.1
 have hnc' : n'≤c':=h'.cap
 have hcm' : c'≤9223372036854775807:=h'.2.2.1
 have hle' : n'≤n:=by omega
 obtain ⟨i0,hi,hz0,hz1,hz2⟩:=info_parts eK
 have HI:=aH (aI hi (aI hz0 (aI hz1 hz2)))
 clear h h' hd hd' hi hz0 hz1 hz2
 go_enter Tryz.func147,Tryz.ntmps147
 go_wp2_with (at_make;refine wpList_make_full _ rfl _ _ 100 rfl w.heap.size 151 i0 (.int .u64 0) 1 Tryz.underlying100 HI.out.1 HI.out.2.1 HI.out.2.2.1 _ _ _ _ (n+1) rfl rfl ?b0 ?b1 ?b2 ?b3 (aR _) ?_)
 case b0=>omega
 case b1=>omega
 case b2=>rw [HI.out.2.2.2];omega
 case b3=>show n+1≤9223372036854775807;omega
 intro w1 hown hg1
 have hb1:Below w.heap.size w w1:=(aB _ _).grown hg1 (aR _) (fun k h=>by cases h)
 have hblk:=dR hown
 have e0:AddInv xs ys (List.replicate (n+1) 0) 0 0:=by
  have:=AddInv.start (xs:=xs) (ys:=ys)
  rwa [HX.out.1.len] at this
 have HB:=aH hblk
 have H0:=aH e0
 clear hown hg1 hblk e0
 obtain ⟨g,hg⟩:∃ g,g=w.heap.size:=⟨_,rfl⟩
 rw [← hg] at HB ⊢
 have HG:=aH hg
 clear hg
 go_wp2
 go_loopw [6,23] (fun cy i wr => ∃ (k cv:Nat) (zs:List Nat),k≤n'∧i = .int .i64 (k:Int)∧cy = .int .u64 (cv:Int)∧AddInv xs ys zs k cv∧Blk wr g 151 zs∧Below w.heap.size w wr) (fun _ i _=>n'-(intOf i).toNat)
 case atStart=>exact ⟨0,0,_,Nat.zero_le _,rfl,rfl,H0.out,HB.out,hb1⟩
 case round =>
  obtain ⟨k,cv,zs,hk,rfl,rfl,hinv,hblk,hb⟩:=hrel
  have hcv:cv≤1:=hinv.1
  have hzl:k<zs.length:=by rw [hinv.2.2.1,HX.out.1.len];omega
  have HV:=aH hinv
  by_cases hlt:k<n'
  ·obtain ⟨ad,x,hA,_,hx,hcx⟩:=(HX.out.1.below hb).at_ (k:=k) (by omega)
   obtain ⟨ad',y,hA',_,hy,hcy⟩:=(HY.out.1.below hb).at_ (k:=k) (by omega)
   subst hA
   subst hA'
   obtain ⟨z,hcz⟩:∃ z:Int,wr.cell? ⟨g,k,none⟩=some (.int .u64 z):=⟨_,hblk.cell_get hzl⟩
   have hfz:=hblk.frozen k
   have hadd:=fun w=>fO x y cv hcv w
   have HE:=aH (aI hx (aI hy hblk))
   clear hx hy hinv hblk hzl
   go_wp2
   go_roundw
   case rel=>exact ⟨k+1,(x+y+cv)/aD,zs.set k ((x+y+cv)%aD),by omega,by go_num,rfl,HV.out.step HE.out.1 (by rw [List.getD,HE.out.2.1];rfl) HX.out.2 HY.out.2,HE.out.2.2.set_ _ _,hb.setCell (by rw [HG.out];exact aR _) _⟩
   case measure=>simp [intOf];omega
  ·obtain rfl:k=n':=by omega
   have HBl:=aH hblk
   clear hinv hblk hlt hzl
   go_wp2
   go_loopw [6,9] (fun cy i wr => ∃ (m cv:Nat) (zs:List Nat),m≤n∧k≤m∧i = .int .i64 (m:Int)∧cy = .int .u64 (cv:Int)∧AddInv xs ys zs m cv∧Blk wr g 151 zs∧Below w.heap.size w wr) (fun _ i _=>n-(intOf i).toNat)
   case atStart=>exact ⟨k,cv,zs,by omega,by omega,rfl,rfl,HV.out,HBl.out,hb⟩
   case round =>
    clear hb hcv
    obtain ⟨m,cv,zs,hm,hkm,rfl,rfl,hinv,hblk,hb⟩:=hrel
    have hcv:cv≤1:=hinv.1
    have hzl:m<zs.length:=by rw [hinv.2.2.1,HX.out.1.len];omega
    obtain ⟨z,hcz⟩:∃ z:Int,wr.cell? ⟨g,m,none⟩=some (.int .u64 z):=⟨_,hblk.cell_get hzl⟩
    have hfz:=hblk.frozen m
    have HV:=aH hinv
    by_cases hlt:m<n
    ·obtain ⟨ad,x,hA,_,hx,hcx⟩:=(HX.out.1.below hb).at_ (k:=m) (by omega)
     subst hA
     have hadd:=fun w=>fO x 0 cv hcv w
     simp only [Int.natCast_zero] at hadd
     have HE:=aH (aI hx hblk)
     clear hx hinv hblk hzl
     go_wp2
     go_roundw
     case rel=>exact ⟨m+1,(x+0+cv)/aD,zs.set m ((x+0+cv)%aD),by omega,by omega,by go_num,rfl,HV.out.step HE.out.1 (by rw [List.getD,List.getElem?_eq_none (by rw [HY.out.1.len];omega)];rfl) HX.out.2 HY.out.2,HE.out.2.set_ _ _,hb.setCell (by rw [HG.out];exact aR _) _⟩
     case measure=>simp [intOf];omega
    ·obtain rfl:m=n:=by omega
     have hfin:=HV.out
     rw [← HX.out.1.len] at hfin
     have hfin2:=hfin.finish (by rw [HY.out.1.len,HX.out.1.len];omega)
     rw [HX.out.1.len] at hfin2
     have hb2:=hblk.set_ m cv
     have hl2:(zs.set m cv).length=m+1:=by rw [List.length_set,hinv.2.2.1,HX.out.1.len]
     have hrd:=hb2.rd (by rw [hl2];show m+1≤9223372036854775807;omega)
     rw [hl2] at hrd
     have HF:=aH (aI hfin2 (aI hrd hb2))
     clear hfin hfin2 hb2 hl2 hrd hinv hblk hlt hzl
     go_wp2_with (go_at_call 212;refine (eA _ _ _ (zs.set m cv) _ HF.out.2.1 HF.out.1.1).mono ?_;rintro e w' ⟨⟨v,rfl,hv⟩,rfl⟩)
     go_ret
     exact ⟨v,rfl,by rw [← HF.out.1.2];exact hv,hb.setCell (by rw [HG.out];exact aR _) _⟩
theorem plus_any (A:Option Addr) (n c:Nat) (xs:List Nat) (A' : Option Addr) (n' c' : Nat) (ys:List Nat) (w:World) (h:Rd w A n c xs) (h' : Rd w A' n' c' ys)
 (hd:Dig aD xs) (hd' : Dig aD ys) (hn:n≤2199023255552) (hn' : n'≤2199023255552) :
 Calls Tryz.prog 147 #[.slice A n c,.slice A' n' c'] w (GivesNt w (val aD xs+val aD ys)):=by
 rcases Nat.lt_or_ge n n' with hl|hl
 ·rw [Nat.add_comm]
  exact plus_lt A' n' c' ys A n c xs w h' h hd' hd hn' hl
 ·exact plus_ge A n c xs A' n' c' ys w h h' hd hd' hn (by omega)
def SubInv (xs ys zs:List Nat) (k bw:Nat):Prop :=
 bw≤1∧Dig aD zs∧zs.length=xs.length∧val aD (zs.take k)+val aD (ys.take k)=val aD (xs.take k)+aD^k*bw
theorem SubInv.step {xs ys zs:List Nat} {k bw x y:Nat} (h:SubInv xs ys zs k bw) (hx:xs[k]?=some x) (hy:ys.getD k 0=y) (hdx:Dig aD xs) (hdy:Dig aD ys) :
 SubInv xs ys (zs.set k ((x+aD-y-bw)%aD)) (k+1) (if x<y+bw then 1 else 0):=by
 obtain ⟨h1,h2,h3,h4⟩:=h
 obtain ⟨hk,ex⟩:=List.getElem?_eq_some_iff.1 hx
 have bx:=hdx.at_ hx
 have by' : y<aD:=by rw [← hy];exact hdy.get0 bF k
 have hr:(x+aD-y-bw)%aD<aD:=Nat.mod_lt _ bF
 have hdm:(x+aD-y-bw)%aD+y+bw=x+aD*(if x<y+bw then 1 else 0):=by
  have:=aL
  rw [this] at bx by' ⊢
  split <;> omega
 refine ⟨by split <;> omega,h2.set hr,by simp [h3],?_⟩
 have e1:val aD ((zs.set k ((x+aD-y-bw)%aD)).take (k+1))=val aD (zs.take k)+aD^k*((x+aD-y-bw)%aD):=by
  rw [aF _ _ _ (by simp;omega),List.take_set_of_le (aR _)]
  simp
 have e2:val aD (ys.take (k+1))=val aD (ys.take k)+aD^k*y:=by
  rcases Nat.lt_or_ge k ys.length with hl|hl
  ·rw [aF _ _ _ hl]
   simp [List.getD,List.getElem?_eq_getElem hl] at hy
   rw [hy]
  ·rw [List.take_of_length_le (by omega),List.take_of_length_le hl]
   simp [List.getD,List.getElem?_eq_none hl] at hy
   rw [← hy];simp
 rw [e1,e2,aF _ _ _ hk,ex,Nat.pow_succ]
 generalize (if x<y+bw then 1 else 0)=q at *
 generalize (x+aD-y-bw)%aD=r at *
 generalize aD^k=P at *
 generalize aD=V at *
 grind
theorem SubInv.start {xs ys:List Nat}:SubInv xs ys (List.replicate xs.length 0) 0 0 :=
 ⟨by omega,Dig.replicate bF _,by simp,by simp [val]⟩
theorem SubInv.finish {xs ys zs:List Nat} {bw:Nat} (h:SubInv xs ys zs xs.length bw) (hl:ys.length≤xs.length) (hge:val aD ys≤val aD xs) (hd:Dig aD xs) :
 Dig aD zs∧val aD zs=val aD xs-val aD ys:=by
 obtain ⟨h1,h2,h3,h4⟩:=h
 refine ⟨h2,?_⟩
 rw [List.take_of_length_le (l:=xs) (aR _),List.take_of_length_le (l:=ys) hl,List.take_of_length_le (l:=zs) (by omega)] at h4
 have hz:=bW h2
 have hx:=bW hd
 rw [h3] at hz
 have:bw=0:=by
  rcases Nat.eq_zero_or_pos bw with e|e
  ·exact e
  ·have:bw=1:=by omega
   subst this
   omega
 subst this
 omega
theorem minus_any (A:Option Addr) (n c:Nat) (xs:List Nat) (A' : Option Addr) (n' c' : Nat) (ys:List Nat) (w:World) (h:Rd w A n c xs) (h' : Rd w A' n' c' ys)
 (hd:Dig aD xs) (hd' : Dig aD ys) (hn:n≤2199023255552) (hle' : n'≤n) (hge:val aD ys≤val aD xs) :
 Calls Tryz.prog 220 #[.slice A n c,.slice A' n' c'] w (GivesNt w (val aD xs-val aD ys)):=by
 have HX:=aH (aI h hd)
 have HY:=aH (aI h' (aI hd' hge))
 have hnc:n≤c:=h.cap
 have hcm:c≤9223372036854775807:=h.2.2.1
 have hnc' : n'≤c':=h'.cap
 have hcm' : c'≤9223372036854775807:=h'.2.2.1
 obtain ⟨i0,hi,hz0,hz1,hz2⟩:=info_parts eK
 have HI:=aH (aI hi (aI hz0 (aI hz1 hz2)))
 clear h h' hd hd' hi hz0 hz1 hz2 hge
 go_enter Tryz.func220,Tryz.ntmps220
 go_wp2_with (at_make;refine wpList_make_full _ rfl _ _ 100 rfl w.heap.size 151 i0 (.int .u64 0) 1 Tryz.underlying100 HI.out.1 HI.out.2.1 HI.out.2.2.1 _ _ _ _ n rfl rfl ?b0 ?b1 ?b2 ?b3 (aR _) ?_)
 case b0=>rfl
 case b1=>rfl
 case b2=>rw [HI.out.2.2.2];omega
 case b3=>show n≤9223372036854775807;omega
 intro w1 hown hg1
 have hb1:Below w.heap.size w w1:=(aB _ _).grown hg1 (aR _) (fun k h=>by cases h)
 have hblk:=dR hown
 have e0:SubInv xs ys (List.replicate n 0) 0 0:=by
  have:=SubInv.start (xs:=xs) (ys:=ys)
  rwa [HX.out.1.len] at this
 have HB:=aH hblk
 have H0:=aH e0
 clear hown hg1 hblk e0
 obtain ⟨g,hg⟩:∃ g,g=w.heap.size:=⟨_,rfl⟩
 rw [← hg] at HB ⊢
 have HG:=aH hg
 clear hg
 go_wp2
 go_loopw [6,15] (fun cy i wr => ∃ (k cv:Nat) (zs:List Nat),k≤n'∧i = .int .i64 (k:Int)∧cy = .int .u64 (cv:Int)∧SubInv xs ys zs k cv∧Blk wr g 151 zs∧Below w.heap.size w wr) (fun _ i _=>n'-(intOf i).toNat)
 case atStart=>exact ⟨0,0,_,Nat.zero_le _,rfl,rfl,H0.out,HB.out,hb1⟩
 case round =>
  obtain ⟨k,cv,zs,hk,rfl,rfl,hinv,hblk,hb⟩:=hrel
  have hcv:cv≤1:=hinv.1
  have hzn:zs.length=n:=by rw [hinv.2.2.1,HX.out.1.len]
  have HV:=aH hinv
  by_cases hlt:k<n'
  ·obtain ⟨ad,x,hA,_,hx,hcx⟩:=(HX.out.1.below hb).at_ (k:=k) (by omega)
   obtain ⟨ad',y,hA',_,hy,hcy⟩:=(HY.out.1.below hb).at_ (k:=k) (by omega)
   subst hA
   subst hA'
   obtain ⟨z,hcz⟩:∃ z:Int,wr.cell? ⟨g,k,none⟩=some (.int .u64 z):=⟨_,hblk.cell_get (by omega)⟩
   have hfz:=hblk.frozen k
   have hsub:=fun w=>mP x y cv hcv w
   have HE:=aH (aI hx (aI hy hblk))
   obtain ⟨q,hq⟩:∃ q:Nat,q=if x<y+cv then 1 else 0:=⟨_,rfl⟩
   rw [← hq] at hsub
   have HQ:=aH hq
   clear hx hy hinv hblk hzn hq
   go_wp2
   go_roundw
   case rel=>exact ⟨k+1,q,zs.set k ((x+aD-y-cv)%aD),by omega,by go_num,rfl,by rw [HQ.out];exact HV.out.step HE.out.1 (by rw [List.getD,HE.out.2.1];rfl) HX.out.2 HY.out.2.1,HE.out.2.2.set_ _ _,hb.setCell (by rw [HG.out];exact aR _) _⟩
   case measure=>simp [intOf];omega
  ·obtain rfl:k=n':=by omega
   have HBl:=aH hblk
   clear hinv hblk hlt hzn
   go_wp2
   go_loopw [6,9] (fun cy i wr => ∃ (m cv:Nat) (zs:List Nat),m≤n∧k≤m∧i = .int .i64 (m:Int)∧cy = .int .u64 (cv:Int)∧SubInv xs ys zs m cv∧Blk wr g 151 zs∧Below w.heap.size w wr) (fun _ i _=>n-(intOf i).toNat)
   case atStart=>exact ⟨k,cv,zs,by omega,by omega,rfl,rfl,HV.out,HBl.out,hb⟩
   case round =>
    clear hb hcv
    obtain ⟨m,cv,zs,hm,hkm,rfl,rfl,hinv,hblk,hb⟩:=hrel
    have hcv:cv≤1:=hinv.1
    have hzn:zs.length=n:=by rw [hinv.2.2.1,HX.out.1.len]
    have HV:=aH hinv
    by_cases hlt:m<n
    ·obtain ⟨z,hcz⟩:∃ z:Int,wr.cell? ⟨g,m,none⟩=some (.int .u64 z):=⟨_,hblk.cell_get (by omega)⟩
     have hfz:=hblk.frozen m
     obtain ⟨ad,x,hA,_,hx,hcx⟩:=(HX.out.1.below hb).at_ (k:=m) (by omega)
     subst hA
     have hsub:=fun w=>mP x 0 cv hcv w
     simp only [Int.natCast_zero] at hsub
     have HE:=aH (aI hx hblk)
     obtain ⟨q,hq⟩:∃ q:Nat,q=if x<0+cv then 1 else 0:=⟨_,rfl⟩
     rw [← hq] at hsub
     have HQ:=aH hq
     clear hx hinv hblk hzn hq
     go_wp2
     go_roundw
     case rel=>exact ⟨m+1,q,zs.set m ((x+aD-0-cv)%aD),by omega,by omega,by go_num,rfl,by rw [HQ.out];exact HV.out.step HE.out.1 (by rw [List.getD,List.getElem?_eq_none (by rw [HY.out.1.len];omega)];rfl) HX.out.2 HY.out.2.1,HE.out.2.set_ _ _,hb.setCell (by rw [HG.out];exact aR _) _⟩
     case measure=>simp [intOf];omega
    ·obtain rfl:m=n:=by omega
     have hfin:=HV.out
     rw [← HX.out.1.len] at hfin
     have hfin2:=hfin.finish (by rw [HY.out.1.len,HX.out.1.len];omega) HY.out.2.2 HX.out.2
     have hrd:=hblk.rd (by rw [hzn];show m≤9223372036854775807;omega)
     rw [hzn] at hrd
     have HF:=aH (aI hfin2 hrd)
     clear hfin hfin2 hzn hrd hinv hblk hlt
     go_wp2_with (go_at_call 212;refine (eA _ _ _ zs _ HF.out.2 HF.out.1.1).mono ?_;rintro e w' ⟨⟨v,rfl,hv⟩,rfl⟩)
     go_ret
     exact ⟨v,rfl,by rw [← HF.out.1.2];exact hv,hb⟩
def B9:Nat:=1000000000
theorem cN:B9=1000000000:=rfl
theorem dN:1<B9:=by unfold B9;omega
theorem cB:0<B9:=by unfold B9;omega
def dY (n:Nat):Value := .int .i64 (n:Int)
def Ri (w:World) (A:Option Addr) (n c:Nat) (xs:List Nat):Prop :=
 xs.length=n∧n≤c∧c≤maxLen∧(0<n→∃ ad,A=some ad∧ad.block<w.heap.size∧∀ (j x:Nat),xs[j]?=some x→w.cell? (ad.add j)=some (.int .i64 (x:Int)))
section
variable {w w' : World} {A:Option Addr} {n c:Nat} {xs:List Nat}
theorem Ri.len (h:Ri w A n c xs):xs.length=n:=h.1
theorem Ri.cap (h:Ri w A n c xs):n≤c:=h.2.1
theorem Ri.at_ (h:Ri w A n c xs) {k:Nat} (hk:k<n) :
 ∃ ad x,A=some ad∧ad.block<w.heap.size∧xs[k]?=some x∧w.cell? (ad.add k)=some (.int .i64 (x:Int)):=by
 obtain ⟨ad,e,hb,hc⟩:=h.2.2.2 (by omega)
 have hl:k<xs.length:=by have:=h.1;omega
 exact ⟨ad,xs[k],e,hb,List.getElem?_eq_getElem hl,hc k _ (List.getElem?_eq_getElem hl)⟩
theorem Ri.below (h:Ri w A n c xs) (hb:Below w.heap.size w w'):Ri w' A n c xs:=by
 refine ⟨h.1,h.2.1,h.2.2.1,fun hn=>?_⟩
 obtain ⟨ad,e,hl,hc⟩:=h.2.2.2 hn
 have:=hb.size
 exact ⟨ad,e,by omega,fun j x hx=>(hb.cell (p:=ad.add j) (by rw [bK];exact hl)).trans (hc j x hx)⟩
theorem Ri.nil:Ri w none 0 0 []:=⟨rfl,aR _,Nat.zero_le _,fun h=>absurd h (by omega)⟩
theorem Ri.take (h:Ri w A n c xs) {k:Nat} (hk:k≤n):Ri w A k c (xs.take k):=by
 refine ⟨by rw [List.length_take,h.1];omega,Nat.le_trans hk h.2.1,h.2.2.1,fun hp=>?_⟩
 obtain ⟨ad,e,hl,hc⟩:=h.2.2.2 (by omega)
 refine ⟨ad,e,hl,fun j x hx=>hc j x ?_⟩
 rw [List.getElem?_take] at hx
 split at hx
 ·exact hx
 ·cases hx
end
def Bi (w:World) (g:Nat) (t:TypeId) (ys:List Nat):Prop:=w.heap[g]?=some (.cells (ys.map dY).toArray t (0,0))
section
variable {w w' : World} {g:Nat} {t:TypeId} {ys:List Nat}
theorem Bi.lt (h:Bi w g t ys):g<w.heap.size:=by
 unfold Bi at h
 rcases Nat.lt_or_ge g w.heap.size with hlt|hge
 ·exact hlt
 ·rw [Array.getElem?_eq_none hge] at h;cases h
theorem Bi.cell (h:Bi w g t ys) {i x:Nat} (hx:ys[i]?=some x):w.cell? ⟨g,i,none⟩=some (.int .i64 (x:Int)):=by
 unfold Bi at h
 simp [World.cell?,h,hx,dY]
theorem Bi.cell_get (h:Bi w g t ys) {i:Nat} (hi:i<ys.length):w.cell? ⟨g,i,none⟩=some (.int .i64 ((ys[i]:Nat):Int)):=h.cell (List.getElem?_eq_getElem hi)
theorem Bi.frozen (h:Bi w g t ys) (i:Nat):w.frozen? ⟨g,i,none⟩=false:=by
 unfold Bi at h
 simp [World.frozen?,h]
theorem Bi.set_ (h:Bi w g t ys) (i x:Nat):Bi (w.setCell ⟨g,i,none⟩ (.int .i64 (x:Int))) g t (ys.set i x):=by
 unfold Bi at h ⊢
 simp only [World.setCell,Array.getElem?_modify,h]
 simp [List.map_set,dY]
theorem Bi.drew (h:Bi w g t ys):Bi w.drew g t ys:=h
theorem Bi.drewN (h:Bi w g t ys) (k:Nat):Bi (w.drewN k) g t ys:=h
theorem Bi.alloc (h:Bi w g t ys) (o:Obj):Bi (w.alloc o) g t ys:=(Below.heap_alloc w o g h.lt).trans h
theorem Bi.far (h:Bi w g t ys) {p:Addr} (hp:g≠p.block) (u:Value):Bi (w.setCell p u) g t ys:=(Below.heap_setCell w p u g hp).trans h
theorem Bi.below {B:Nat} (h:Bi w g t ys) (hb:Below B w w') (hg:g<B):Bi w' g t ys:=(hb.block g hg).trans h
theorem Bi.rd (h:Bi w g t ys) (hm:ys.length≤maxLen):Ri w (some ⟨g,0,none⟩) ys.length ys.length ys:=by
 refine ⟨rfl,aR _,hm,fun _=>⟨_,rfl,h.lt,fun j x hx=>?_⟩⟩
 have:(⟨g,0,none⟩:Addr).add j=⟨g,j,none⟩:=by unfold Addr.add;split <;> simp_all
 rw [this]
 exact h.cell hx
theorem Bi.of_own {base e n:Nat} {xs:List Value} (h:w.ownsRow base e 1 (.slice (some ⟨g,0,none⟩) n n) n xs) (hx:xs=ys.map dY):Bi w g e ys:=by
 obtain ⟨h1,h2|⟨g',cap,cur,hv,_,hh,_,_,hs,ht⟩⟩:=h
 ·obtain ⟨hv,_⟩:=h2
  injection hv with hv
  cases hv
 ·injection hv with hv _ hc
  injection hv with hv
  injection hv with hv
  subst hc
  subst hv
  unfold Bi
  rw [hh]
  have:cur.toList=xs:=by
   rw [← ht,List.take_of_length_le]
   simp [hs]
  have e2:cur=(ys.map dY).toArray:=by rw [← hx,← this]
  rw [e2]
end
def In (w:World) (v:Value) (z:Int):Prop :=
 ∃ A n c xs,v = .agg #[.bool (decide (z<0)),.slice A n c]∧Ri w A n c xs∧Dig B9 xs∧Norm xs∧val B9 xs=z.natAbs
def TrimI (xs:List Nat) (k:Nat):Prop:=k≤xs.length∧Norm (xs.take k)∧val B9 (xs.take k)=val B9 xs
theorem trim_raw (A:Option Addr) (n c:Nat) (xs:List Nat) (w:World) (h:Ri w A n c xs) :
 Calls Tryz.prog 222 #[.slice A n c] w fun e w'=>Hid (∃ k,TrimI xs k∧e = .returned (.slice A k c))∧w=w':=by
 have HR:=aH h
 have hnc:n≤c:=h.cap
 have hcm:c≤9223372036854775807:=h.2.2.1
 clear h
 go_enter Tryz.func222,Tryz.ntmps222
 go_wp2
 go_loop [0] (fun v => ∃ k:Nat,k≤n∧val B9 (xs.take k)=val B9 xs∧v = .slice A k c) (fun v=>lenOf v)
 case atStart=>exact ⟨n,aR _,by rw [List.take_of_length_le (by rw [HR.out.len];omega)],rfl⟩
 case round =>
  obtain ⟨k,hk,hv,rfl⟩:=hrel
  have HV:=aH hv
  clear hv
  by_cases hk0:0<k
  ·obtain ⟨ad,x,rfl,_hb,hx,hcell⟩:=HR.out.at_ (k:=k-1) (by omega)
   have HX:=aH hx
   clear hx
   go_wp2
   ·have h0 : x = 0 := by have:((x:Int)==0)=true:=by assumption
                          simpa using this
    subst h0
    refine ⟨⟨k-1,by omega,?_,rfl⟩,by simp only [lenOf];omega⟩
    have hlt:k-1<xs.length:=by rw [HR.out.len];omega
    have hz:xs[k-1]=0:=by have:=HX.out;rw [List.getElem?_eq_getElem hlt] at this;injection this
    have:=qB B9 hlt hz
    rw [show k-1+1=k from by omega] at this
    rw [← this];exact HV.out
   ·have h0:((x:Int)==0)=false:=by assumption
    go_ret
    refine ⟨⟨k,⟨by rw [HR.out.len];exact hk,aAl (by rw [HR.out.len];exact hk) (fun _=>?_),HV.out⟩,rfl⟩,rfl⟩
    rw [HX.out]
    intro e
    injection e with e
    subst e
    simp at h0
  ·have hz:decide (0<(k:Int))=false:=by simp;omega
   have hk00:k=0:=by omega
   have HK:=aH hk00
   clear hk00
   go_wp2
   go_ret
   refine ⟨⟨k,⟨by omega,?_,HV.out⟩,rfl⟩,rfl⟩
   rw [HK.out]
   simpa using Norm.nil
end
namespace Pl
open Go
def AllDig (l:List UInt8):Prop := ∀ c∈l,48≤c.toNat∧c.toNat≤57
def digStep (a:Nat) (c:UInt8):Nat:=a*10+(c.toNat-48)
def gO (acc:Nat) (l:List UInt8):Nat:=l.foldl digStep acc
def aU (l:List UInt8):Nat:=gO 0 l
theorem dU (acc:Nat):gO acc []=acc:=by unfold gO;rw [List.foldl_nil]
theorem eB (acc:Nat) (c:UInt8) (r:List UInt8):gO acc (c::r)=gO (acc*10+(c.toNat-48)) r:=by unfold gO;rw [List.foldl_cons,digStep]
theorem acc_alg (a d T n:Nat):(a*10+d)*T+n=a*(T*10)+(d*T+n):=by grind
theorem aAm (l:List UInt8):∀ acc,gO acc l=acc*10^l.length+gO 0 l:=by
 induction l with
 | nil=>intro acc;rw [dU,dU,List.length_nil,Nat.pow_zero,Nat.mul_one,Nat.add_zero]
 | cons c r ih =>
   intro acc
   rw [eB,eB,ih,ih (0*10+(c.toNat-48)),Nat.zero_mul,Nat.zero_add,List.length_cons,Nat.pow_succ]
   exact acc_alg _ _ _ _
theorem mQ (c:UInt8) (r:List UInt8):aU (c::r)=(c.toNat-48)*10^r.length+aU r:=by
 unfold aU
 rw [eB,aAm,Nat.zero_mul,Nat.zero_add]
theorem fB (l r:List UInt8):aU (l++r)=aU l*10^r.length+aU r:=by
 have key:∀ acc,gO acc (l++r)=gO (gO acc l) r:=by
  induction l with
  | nil=>intro acc;rw [dU,List.nil_append]
  | cons c l ih=>intro acc;rw [List.cons_append,eB,eB];exact ih _
 unfold aU
 rw [key,aAm r (gO 0 l)]
theorem fW {l:List UInt8} (h:AllDig l):aU l<10^l.length:=by
 induction l with
 | nil=>rw [aU,dU,List.length_nil,Nat.pow_zero];omega
 | cons c r ih =>
   have hc:=h c (by simp)
   have hr:=ih (fun x hx=>h x (by simp [hx]))
   rw [mQ,List.length_cons,Nat.pow_succ]
   generalize aU r=n at *
   generalize 10^r.length=T at *
   have:(c.toNat-48)*T≤9*T:=Nat.mul_le_mul_right _ (by omega)
   omega
theorem AllDig.take {l:List UInt8} (h:AllDig l) (n:Nat):AllDig (l.take n):=fun c hc=>h c (List.mem_of_mem_take hc)
theorem AllDig.drop {l:List UInt8} (h:AllDig l) (n:Nat):AllDig (l.drop n):=fun c hc=>h c (List.mem_of_mem_drop hc)
theorem qC:∀ (l:List UInt8) (acc:Nat),AllDig l→(acc+1)*10^l.length≤10000000000000000000→Lib.parseUintM (2^64-1) acc l = .ok (gO acc l)
 | [],acc,_,_=>by rw [dU];rfl
 | c :: r,acc,h,hb=>by
   have hc:=h c (by simp)
   rw [List.length_cons,Nat.pow_succ] at hb
   have hp:1≤10^r.length:=Nat.one_le_pow _ _ (by omega)
   have h1:(acc+1)*10≤10000000000000000000:=by
    have:(acc+1)*10≤(acc+1)*(10^r.length*10):=Nat.mul_le_mul_left _ (by omega)
    omega
   have h2:(acc*10+(c.toNat-48)+1)*10^r.length≤10000000000000000000:=by
    have:(acc*10+(c.toNat-48)+1)*10^r.length≤(acc+1)*10*10^r.length:=Nat.mul_le_mul_right _ (by omega)
    have e:(acc+1)*10*10^r.length=(acc+1)*(10^r.length*10):=by rw [Nat.mul_assoc,Nat.mul_comm 10]
    omega
   unfold Lib.parseUintM
   rw [if_pos hc,if_neg (by omega),if_neg (by omega),eB]
   exact qC r _ (fun x hx=>h x (by simp [hx])) h2
theorem parseUint_ok {l:List UInt8} (h:AllDig l) (h0:l≠[]) (hl:l.length≤19):Lib.parseUintB 64 l = .ok (aU l):=by
 unfold Lib.parseUintB
 rw [if_neg h0]
 refine qC l 0 h ?_
 have:10^l.length≤10^19:=Nat.pow_le_pow_right (by omega) hl
 omega
theorem cF (n:Nat):aU (Lib.decDigits n)=n∧AllDig (Lib.decDigits n)∧Lib.decDigits n≠[]:=by
 induction n using Nat.strongRecOn with
 | ind n ih =>
   rw [Lib.decDigits]
   have hd:∀ d:Nat,d<10→(UInt8.ofNat (48+d)).toNat=48+d:=fun d hd=>by
    rw [UInt8.toNat_ofNat'];omega
   split
   ·rename_i h
    refine ⟨?_,?_,by simp⟩
    ·rw [aU,eB,dU,hd n h];omega
    ·intro c hc
     simp only [List.mem_singleton] at hc
     subst hc
     rw [hd n h];omega
   ·rename_i h
    obtain ⟨i1,i2,i3⟩:=ih (n/10) (by omega)
    refine ⟨?_,?_,by simp⟩
    ·rw [fB,i1]
     rw [List.length_singleton,Nat.pow_one,aU,eB,dU,hd _ (by omega)];omega
    ·intro c hc
     rcases List.mem_append.1 hc with hc|hc
     ·exact i2 c hc
     ·simp only [List.mem_singleton] at hc
      subst hc
      rw [hd _ (by omega)];omega
theorem xG {l r:List UInt8} (h:l≠[]):(l++r).head?=l.head?:=by
 cases l with
 | nil=>exact absurd rfl h
 | cons c l=>rfl
theorem cT {n:Nat} (h:n<10):Lib.decDigits n = [UInt8.ofNat (48+n)]:=by rw [Lib.decDigits,dif_pos h]
theorem eL {n:Nat} (h:¬ n<10):Lib.decDigits n=Lib.decDigits (n/10) ++ [UInt8.ofNat (48+n%10)]:=by rw [Lib.decDigits,dif_neg h]
theorem xH {c:UInt8} (h:48≤c.toNat∧c.toNat≤57) {d:Nat} (hd:d=c.toNat-48):UInt8.ofNat (48+d)=c:=by
 apply UInt8.toNat_inj.1
 rw [UInt8.toNat_ofNat']
 omega
theorem xI (l:List UInt8) (c:UInt8):aU (l ++ [c])=aU l*10+(c.toNat-48):=by
 rw [fB,List.length_singleton,Nat.pow_one,mQ,List.length_nil,Nat.pow_zero,Nat.mul_one,aU,aU,dU,Nat.add_zero]
theorem natOf_nil:aU []=0:=dU 0
theorem natOf_pos {l:List UInt8} (h:AllDig l) (h0:l≠[]) (hh:l.head?≠some 48):0<aU l:=by
 match l,h0 with
 | c :: r,_ =>
   rw [mQ]
   have hc:=h c (by simp)
   have hne:c.toNat≠48:=fun e=>hh (by
    rw [List.head?_cons]
    exact congrArg some (UInt8.toNat_inj.1 (by rw [e];rfl)))
   have:1*1≤(c.toNat-48)*10^r.length:=Nat.mul_le_mul (by omega) (Nat.pow_pos (by omega))
   omega
theorem aAn (n:Nat):∀ l:List UInt8,l.length=n→AllDig l→l≠[]→(l.length=1∨l.head?≠some 48)→Lib.decDigits (aU l)=l:=by
 induction n with
 | zero=>intro l hl _ h0;exact absurd (List.eq_nil_of_length_eq_zero hl) h0
 | succ n ih =>
   intro l hl hd h0 hh
   obtain ⟨r,c,rfl⟩:∃ r c,l=r ++ [c]:=⟨l.dropLast,l.getLast h0,(List.dropLast_concat_getLast h0).symm⟩
   have hc:=hd c (by simp)
   rw [xI]
   by_cases hr:r = []
   ·subst hr
    rw [natOf_nil,Nat.zero_mul,Nat.zero_add,cT (by omega),xH hc rfl,List.nil_append]
   ·have hr1:AllDig r:=fun x hx=>hd x (by simp [hx])
    have hlen:r.length=n:=by simpa using hl
    have hh2:r.head?≠some 48:=by
     rcases hh with hh|hh
     ·rw [List.length_append,List.length_singleton] at hh
      exact absurd (List.eq_nil_of_length_eq_zero (by omega)) hr
     ·rwa [xG hr] at hh
    have hp:=natOf_pos hr1 hr hh2
    rw [eL (by omega),show (aU r*10+(c.toNat-48))/10=aU r from by omega,show (aU r*10+(c.toNat-48))%10=c.toNat-48 from by omega,
     ih r hlen hr1 hr (.inr hh2),xH hc rfl]
theorem xJ {n:Nat} (h:0<n):(Lib.decDigits n).head?≠some 48:=by
 induction n using Nat.strongRecOn with
 | ind n ih =>
   by_cases hn:n<10
   ·rw [cT hn,List.head?_cons]
    intro e
    injection e with e
    have:=congrArg UInt8.toNat e
    rw [UInt8.toNat_ofNat'] at this
    have h48:(48:UInt8).toNat=48:=rfl
    omega
   ·rw [eL hn,xG (cF _).2.2]
    exact ih _ (by omega) (by omega)
theorem kX (k:Nat):∀ w,w<10^(k+1)→(Lib.decDigits w).length≤k+1:=by
 induction k with
 | zero=>intro w h;rw [cT (by omega)];simp
 | succ k ih =>
   intro w h
   by_cases hw:w<10
   ·rw [cT hw,List.length_singleton];omega
   ·rw [eL hw,List.length_append,List.length_singleton]
    have:=ih (w/10) (by rw [Nat.pow_succ] at h;omega)
    omega
theorem natOf_zeros (k:Nat) (l:List UInt8):aU (List.replicate k 48++l)=aU l:=by
 induction k with
 | zero=>simp
 | succ k ih =>
   rw [List.replicate_succ,List.cons_append,mQ,ih]
   have:((48:UInt8).toNat-48)=0:=rfl
   rw [this,Nat.zero_mul,Nat.zero_add]
theorem dec_chunk {q w:Nat} (hq:0<q) (hw:w<10000000000000000000):(Lib.decDigits w).length≤19 ∧
 Lib.decDigits (q*10000000000000000000+w)=Lib.decDigits q++(List.replicate (19-(Lib.decDigits w).length) 48++Lib.decDigits w):=by
 have hl:(Lib.decDigits w).length≤19:=kX 18 w hw
 obtain ⟨q1,q2,q3⟩:=cF q
 obtain ⟨w1,w2,w3⟩:=cF w
 refine ⟨hl,?_⟩
 have hlen:(List.replicate (19-(Lib.decDigits w).length) (48:UInt8)++Lib.decDigits w).length=19:=by rw [List.length_append,List.length_replicate];omega
 have hval:aU (Lib.decDigits q++(List.replicate (19-(Lib.decDigits w).length) 48++Lib.decDigits w))=q*10000000000000000000+w:=by
  rw [fB,hlen,natOf_zeros,q1,w1]
 rw [← hval]
 refine aAn _ _ rfl ?_ (by simp [q3]) (.inr ?_)
 ·intro c hc
  rcases List.mem_append.1 hc with hc|hc
  ·exact q2 c hc
  ·rcases List.mem_append.1 hc with hc|hc
   ·rw [List.mem_replicate] at hc
    rw [hc.2]
    exact ⟨by decide,by decide⟩
   ·exact w2 c hc
 ·rw [xG q3]
  exact xJ hq
theorem xK {a k:Nat} (h:a<10^(k+1)):(Lib.decDigits a).length≤k+1:=kX k a h
end Pl
namespace Ab
open Go.RowKit
def hotObj (K:Obj→Bool) (o:Obj):Bool:=K o
structure Ext (K:Obj→Bool) (w w' : World):Prop where
 size:w.heap.size≤w'.heap.size
 block:∀ (g:Nat) (o:Obj),w.heap[g]?=some o→hotObj K o=true→w'.heap[g]?=some o
theorem lt_of_block {w:World} {g:Nat} {o:Obj} (h:w.heap[g]?=some o):g<w.heap.size:=by
 rcases Nat.lt_or_ge g w.heap.size with hlt|hge
 ·exact hlt
 ·rw [Array.getElem?_eq_none hge] at h;cases h
theorem Ext.trans {K:Obj→Bool} {a b c:World} (h:Ext K a b) (h' : Ext K b c):Ext K a c:=⟨Nat.le_trans h.size h'.size,fun g o hg ho=>h'.block g o (h.block g o hg ho) ho⟩
theorem Ext.of_below {K:Obj→Bool} {w w' : World} (h:Below w.heap.size w w'):Ext K w w':=⟨h.size,fun g _ hg _=>(h.block g (lt_of_block hg)).trans hg⟩
abbrev Sp:=Value→World→Prop
def Stable (K:Obj→Bool) (S:Sp):Prop := ∀ v w w',S v w→Ext K w w'→S v w'
def StableO (K:Obj→Bool) (S:Obj→World→Prop):Prop := ∀ v w w',S v w→Ext K w w'→S v w'
def Sp.is (u:Value):Sp:=fun v _=>v=u
theorem Sp.is_stable (K:Obj→Bool) (u:Value):Stable K (Sp.is u):=fun _ _ _ h _=>h
inductive Kd where
 | val (S:Sp)
 | new (o:Obj)
 | put (d:Tmp) (S:Obj→World→Prop)
 | old (g:Nat) (S:Obj→World→Prop)
structure Ent where
 dst:Option Tmp
 kd:Kd
def isVar (B:Nat):Sp:=fun v w => ∃ g,v = .pointer (some ⟨g,0,none⟩)∧B≤g∧g<w.heap.size
def Kd.spec (B:Nat):Kd→Sp
 | .val S=>S
 | .new _=>isVar B
 | _=>fun _ _=>True
def specOf (a0:Act) (B:Nat) (t:Tmp):List Ent→Sp
 | []=>fun v _=>v=a0.eval (.tmp t)
 | e::g=>if e.dst=some t then e.kd.spec B else specOf a0 B t g
def known (a0:Act) (B:Nat) (g:List Ent) (A:Act) (w:World):List Tmp→Prop
 | []=>True
 | t::l=>specOf a0 B t g (A.eval (.tmp t)) w∧known a0 B g A w l
theorem known_iff {a0:Act} {B:Nat} {g:List Ent} {A:Act} {w:World} {l:List Tmp}:known a0 B g A w l↔∀ t∈l,specOf a0 B t g (A.eval (.tmp t)) w:=by
 induction l with
 | nil=>simp [known]
 | cons t l ih=>simp [known,ih]
structure Base (T:List Nat) (w0 w:World):Prop where
 os:w.os=w0.os
 tape:w.tape=w0.tape
 output:w.output=w0.output
 size:w0.heap.size≤w.heap.size
 block:∀ k,k<w0.heap.size→k∉T→w.heap[k]?=w0.heap[k]?
theorem Base.below {w0 w:World} (h:Base [] w0 w):Below w0.heap.size w0 w:=⟨h.os,h.tape,h.output,h.size,fun k hk=>h.block k hk (by simp)⟩
theorem Base.step {T:List Nat} {w0 w w' : World} (h:Base T w0 w) (h' : Below w.heap.size w w'):Base T w0 w' :=
 ⟨h'.os.trans h.os,h'.tape.trans h.tape,h'.output.trans h.output,Nat.le_trans h.size h'.size,fun k hk hT=>(h'.block k (Nat.lt_of_lt_of_le hk h.size)).trans (h.block k hk hT)⟩
structure Turned (g:Nat) (o:Obj) (w w' : World):Prop where
 os:w'.os=w.os
 tape:w'.tape=w.tape
 output:w'.output=w.output
 size:w'.heap.size=w.heap.size
 at_:w'.heap[g]?=some o
 block:∀ k,k≠g→w'.heap[k]?=w.heap[k]?
theorem Turned.ext {K:Obj→Bool} {g:Nat} {o o0:Obj} {w w' : World} (h:Turned g o w w') (h0:w.heap[g]?=some o0) (hc:hotObj K o0=false):Ext K w w':=by
 refine ⟨by rw [h.size];exact aR _,fun k o' hk ho=>?_⟩
 by_cases e:k=g
 ·subst e
  rw [h0] at hk
  injection hk with hk
  subst hk
  rw [hc] at ho
  cases ho
 ·rw [h.block k e];exact hk
def TyPost (w:World) (S:Sp) (e:Ending) (w'' : World):Prop := ∃ v,e = .returned v∧Below w.heap.size w w''∧S v w''
def tyUpon (P:Program) (w:World) (S:Sp):Result Next→Prop
 | .ok (.value u) w'=>Below w.heap.size w w'∧S u w'
 | .ok .skip w'=>Below w.heap.size w w'∧S undef w'
 | .ok (.enter f args) w'=>w'=w∧Calls P f args w (TyPost w S)
 | _=>False
def putUpon (g:Nat) (w:World) (S:Obj→World→Prop):Result Next→Prop
 | .ok (.value _) w' => ∃ o,Turned g o w w'∧S o w
 | .ok .skip w' => ∃ o,Turned g o w w'∧S o w
 | _=>False
def putOf (e:Ent):Option Tmp:=match e.dst,e.kd with|none,.put d _=>some d|_,_=>none
def oldOf (e:Ent):Option Nat:=match e.dst,e.kd with|none,.old k _=>some k|_,_=>none
def onceB (G:List Ent):Bool:=decide ((G.filterMap putOf).Nodup)&&decide ((G.filterMap oldOf).Nodup)
structure View (K:Obj→Bool) (T:List Nat) (E:Nat→Nat→Bool) (w0:World) (i:Nat) (w:World):Prop where
 base:Base T w0 w
 ext:Ext K w0 w
 early:∀ (k b:Nat),E i k=true→T[k]?=some b→w.heap[b]?=w0.heap[b]?
def xL (md:Region.Mode) (ops:Array Oper) (E:Nat→Nat→Bool) (G:List Ent):Bool :=
 (List.range ops.size).all fun j=>match (G[j]?).bind oldOf with
  | some k=>(List.range ops.size).all fun i => !E i k || i==j || (ops[j]?).any fun o=>o.after.any fun e=>Region.binds md e&&e.on==i
  | none=>true
section
variable (P:Program) (ops:Array Oper) (K:Obj→Bool) (T:List Nat) (E:Nat→Nat→Bool) (w0:World) (a0:Act)
def Oblig (g:List Ent) (o:Oper):Kd→Prop
 | .val S=>Stable K S∧∀ (A:Act) (w:World),View K T E w0 g.length w→known a0 w0.heap.size g A w (o.looksAt ops) →
  (Region.wanted o (yielded ops A.tmps)=true∧tyUpon P w S ((execOp A.eval o).run P w))∨(Region.wanted o (yielded ops A.tmps)=false∧S undef w)
 | .new o0=>hotObj K o0=false∧o.guard=none∧o.dst.isSome=true∧∀ (A:Act) (w:World),(execOp A.eval o).run P w = .ok (.value (.pointer (some ⟨w.heap.size,0,none⟩))) (w.alloc o0)
 | .put d S=>o.dst=none∧o.guard=none∧d∈o.looksAt ops∧StableO K S∧∃ o0,(⟨some d,.new o0⟩:Ent)∈g ∧
  ∀ (A:Act) (w:World) (b:Nat),View K T E w0 g.length w→known a0 w0.heap.size g A w (o.looksAt ops)→A.eval (.tmp d) = .pointer (some ⟨b,0,none⟩)→w.heap[b]?=some o0→putUpon b w S ((execOp A.eval o).run P w)
 | .old k S=>o.dst=none∧o.guard=none∧StableO K S∧∃ b o0,T[k]?=some b∧w0.heap[b]?=some o0∧hotObj K o0=false ∧
  ∀ (A:Act) (w:World),View K T E w0 g.length w→known a0 w0.heap.size g A w (o.looksAt ops)→w.heap[b]?=some o0→putUpon b w S ((execOp A.eval o).run P w)
def frameOf:List Ent→(Tmp→Value)→Act
 | [],_=>a0
 | e::g,f=>match e.dst with
   | some d=>(frameOf g f).put (some d) (f d)
   | none=>frameOf g f
def Final1 (G:List Ent) (f:Tmp→Value) (w:World) (e:Ent):Prop :=
 match e.dst,e.kd with
 | some d,.val S=>S (f d) w
 | some d,.new o0 => ∃ b,f d = .pointer (some ⟨b,0,none⟩)∧w0.heap.size≤b∧b<w.heap.size∧((∀ S,(⟨none,.put d S⟩:Ent)∉G)→w.heap[b]?=some o0)∧(∀ S,(⟨none,.put d S⟩:Ent)∈G→∃ o,S o w∧w.heap[b]?=some o)
 | _,.old k S => ∃ b o,T[k]?=some b∧S o w∧w.heap[b]?=some o
 | _,_=>True
def Still (G:List Ent) (w:World):Prop := ∀ (k b:Nat),T[k]?=some b→(∀ S,(⟨none,.old k S⟩:Ent)∉G)→w.heap[b]?=w0.heap[b]?
def Apart (G:List Ent) (f:Tmp→Value):Prop := ∀ d d' o o',(⟨some d,.new o⟩:Ent)∈G→(⟨some d',.new o'⟩:Ent)∈G→d≠d'→f d≠f d'
def wpTy (Q:Act→World→Prop):List Oper→List Ent→Prop
 | [],g=>onceB g=true∧xL .any ops E g.reverse=true∧∀ (f:Tmp→Value) (w:World),Base T w0 w→Ext K w0 w→(∀ e∈g,Final1 T w0 g f w e)→Still T w0 g w→Apart g f→Q (frameOf a0 g f) w
 | o::rest,g => ∃ k,Oblig P ops K T E w0 a0 g o k∧wpTy Q rest (⟨o.dst,k⟩::g)
end
def Region.tyB (md:Region.Mode) (ops:Array Oper) (n:Nat):Bool :=
 Region.noSelect ops&&(List.range ops.size).all fun i=>(ops[i]?).all fun o =>
  (o.after.all fun e => !Region.binds md e || decide (e.on<i)) &&
  (match o.dst with|some d=>decide (d<n)&&(List.range ops.size).all (fun j=>j==i || (ops[j]?).all fun o'=>o'.dst != some d)|none=>true) &&
  (o.looksAt ops).all fun t=>(List.range ops.size).all fun j=>(ops[j]?).all fun o'=>o'.dst != some t || (decide (j<i)&&o.after.any fun e=>Region.binds md e&&e.on==j)
section
variable {P:Program} {ops:Array Oper} {K:Obj→Bool} {T:List Nat} {E:Nat→Nat→Bool} {w0:World} {a0:Act} {md:Region.Mode}
theorem specOf_of {B:Nat} {t:Tmp} {v:Value} {w:World} {g:List Ent} (h1:∀ e∈g,e.dst=some t→e.kd.spec B v w) (h2:(∀ e∈g,e.dst≠some t)→v=a0.eval (.tmp t)):specOf a0 B t g v w:=by
 induction g with
 | nil=>exact h2 (fun _ h=>by cases h)
 | cons e g ih =>
   simp only [specOf]
   split
   ·rename_i he
    exact h1 e (by simp) he
   ·rename_i he
    refine ih (fun e' he'=>h1 e' (by simp [he'])) (fun hn=>h2 (fun e' he'=>?_))
    rcases List.mem_cons.1 he' with rfl|he'
    ·exact he
    ·exact hn e' he'
def lst (listed:Array Bool) (i:Nat):Prop:=listed.getD i true=true
theorem lst_set {listed:Array Bool} {i j:Nat} (hi:i<listed.size):lst (listed.setIfInBounds i true) j↔(j=i∨lst listed j):=by
 unfold lst
 simp only [Array.getD_eq_getD_getElem?,Array.getElem?_setIfInBounds]
 by_cases h:i=j
 ·subst h;simp [hi]
 ·simp only [h,if_false]
  constructor
  ·intro h';exact .inr h'
  ·rintro (rfl|h')
   ·exact absurd rfl h
   ·exact h'
structure Inv (ops:Array Oper) (K:Obj→Bool) (T:List Nat) (w0:World) (a0:Act) (md:Region.Mode) (G:List Ent) (listed:Array Bool) (f:Tmp→Value) (a:Act) (w:World):Prop where
 lsize:listed.size=ops.size
 defers:a.defers=a0.defers
 tsize:a.tmps.size=a0.tmps.size
 hit:∀ (i:Nat) (o:Oper) d,ops[i]?=some o→lst listed i→o.dst=some d→a.eval (.tmp d)=f d
 miss:∀ t,(∀ (i:Nat) (o:Oper),ops[i]?=some o→o.dst≠some t)→a.eval (.tmp t)=a0.eval (.tmp t)
 closed:∀ (i:Nat) (o:Oper),ops[i]?=some o→lst listed i→∀ e∈o.after,Region.binds md e=true→lst listed e.on
 base:Base T w0 w
 ext:Ext K w0 w
 vals:∀ (i:Nat) d S,G[i]?=some ⟨some d,.val S⟩→lst listed i→S (f d) w
 news:∀ (i:Nat) d o0,G[i]?=some ⟨some d,.new o0⟩→lst listed i→∃ b,f d = .pointer (some ⟨b,0,none⟩)∧w0.heap.size≤b∧b<w.heap.size ∧
  ((∀ (j:Nat) S,G[j]?=some ⟨none,.put d S⟩→¬ lst listed j)→w.heap[b]?=some o0)∧(∀ (j:Nat) S,G[j]?=some ⟨none,.put d S⟩→lst listed j→∃ o,S o w∧w.heap[b]?=some o)
 olds:∀ (j k b:Nat) S,G[j]?=some ⟨none,.old k S⟩→T[k]?=some b→lst listed j→∃ o,S o w∧w.heap[b]?=some o
 still:∀ (k b:Nat),T[k]?=some b→(∀ (j:Nat) S,G[j]?=some ⟨none,.old k S⟩→¬ lst listed j)→w.heap[b]?=w0.heap[b]?
 apart:∀ (i i' : Nat) d d' o o',G[i]?=some ⟨some d,.new o⟩→G[i']?=some ⟨some d',.new o'⟩→lst listed i→lst listed i'→d≠d'→f d≠f d'
structure Walked (P:Program) (ops:Array Oper) (K:Obj→Bool) (T:List Nat) (E:Nat→Nat→Bool) (w0:World) (a0:Act) (md:Region.Mode) (G:List Ent):Prop where
 len:G.length=ops.size
 each:∀ (i:Nat) (o:Oper),ops[i]?=some o→∃ k,G[i]?=some ⟨o.dst,k⟩∧Oblig P ops K T E w0 a0 (G.take i).reverse o k
 form:Region.tyB md ops a0.tmps.size=true
 once:onceB G=true
 early:xL md ops E G=true
 tnd:T.Nodup
 tlt:∀ b∈T,b<w0.heap.size
theorem tyB_spec {n:Nat} (h:Region.tyB md ops n=true) {i:Nat} {o:Oper} (ho:ops[i]?=some o) :
 (∀ e∈o.after,Region.binds md e=true→e.on<i)∧(∀ d,o.dst=some d→d<n∧∀ (j:Nat) (o' : Oper),ops[j]?=some o'→o'.dst=some d→j=i) ∧
 (∀ t∈o.looksAt ops,∀ (j:Nat) (o' : Oper),ops[j]?=some o'→o'.dst=some t→j<i∧∃ e∈o.after,Region.binds md e=true∧e.on=j):=by
 have lt:∀ {j:Nat} {o' : Oper},ops[j]?=some o'→j<ops.size:=fun h=>by
  rcases Nat.lt_or_ge _ ops.size with h'|h'
  ·exact h'
  ·rw [Array.getElem?_eq_none h'] at h;cases h
 simp only [Region.tyB,Bool.and_eq_true,List.all_eq_true,List.mem_range] at h
 have h2:=h.2 i (lt ho)
 simp only [ho,Option.all_some,Bool.and_eq_true] at h2
 obtain ⟨⟨h3,h4⟩,h5⟩:=h2
 refine ⟨fun e he hb=>?_,fun d hd=>?_,fun t ht j o' hj hdt=>?_⟩
 ·have:=Array.all_eq_true'.1 h3 e he
  simp only [hb,Bool.not_true,Bool.false_or,decide_eq_true_eq] at this
  exact this
 ·rw [hd] at h4
  simp only [Bool.and_eq_true,decide_eq_true_eq,List.all_eq_true,List.mem_range] at h4
  refine ⟨h4.1,fun j o' hj hd'=>?_⟩
  have:=h4.2 j (lt hj)
  simp only [hj,Option.all_some,Bool.or_eq_true,beq_iff_eq,bne_iff_ne] at this
  rcases this with h|h
  ·exact h
  ·exact absurd hd' h
 ·have:=List.all_eq_true.1 h5 t ht
  have:=List.all_eq_true.1 this j (List.mem_range.2 (lt hj))
  simp only [hj,Option.all_some,Bool.or_eq_true,bne_iff_ne,Bool.and_eq_true,decide_eq_true_eq] at this
  rcases this with h|⟨h,h'⟩
  ·exact absurd hdt h
  ·obtain ⟨e,he,hb⟩:=Array.any_eq_true'.1 h'
   simp only [Bool.and_eq_true,beq_iff_eq] at hb
   exact ⟨h,e,he,hb.1,hb.2⟩
end
section
variable {P:Program} {ops:Array Oper} {K:Obj→Bool} {T:List Nat} {E:Nat→Nat→Bool} {w0:World} {a0:Act} {md:Region.Mode} {G:List Ent}
theorem Walked.ent (W:Walked P ops K T E w0 a0 md G) {i:Nat} {e:Ent} (h:G[i]?=some e):∃ o,ops[i]?=some o∧e.dst=o.dst∧Oblig P ops K T E w0 a0 (G.take i).reverse o e.kd:=by
 obtain ⟨hlt,_⟩:=List.getElem?_eq_some_iff.1 h
 have hlt' : i<ops.size:=by rw [← W.len];exact hlt
 obtain ⟨k,hk,ho⟩:=W.each i ops[i] (Array.getElem?_eq_getElem hlt')
 rw [h] at hk
 injection hk with hk
 subst hk
 exact ⟨_,Array.getElem?_eq_getElem hlt',rfl,ho⟩
theorem Walked.dst (W:Walked P ops K T E w0 a0 md G) {i j d:Nat} {k k' : Kd} (h:G[i]?=some ⟨some d,k⟩) (h' : G[j]?=some ⟨some d,k'⟩):i=j:=by
 obtain ⟨o,ho,hd,_⟩:=W.ent h
 obtain ⟨o',ho',hd',_⟩:=W.ent h'
 exact (tyB_spec W.form ho').2.1 d hd'.symm |>.2 i o ho hd.symm
theorem filterMap_once {α β:Type} [DecidableEq β] (f:α→Option β):∀ (l:List α) (i j:Nat) (a b:α) (x:β),(l.filterMap f).Nodup→l[i]?=some a→l[j]?=some b→f a=some x→f b=some x→i=j
 | [],i,_,_,_,_,_,h,_,_,_=>by simp at h
 | c :: l,i,j,a,b,x,hn,hi,hj,ha,hb=>by
   have tail:(l.filterMap f).Nodup:=by
    rw [List.filterMap_cons] at hn
    split at hn
    ·exact hn
    ·exact (List.nodup_cons.1 hn).2
   have mem:∀ (k:Nat) (y:α),l[k]?=some y→f y=some x→f c=some x→False:=fun k y hk hy hc=>by
    rw [List.filterMap_cons,hc] at hn
    exact (List.nodup_cons.1 hn).1 (List.mem_filterMap.2 ⟨y,List.mem_of_getElem? hk,hy⟩)
   match i,j with
   | 0,0=>rfl
   | 0,j+1 =>
     simp only [List.getElem?_cons_zero,Option.some.injEq] at hi
     subst hi
     exact (mem j b (by simpa using hj) hb ha).elim
   | i+1,0 =>
     simp only [List.getElem?_cons_zero,Option.some.injEq] at hj
     subst hj
     exact (mem i a (by simpa using hi) ha hb).elim
   | i+1,j+1=>exact congrArg (· + 1) (filterMap_once f l i j a b x tail (by simpa using hi) (by simpa using hj) ha hb)
theorem Walked.put (W:Walked P ops K T E w0 a0 md G) {i j d:Nat} {S S' : Obj→World→Prop} (h:G[i]?=some ⟨none,.put d S⟩) (h' : G[j]?=some ⟨none,.put d S'⟩):i=j:=by
 have:=W.once
 simp only [onceB,Bool.and_eq_true,decide_eq_true_eq] at this
 exact filterMap_once putOf G i j _ _ d this.1 h h' rfl rfl
theorem Walked.old (W:Walked P ops K T E w0 a0 md G) {i j k:Nat} {S S' : Obj→World→Prop} (h:G[i]?=some ⟨none,.old k S⟩) (h' : G[j]?=some ⟨none,.old k S'⟩):i=j:=by
 have:=W.once
 simp only [onceB,Bool.and_eq_true,decide_eq_true_eq] at this
 exact filterMap_once oldOf G i j _ _ k this.2 h h' rfl rfl
theorem Walked.blk_lt (W:Walked P ops K T E w0 a0 md G) {k b:Nat} (h:T[k]?=some b):b<w0.heap.size:=W.tlt b (List.mem_of_getElem? h)
theorem tU {α:Type}:∀ {l:List α} {i j:Nat} {x:α},l.Nodup→l[i]?=some x→l[j]?=some x→i=j
 | [],_,_,_,_,h,_=>by simp at h
 | a :: l,i,j,x,hn,hi,hj=>by
   rw [List.nodup_cons] at hn
   match i,j with
   | 0,0=>rfl
   | 0,j+1 =>
     simp only [List.getElem?_cons_zero,Option.some.injEq] at hi
     subst hi
     exact absurd (List.mem_of_getElem? (by simpa using hj)) hn.1
   | i+1,0 =>
     simp only [List.getElem?_cons_zero,Option.some.injEq] at hj
     subst hj
     exact absurd (List.mem_of_getElem? (by simpa using hi)) hn.1
   | i+1,j+1=>exact congrArg (· + 1) (tU hn.2 (by simpa using hi) (by simpa using hj))
theorem Walked.blk_eq (W:Walked P ops K T E w0 a0 md G) {k k' b:Nat} (h:T[k]?=some b) (h' : T[k']?=some b):k=k':=tU W.tnd h h'
theorem Walked.waits (W:Walked P ops K T E w0 a0 md G) {i j k:Nat} {S:Obj→World→Prop} {oj:Oper} (h:G[j]?=some ⟨none,.old k S⟩) (hj:ops[j]?=some oj) (hi:i<ops.size) (hE:E i k=true) :
 i=j∨∃ e∈oj.after,Region.binds md e=true∧e.on=i:=by
 have hjlt:j<ops.size:=by
  rcases Nat.lt_or_ge j ops.size with h'|h'
  ·exact h'
  ·rw [Array.getElem?_eq_none h'] at hj;cases hj
 have:=W.early
 simp only [xL,List.all_eq_true,List.mem_range] at this
 have:=this j hjlt
 simp only [h,Option.bind_some,oldOf,List.all_eq_true,List.mem_range] at this
 have:=this i hi
 rw [hE,hj] at this
 simp only [Bool.not_true,Bool.false_or,Bool.or_eq_true,beq_iff_eq,Option.any_some] at this
 rcases this with e|e
 ·exact .inl e
 ·obtain ⟨e,he,h1⟩:=Array.any_eq_true'.1 e
  simp only [Bool.and_eq_true,beq_iff_eq] at h1
  exact .inr ⟨e,he,h1.1,h1.2⟩
theorem Walked.stable (W:Walked P ops K T E w0 a0 md G) {i d:Nat} {S:Sp} (h:G[i]?=some ⟨some d,.val S⟩):Stable K S:=by
 obtain ⟨o,_,_,ho⟩:=W.ent h;exact ho.1
theorem Walked.stable_put (W:Walked P ops K T E w0 a0 md G) {i d:Nat} {S:Obj→World→Prop} (h:G[i]?=some ⟨none,.put d S⟩):StableO K S:=by
 obtain ⟨o,_,_,ho⟩:=W.ent h;exact ho.2.2.2.1
theorem Walked.stable_old (W:Walked P ops K T E w0 a0 md G) {i b:Nat} {S:Obj→World→Prop} (h:G[i]?=some ⟨none,.old b S⟩):StableO K S:=by
 obtain ⟨o,_,_,ho⟩:=W.ent h;exact ho.2.2.1
variable {listed:Array Bool} {f:Tmp→Value} {a:Act} {w:World}
theorem Inv.view (I:Inv ops K T w0 a0 md G listed f a w) (W:Walked P ops K T E w0 a0 md G) {i:Nat} {o:Oper} (ho:ops[i]?=some o) (hun:¬ lst listed i):View K T E w0 (G.take i).reverse.length w:=by
 have hi:i<ops.size:=by
  rcases Nat.lt_or_ge i ops.size with h|h
  ·exact h
  ·rw [Array.getElem?_eq_none h] at ho;cases ho
 have hl:(G.take i).reverse.length=i:=by
  rw [List.length_reverse,List.length_take,W.len]
  omega
 rw [hl]
 refine ⟨I.base,I.ext,fun k b hE hT=>I.still k b hT (fun j S hj hlj=>?_)⟩
 obtain ⟨oj,hoj,_,_⟩:=W.ent hj
 rcases W.waits hj hoj hi hE with e|⟨e,he,hb,hon⟩
 ·subst e
  exact hun hlj
 ·have:=I.closed j oj hoj hlj e he hb
  rw [hon] at this
  exact hun this
theorem Inv.known (I:Inv ops K T w0 a0 md G listed f a w) (W:Walked P ops K T E w0 a0 md G) {i:Nat} {o:Oper} (ho:ops[i]?=some o) (hr:∀ e∈o.after,Region.binds md e=true→lst listed e.on) :
 known a0 w0.heap.size (G.take i).reverse a w (o.looksAt ops):=by
 rw [known_iff]
 intro t ht
 have hf:=(tyB_spec W.form ho).2.2 t ht
 refine specOf_of (fun e he hd=>?_) (fun hn=>I.miss t (fun j oj hj hdj=>?_))
 ·obtain ⟨j,hj⟩:=List.getElem?_of_mem (List.mem_reverse.1 he)
  have hjG:G[j]?=some e:=by
   rw [List.getElem?_take] at hj
   split at hj
   ·exact hj
   ·cases hj
  obtain ⟨oj,hoj,hdj,_⟩:=W.ent hjG
  obtain ⟨_,ed,hed,hb,hon⟩:=hf j oj hoj (by rw [← hdj];exact hd)
  have hl:lst listed j:=by rw [← hon];exact hr ed hed hb
  have hv:a.eval (.tmp t)=f t:=I.hit j oj t hoj hl (by rw [← hdj];exact hd)
  rw [hv]
  obtain ⟨dst,kd⟩:=e
  simp only at hd
  subst hd
  match kd,hjG with
  | .val S,hjG=>exact I.vals j t S hjG hl
  | .new o0,hjG =>
    obtain ⟨b,h1,h2,h3,_⟩:=I.news j t o0 hjG hl
    exact ⟨b,h1,h2,h3⟩
  | .put _ _,_=>trivial
  | .old _ _,_=>trivial
 ·obtain ⟨hlt,_⟩:=hf j oj hj hdj
  obtain ⟨k,hk,_⟩:=W.each j oj hj
  refine hn ⟨oj.dst,k⟩ (List.mem_reverse.2 (List.mem_of_getElem? (i:=j) ?_)) hdj
  rw [List.getElem?_take,if_pos hlt]
  exact hk
theorem Act.eval_put_hit {a:Act} {d:Tmp} {v:Value} (h:d<a.tmps.size):(a.put (some d) v).eval (.tmp d)=v:=by
 simp [Act.put,Act.eval,h]
theorem Act.eval_put_miss {a:Act} {dst:Option Tmp} {t:Tmp} {v:Value} (h:dst≠some t):(a.put dst v).eval (.tmp t)=a.eval (.tmp t):=by
 cases dst with
 | none=>rfl
 | some d =>
   have:d≠t:=fun e=>h (by rw [e])
   simp [Act.put,Act.eval,Array.getElem?_setIfInBounds_ne this]
theorem Act.put_size {a:Act} {dst:Option Tmp} {v:Value}:(a.put dst v).tmps.size=a.tmps.size:=by
 cases dst <;> simp [Act.put]
theorem Act.put_defers {a:Act} {dst:Option Tmp} {v:Value}:(a.put dst v).defers=a.defers:=by
 cases dst <;> rfl
def upd (f:Tmp→Value) (dst:Option Tmp) (v:Value):Tmp→Value:=fun t=>if dst=some t then v else f t
theorem upd_hit {f:Tmp→Value} {d:Tmp} {v:Value}:upd f (some d) v d=v:=by simp [upd]
theorem upd_miss {f:Tmp→Value} {dst:Option Tmp} {t:Tmp} {v:Value} (h:dst≠some t):upd f dst v t=f t:=by simp [upd,h]
theorem Inv.frame (I:Inv ops K T w0 a0 md G listed f a w) (W:Walked P ops K T E w0 a0 md G) {i:Nat} {o:Oper} (ho:ops[i]?=some o) (hr:∀ e∈o.after,Region.binds md e=true→lst listed e.on) (v:Value) :
 (∀ (j:Nat) (o' : Oper) d,ops[j]?=some o'→lst (listed.setIfInBounds i true) j→o'.dst=some d→(a.put o.dst v).eval (.tmp d)=upd f o.dst v d) ∧
 (∀ t,(∀ (j:Nat) (o' : Oper),ops[j]?=some o'→o'.dst≠some t)→(a.put o.dst v).eval (.tmp t)=a0.eval (.tmp t)) ∧
 (∀ (j:Nat) (o' : Oper),ops[j]?=some o'→lst (listed.setIfInBounds i true) j→∀ e∈o'.after,Region.binds md e=true→lst (listed.setIfInBounds i true) e.on)∧i<listed.size:=by
 have hi:i<listed.size:=by
  rw [I.lsize]
  rcases Nat.lt_or_ge i ops.size with h|h
  ·exact h
  ·rw [Array.getElem?_eq_none h] at ho;cases ho
 refine ⟨fun j o' d hj hl hd=>?_,fun t ht=>?_,fun j o' hj hl e he hb=>?_,hi⟩
 ·by_cases hji:j=i
  ·subst hji
   rw [ho] at hj
   injection hj with hj
   subst hj
   have hlt:=((tyB_spec W.form ho).2.1 d hd).1
   rw [hd,Act.eval_put_hit (by rw [I.tsize];exact hlt),upd_hit]
  ·have hl' : lst listed j:=((lst_set hi).1 hl).resolve_left hji
   have hne:o.dst≠some d:=fun e=>hji (((tyB_spec W.form ho).2.1 d e).2 j o' hj hd)
   rw [Act.eval_put_miss hne,upd_miss hne]
   exact I.hit j o' d hj hl' hd
 ·rw [Act.eval_put_miss (ht i o ho)]
  exact I.miss t ht
 ·rw [lst_set hi]
  by_cases hji:j=i
  ·subst hji
   rw [ho] at hj
   injection hj with hj
   subst hj
   exact .inr (hr e he hb)
  ·exact .inr (I.closed j o' hj (((lst_set hi).1 hl).resolve_left hji) e he hb)
theorem Inv.val (I:Inv ops K T w0 a0 md G listed f a w) (W:Walked P ops K T E w0 a0 md G) {i:Nat} {o:Oper} {S:Sp} (ho:ops[i]?=some o) (hG:G[i]?=some ⟨o.dst,.val S⟩) (hun:¬ lst listed i)
 (hr:∀ e∈o.after,Region.binds md e=true→lst listed e.on) {v:Value} {w' : World} (hb:Below w.heap.size w w') (hS:S v w') :
 Inv ops K T w0 a0 md G (listed.setIfInBounds i true) (upd f o.dst v) (a.put o.dst v) w':=by
 obtain ⟨h1,h2,h3,hi⟩:=I.frame W ho hr v
 have hx:Ext K w w':=Ext.of_below hb
 have keep:∀ (j d:Nat) k,G[j]?=some ⟨some d,k⟩→j≠i→o.dst≠some d:=fun j d k hj hji e=>by
  rw [e] at hG
  exact hji (W.dst hj hG)
 have other:∀ {j:Nat},j≠i→(lst (listed.setIfInBounds i true) j↔lst listed j):=fun h=>by
  rw [lst_set hi];exact ⟨fun h'=>h'.resolve_left h,.inr⟩
 refine ⟨by rw [Array.size_setIfInBounds];exact I.lsize,by rw [Act.put_defers];exact I.defers,by rw [Act.put_size];exact I.tsize,h1,h2,h3,I.base.step hb,I.ext.trans hx,?_,?_,?_,?_,?_⟩
 ·intro j d S' hj hl
  by_cases hji:j=i
  ·subst hji
   rw [hG] at hj
   injection hj with hj
   injection hj with e1 e2
   injection e2 with e2
   subst e2
   rw [e1,upd_hit]
   exact hS
  ·rw [upd_miss (keep j d _ hj hji)]
   exact W.stable hj _ _ _ (I.vals j d S' hj ((other hji).1 hl)) hx
 ·intro j d o0 hj hl
  have hji:j≠i:=fun e=>by subst e;rw [hG] at hj;injection hj with hj;injection hj with _ hj;cases hj
  rw [upd_miss (keep j d _ hj hji)]
  obtain ⟨b,e1,e2,e3,e4,e5⟩:=I.news j d o0 hj ((other hji).1 hl)
  refine ⟨b,e1,e2,Nat.lt_of_lt_of_le e3 hb.size,fun h=>?_,fun k S' hk hlk=>?_⟩
  ·rw [hb.block b e3]
   refine e4 (fun k S' hk hlk=>h k S' hk ?_)
   rw [lst_set hi];exact .inr hlk
  ·have hki:k≠i:=fun e=>by subst e;rw [hG] at hk;injection hk with hk;injection hk with _ hk;cases hk
   obtain ⟨o',h1',h2'⟩:=e5 k S' hk ((other hki).1 hlk)
   exact ⟨o',W.stable_put hk _ _ _ h1' hx,by rw [hb.block b e3];exact h2'⟩
 ·intro j k b S' hj hT hl
  have hji:j≠i:=fun e=>by subst e;rw [hG] at hj;injection hj with hj;injection hj with _ hj;cases hj
  have hlt:b<w.heap.size:=Nat.lt_of_lt_of_le (W.blk_lt hT) I.base.size
  obtain ⟨o',h1',h2'⟩:=I.olds j k b S' hj hT ((other hji).1 hl)
  exact ⟨o',W.stable_old hj _ _ _ h1' hx,by rw [hb.block b hlt];exact h2'⟩
 ·intro k b hT hn
  have hlt:b<w.heap.size:=Nat.lt_of_lt_of_le (W.blk_lt hT) I.base.size
  rw [hb.block b hlt]
  exact I.still k b hT (fun j S' hj hl=>hn j S' hj ((lst_set hi).2 (.inr hl)))
 ·intro j j' d d' o1 o2 hj hj' hl hl' hne
  have hji:j≠i:=fun e=>by subst e;rw [hG] at hj;injection hj with hj;injection hj with _ hj;cases hj
  have hji' : j'≠i:=fun e=>by subst e;rw [hG] at hj';injection hj' with hj';injection hj' with _ hj';cases hj'
  rw [upd_miss (keep j d _ hj hji),upd_miss (keep j' d' _ hj' hji')]
  exact I.apart j j' d d' o1 o2 hj hj' ((other hji).1 hl) ((other hji').1 hl') hne
end
section
variable {P:Program} {ops:Array Oper} {K:Obj→Bool} {T:List Nat} {E:Nat→Nat→Bool} {w0:World} {a0:Act} {md:Region.Mode} {G:List Ent} {listed:Array Bool} {f:Tmp→Value} {a:Act} {w:World}
theorem Inv.new (I:Inv ops K T w0 a0 md G listed f a w) (W:Walked P ops K T E w0 a0 md G) {i:Nat} {o:Oper} {o0:Obj} (ho:ops[i]?=some o) (hG:G[i]?=some ⟨o.dst,.new o0⟩) (hun:¬ lst listed i)
 (hr:∀ e∈o.after,Region.binds md e=true→lst listed e.on) :
 Inv ops K T w0 a0 md G (listed.setIfInBounds i true) (upd f o.dst (.pointer (some ⟨w.heap.size,0,none⟩))) (a.put o.dst (.pointer (some ⟨w.heap.size,0,none⟩))) (w.alloc o0):=by
 obtain ⟨h1,h2,h3,hi⟩:=I.frame W ho hr (.pointer (some ⟨w.heap.size,0,none⟩))
 have hb:Below w.heap.size w (w.alloc o0):=(aB _ _).alloc (aR _) _
 have hx:Ext K w (w.alloc o0):=Ext.of_below hb
 have keep:∀ (j d:Nat) k,G[j]?=some ⟨some d,k⟩→j≠i→o.dst≠some d:=fun j d k hj hji e=>by
  rw [e] at hG
  exact hji (W.dst hj hG)
 have other:∀ {j:Nat},j≠i→(lst (listed.setIfInBounds i true) j↔lst listed j):=fun h=>by
  rw [lst_set hi];exact ⟨fun h'=>h'.resolve_left h,.inr⟩
 have hsz:(w.alloc o0).heap.size=w.heap.size+1:=by simp
 refine ⟨by rw [Array.size_setIfInBounds];exact I.lsize,by rw [Act.put_defers];exact I.defers,by rw [Act.put_size];exact I.tsize,h1,h2,h3,I.base.step hb,I.ext.trans hx,?_,?_,?_,?_,?_⟩
 ·intro j d S' hj hl
  have hji:j≠i:=fun e=>by subst e;rw [hG] at hj;injection hj with hj;injection hj with _ hj;cases hj
  rw [upd_miss (keep j d _ hj hji)]
  exact W.stable hj _ _ _ (I.vals j d S' hj ((other hji).1 hl)) hx
 ·intro j d o1 hj hl
  by_cases hji:j=i
  ·subst hji
   rw [hG] at hj
   injection hj with hj
   injection hj with e1 e2
   injection e2 with e2
   subst e2
   rw [e1,upd_hit]
   refine ⟨w.heap.size,rfl,I.base.size,by rw [hsz];omega,fun _=>heap_alloc_new w _,fun k S' hk hlk=>?_⟩
   exfalso
   have hki:k≠j:=fun e=>by subst e;rw [hG] at hk;injection hk with hk;injection hk with _ hk;cases hk
   have hlk':=(other hki).1 hlk
   obtain ⟨ok,hok,_,hob⟩:=W.ent hk
   obtain ⟨_,e,he,hbd,hon⟩:=(tyB_spec W.form hok).2.2 d hob.2.2.1 j o ho e1
   have:=I.closed k ok hok hlk' e he hbd
   rw [hon] at this
   exact hun this
  ·rw [upd_miss (keep j d _ hj hji)]
   obtain ⟨b,e1,e2,e3,e4,e5⟩:=I.news j d o1 hj ((other hji).1 hl)
   refine ⟨b,e1,e2,Nat.lt_of_lt_of_le e3 hb.size,fun h=>?_,fun k S' hk hlk=>?_⟩
   ·rw [hb.block b e3]
    refine e4 (fun k S' hk hlk=>h k S' hk ?_)
    rw [lst_set hi];exact .inr hlk
   ·have hki:k≠i:=fun e=>by subst e;rw [hG] at hk;injection hk with hk;injection hk with _ hk;cases hk
    obtain ⟨o',h1',h2'⟩:=e5 k S' hk ((other hki).1 hlk)
    exact ⟨o',W.stable_put hk _ _ _ h1' hx,by rw [hb.block b e3];exact h2'⟩
 ·intro j k b S' hj hT hl
  have hji:j≠i:=fun e=>by subst e;rw [hG] at hj;injection hj with hj;injection hj with _ hj;cases hj
  have hlt:b<w.heap.size:=Nat.lt_of_lt_of_le (W.blk_lt hT) I.base.size
  obtain ⟨o',h1',h2'⟩:=I.olds j k b S' hj hT ((other hji).1 hl)
  exact ⟨o',W.stable_old hj _ _ _ h1' hx,by rw [hb.block b hlt];exact h2'⟩
 ·intro k b hT hn
  have hlt:b<w.heap.size:=Nat.lt_of_lt_of_le (W.blk_lt hT) I.base.size
  rw [hb.block b hlt]
  exact I.still k b hT (fun j S' hj hl=>hn j S' hj ((lst_set hi).2 (.inr hl)))
 ·intro j j' d d' o1 o2 hj hj' hl hl' hne
  by_cases hji:j=i
  ·subst hji
   have hji' : j'≠j:=fun e=>by subst e;rw [hj] at hj';injection hj' with hj';injection hj' with e1 _;injection e1 with e1;exact hne e1
   obtain ⟨b,e1,_,e3,_⟩:=I.news j' d' o2 hj' ((other hji').1 hl')
   have hd:o.dst=some d:=by rw [hG] at hj;injection hj with hj;injection hj
   rw [upd_miss (keep j' d' _ hj' hji'),e1,hd,upd_hit]
   intro e
   injection e with e;injection e with e;injection e with e
   omega
  ·by_cases hji' : j'=i
   ·subst hji'
    obtain ⟨b,e1,_,e3,_⟩:=I.news j d o1 hj ((other hji).1 hl)
    have hd:o.dst=some d':=by rw [hG] at hj';injection hj' with hj';injection hj'
    rw [upd_miss (keep j d _ hj hji),e1,hd,upd_hit]
    intro e
    injection e with e;injection e with e;injection e with e
    omega
   ·rw [upd_miss (keep j d _ hj hji),upd_miss (keep j' d' _ hj' hji')]
    exact I.apart j j' d d' o1 o2 hj hj' ((other hji).1 hl) ((other hji').1 hl') hne
theorem upd_none {f:Tmp→Value} {v:Value}:upd f none v=f:=by funext t;simp [upd]
theorem Turned.base {b:Nat} {o' : Obj} {w' : World} (h:Turned b o' w w') (hB:Base T w0 w) (hT:w0.heap.size≤b∨b∈T):Base T w0 w':=by
 refine ⟨h.os.trans hB.os,h.tape.trans hB.tape,h.output.trans hB.output,by rw [h.size];exact hB.size,fun k hk hkT=>?_⟩
 rw [h.block k (fun e => by subst e;rcases hT with hT|hT;· omega
                            ·exact hkT hT)]
 exact hB.block k hk hkT
theorem Inv.put (I:Inv ops K T w0 a0 md G listed f a w) (W:Walked P ops K T E w0 a0 md G) {i:Nat} {o:Oper} {d0:Tmp} {S0:Obj→World→Prop} (ho:ops[i]?=some o) (hG:G[i]?=some ⟨o.dst,.put d0 S0⟩) (hun:¬ lst listed i)
 (hr:∀ e∈o.after,Region.binds md e=true→lst listed e.on) :
 o.dst=none∧o.guard=none∧∃ b,(∀ w' o',Turned b o' w w'→S0 o' w→Inv ops K T w0 a0 md G (listed.setIfInBounds i true) f a w')∧putUpon b w S0 ((execOp a.eval o).run P w):=by
 obtain ⟨o1,ho1,hd1,hob⟩:=W.ent hG
 rw [ho] at ho1
 injection ho1 with ho1
 subst ho1
 obtain ⟨hdn,hgn,hlook,hst,o0,hmem,hex⟩:=hob
 obtain ⟨j0,hj0⟩:=List.getElem?_of_mem (List.mem_reverse.1 hmem)
 have hjG:G[j0]?=some ⟨some d0,.new o0⟩:=by
  rw [List.getElem?_take] at hj0
  split at hj0
  ·exact hj0
  ·cases hj0
 obtain ⟨oj,hoj,hdj,hobj⟩:=W.ent hjG
 obtain ⟨_,ed,hed,hbd,hon⟩:=(tyB_spec W.form ho).2.2 d0 hlook j0 oj hoj hdj.symm
 have hl0:lst listed j0:=by rw [← hon];exact hr ed hed hbd
 obtain ⟨b,e1,e2,e3,e4,_⟩:=I.news j0 d0 o0 hjG hl0
 rw [hdn] at hG
 have hblk:w.heap[b]?=some o0:=e4 (fun k S' hk hlk=>hun (by rw [W.put hG hk];exact hlk))
 have hval:a.eval (.tmp d0) = .pointer (some ⟨b,0,none⟩):=(I.hit j0 oj d0 hoj hl0 hdj.symm).trans e1
 refine ⟨hdn,hgn,b,fun w' o' ht hS=>?_,hex a w b (I.view W ho hun) (I.known W ho hr) hval hblk⟩
 have hx:Ext K w w':=ht.ext hblk hobj.1
 obtain ⟨h1,h2,h3,hi⟩:=I.frame W ho hr undef
 rw [hdn,upd_none] at h1
 rw [hdn] at h2
 have other:∀ {j:Nat},j≠i→(lst (listed.setIfInBounds i true) j↔lst listed j):=fun h=>by
  rw [lst_set hi];exact ⟨fun h'=>h'.resolve_left h,.inr⟩
 refine ⟨by rw [Array.size_setIfInBounds];exact I.lsize,I.defers,I.tsize,h1,h2,h3,ht.base I.base (.inl e2),I.ext.trans hx,?_,?_,?_,?_,?_⟩
 ·intro j d S' hj hl
  have hji:j≠i:=fun e=>by subst e;rw [hG] at hj;injection hj with hj;injection hj with _ hj;cases hj
  exact W.stable hj _ _ _ (I.vals j d S' hj ((other hji).1 hl)) hx
 ·intro j d o2 hj hl
  have hji:j≠i:=fun e=>by subst e;rw [hG] at hj;injection hj with hj;injection hj with _ hj;cases hj
  obtain ⟨b',f1,f2,f3,f4,f5⟩:=I.news j d o2 hj ((other hji).1 hl)
  by_cases hd:d=d0
  ·subst hd
   have hbb:b'=b:=by rw [e1] at f1;injection f1 with f1;injection f1 with f1;injection f1 with f1;exact f1.symm
   subst hbb
   refine ⟨b',f1,f2,by rw [ht.size];exact f3,fun h=>?_,fun k S' hk hlk=>?_⟩
   ·exact absurd ((lst_set hi).2 (.inl rfl)) (h i S0 hG)
   ·have hki:=W.put hk hG
    subst hki
    rw [hG] at hk
    injection hk with hk
    injection hk with _ hk
    injection hk with _ hk
    subst hk
    exact ⟨o',hst _ _ _ hS hx,ht.at_⟩
  ·have hne:b'≠b:=by
    have:=I.apart j j0 d d0 o2 o0 hj hjG ((other hji).1 hl) hl0 hd
    rw [f1,e1] at this
    exact fun e=>this (by rw [e])
   refine ⟨b',f1,f2,by rw [ht.size];exact f3,fun h=>?_,fun k S' hk hlk=>?_⟩
   ·rw [ht.block b' hne]
    refine f4 (fun k S' hk hlk=>h k S' hk ?_)
    rw [lst_set hi];exact .inr hlk
   ·have hki:k≠i:=fun e=>by
     subst e;rw [hG] at hk;injection hk with hk;injection hk with _ hk;injection hk with hk _;exact hd hk.symm
    obtain ⟨o'',h1',h2'⟩:=f5 k S' hk ((other hki).1 hlk)
    exact ⟨o'',W.stable_put hk _ _ _ h1' hx,by rw [ht.block b' hne];exact h2'⟩
 ·intro j k b' S' hj hT hl
  have hji:j≠i:=fun e=>by subst e;rw [hG] at hj;injection hj with hj;injection hj with _ hj;cases hj
  have hne:b'≠b:=by have:=W.blk_lt hT;omega
  obtain ⟨o'',h1',h2'⟩:=I.olds j k b' S' hj hT ((other hji).1 hl)
  exact ⟨o'',W.stable_old hj _ _ _ h1' hx,by rw [ht.block b' hne];exact h2'⟩
 ·intro k b' hT hn
  have hne:b'≠b:=by have:=W.blk_lt hT;omega
  rw [ht.block b' hne]
  exact I.still k b' hT (fun j S' hj hl=>hn j S' hj ((lst_set hi).2 (.inr hl)))
 ·intro j j' d d' o2 o3 hj hj' hl hl' hne
  have hji:j≠i:=fun e=>by subst e;rw [hG] at hj;injection hj with hj;injection hj with _ hj;cases hj
  have hji' : j'≠i:=fun e=>by subst e;rw [hG] at hj';injection hj' with hj';injection hj' with _ hj';cases hj'
  exact I.apart j j' d d' o2 o3 hj hj' ((other hji).1 hl) ((other hji').1 hl') hne
theorem Inv.old (I:Inv ops K T w0 a0 md G listed f a w) (W:Walked P ops K T E w0 a0 md G) {i:Nat} {o:Oper} {k:Nat} {S0:Obj→World→Prop} (ho:ops[i]?=some o) (hG:G[i]?=some ⟨o.dst,.old k S0⟩) (hun:¬ lst listed i)
 (hr:∀ e∈o.after,Region.binds md e=true→lst listed e.on) :
 o.dst=none∧o.guard=none∧∃ b,(∀ w' o',Turned b o' w w'→S0 o' w→Inv ops K T w0 a0 md G (listed.setIfInBounds i true) f a w')∧putUpon b w S0 ((execOp a.eval o).run P w):=by
 obtain ⟨o1,ho1,hd1,hob⟩:=W.ent hG
 rw [ho] at ho1
 injection ho1 with ho1
 subst ho1
 obtain ⟨hdn,hgn,hst,b,o0,hTb,hb0,hcold,hex⟩:=hob
 rw [hdn] at hG
 have hblt:b<w0.heap.size:=lt_of_block hb0
 have hblk:w.heap[b]?=some o0:=(I.still k b hTb (fun j S' hj hl=>by have:=W.old hj hG;subst this;exact hun hl)).trans hb0
 refine ⟨hdn,hgn,b,fun w' o' ht hS=>?_,hex a w (I.view W ho hun) (I.known W ho hr) hblk⟩
 have hx:Ext K w w':=ht.ext hblk hcold
 obtain ⟨h1,h2,h3,hi⟩:=I.frame W ho hr undef
 rw [hdn,upd_none] at h1
 rw [hdn] at h2
 have other:∀ {j:Nat},j≠i→(lst (listed.setIfInBounds i true) j↔lst listed j):=fun h=>by
  rw [lst_set hi];exact ⟨fun h'=>h'.resolve_left h,.inr⟩
 refine ⟨by rw [Array.size_setIfInBounds];exact I.lsize,I.defers,I.tsize,h1,h2,h3,ht.base I.base (.inr (List.mem_of_getElem? hTb)),I.ext.trans hx,?_,?_,?_,?_,?_⟩
 ·intro j d S' hj hl
  have hji:j≠i:=fun e=>by subst e;rw [hG] at hj;injection hj with hj;injection hj with _ hj;cases hj
  exact W.stable hj _ _ _ (I.vals j d S' hj ((other hji).1 hl)) hx
 ·intro j d o2 hj hl
  have hji:j≠i:=fun e=>by subst e;rw [hG] at hj;injection hj with hj;injection hj with _ hj;cases hj
  obtain ⟨b',f1,f2,f3,f4,f5⟩:=I.news j d o2 hj ((other hji).1 hl)
  have hne:b'≠b:=by omega
  refine ⟨b',f1,f2,by rw [ht.size];exact f3,fun h=>?_,fun k S' hk hlk=>?_⟩
  ·rw [ht.block b' hne]
   refine f4 (fun k S' hk hlk=>h k S' hk ?_)
   rw [lst_set hi];exact .inr hlk
  ·have hki:k≠i:=fun e=>by subst e;rw [hG] at hk;injection hk with hk;injection hk with _ hk;cases hk
   obtain ⟨o'',h1',h2'⟩:=f5 k S' hk ((other hki).1 hlk)
   exact ⟨o'',W.stable_put hk _ _ _ h1' hx,by rw [ht.block b' hne];exact h2'⟩
 ·intro j k' b' S' hj hT' hl
  by_cases hji:j=i
  ·subst hji
   rw [hG] at hj
   injection hj with hj
   injection hj with _ hj
   injection hj with hj1 hj2
   subst hj1
   subst hj2
   rw [hTb] at hT'
   injection hT' with hT'
   subst hT'
   exact ⟨o',hst _ _ _ hS hx,ht.at_⟩
  ·have hne:b'≠b:=fun e=>by
    subst e
    have:=W.blk_eq hT' hTb
    subst this
    exact hji (W.old hj hG)
   obtain ⟨o'',h1',h2'⟩:=I.olds j k' b' S' hj hT' ((other hji).1 hl)
   exact ⟨o'',W.stable_old hj _ _ _ h1' hx,by rw [ht.block b' hne];exact h2'⟩
 ·intro k' b' hT' hn
  have hne:b'≠b:=fun e=>by
   subst e
   have:=W.blk_eq hT' hTb
   subst this
   exact hn i S0 hG ((lst_set hi).2 (.inl rfl))
  rw [ht.block b' hne]
  exact I.still k' b' hT' (fun j S' hj hl=>hn j S' hj ((lst_set hi).2 (.inr hl)))
 ·intro j j' d d' o2 o3 hj hj' hl hl' hne
  have hji:j≠i:=fun e=>by subst e;rw [hG] at hj;injection hj with hj;injection hj with _ hj;cases hj
  have hji' : j'≠i:=fun e=>by subst e;rw [hG] at hj';injection hj' with hj';injection hj' with _ hj';cases hj'
  exact I.apart j j' d d' o2 o3 hj hj' ((other hji).1 hl) ((other hji').1 hl') hne
theorem Inv.step {Q:Exit→Act→World→Prop} (I:Inv ops K T w0 a0 md G listed f a w) (W:Walked P ops K T E w0 a0 md G) {i:Nat} (hi:i∈Region.ready md ops listed) {N:Act→World→Prop}
 (hN:∀ f a w,Inv ops K T w0 a0 md G (listed.setIfInBounds i true) f a w→N a w):wpOp P ops Q i N a w:=by
 obtain ⟨hun,o,ho,hr⟩:=mem_ready.1 hi
 have hun' : ¬ lst listed i:=fun h=>by unfold lst at h;rw [h] at hun;cases hun
 have hr' : ∀ e∈o.after,Region.binds md e=true→lst listed e.on:=fun e he hb=>by
  have:=hr e he hb
  unfold lst
  rw [Array.getD_eq_getD_getElem?] at this ⊢
  cases h:listed[e.on]? with
  | none=>rfl
  | some v=>rw [h] at this;exact this
 obtain ⟨k,hG,hob⟩:=W.each i o ho
 have hwp:∀ (hg:o.guard=none),o.wp P a w N Q→wpOp P ops Q i N a w:=fun hg h=>by
  unfold wpOp
  simp only [ho]
  rw [if_pos (by simp [Region.wanted,hg])]
  exact .inl h
 match k,hG,hob with
 | .val S,hG,hob =>
   unfold wpOp
   simp only [ho]
   rcases hob.2 a w (I.view W ho hun') (I.known W ho hr') with ⟨hw,hu⟩|⟨hw,hu⟩
   ·rw [if_pos hw]
    refine .inl ?_
    unfold Oper.wp
    generalize (execOp a.eval o).run P w=r at *
    cases r with
    | ok n w' =>
      cases n <;> simp only [tyUpon] at hu <;> simp only [Oper.upon]
      case value u=>exact hN _ _ _ (I.val W ho hG hun' hr' hu.1 hu.2)
      case skip=>exact hN _ _ _ (I.val W ho hG hun' hr' hu.1 hu.2)
      case enter fn args =>
       obtain ⟨e1,hc⟩:=hu
       rw [e1]
       exact hc.mono fun e w'' ⟨v,he,h1,h2⟩=>by subst he;exact hN _ _ _ (I.val W ho hG hun' hr' h1 h2)
    | halt x w'=>simp only [tyUpon] at hu
   ·rw [if_neg (by rw [hw];simp)]
    exact hN _ _ _ (I.val W ho hG hun' hr' (aB _ _) hu)
 | .new o0,hG,hob =>
   refine hwp hob.2.1 ?_
   unfold Oper.wp
   rw [hob.2.2.2 a w]
   exact hN _ _ _ (I.new W ho hG hun' hr')
 | .put d S,hG,hob =>
   obtain ⟨hd,hg,b,hK,hu⟩:=I.put W ho hG hun' hr'
   refine hwp hg ?_
   unfold Oper.wp
   generalize (execOp a.eval o).run P w=r at *
   cases r with
   | ok n w' =>
     cases n <;> simp only [putUpon] at hu <;> simp only [Oper.upon,hd,Act.put]
     case value u=>obtain ⟨o',h1,h2⟩:=hu;exact hN _ _ _ (hK _ _ h1 h2)
     case skip=>obtain ⟨o',h1,h2⟩:=hu;exact hN _ _ _ (hK _ _ h1 h2)
   | halt x w'=>simp only [putUpon] at hu
 | .old b S,hG,hob =>
   obtain ⟨hd,hg,b,hK,hu⟩:=I.old W ho hG hun' hr'
   refine hwp hg ?_
   unfold Oper.wp
   generalize (execOp a.eval o).run P w=r at *
   cases r with
   | ok n w' =>
     cases n <;> simp only [putUpon] at hu <;> simp only [Oper.upon,hd,Act.put]
     case value u=>obtain ⟨o',h1,h2⟩:=hu;exact hN _ _ _ (hK _ _ h1 h2)
     case skip=>obtain ⟨o',h1,h2⟩:=hu;exact hN _ _ _ (hK _ _ h1 h2)
   | halt x w'=>simp only [putUpon] at hu
end
section
variable {P:Program} {ops:Array Oper} {K:Obj→Bool} {T:List Nat} {E:Nat→Nat→Bool} {w0:World} {a0:Act} {md:Region.Mode} {G:List Ent} {listed:Array Bool} {f:Tmp→Value} {a:Act} {w:World}
theorem ready_nil (hf:Region.tyB md ops a0.tmps.size=true) (hs:listed.size=ops.size) (h:Region.ready md ops listed = []):∀ i,i<ops.size→lst listed i:=by
 intro i
 induction i using Nat.strongRecOn with
 | ind i ih =>
   intro hi
   apply Classical.byContradiction
   intro hn
   have:i∈Region.ready md ops listed:=by
    rw [mem_ready]
    refine ⟨by unfold lst at hn;simpa using hn,ops[i],Array.getElem?_eq_getElem hi,fun e he hb=>?_⟩
    have hlt:=(tyB_spec hf (Array.getElem?_eq_getElem hi)).1 e he hb
    have:=ih e.on hlt (by omega)
    unfold lst at this
    rw [Array.getD_eq_getD_getElem?,Array.getElem?_eq_getElem (by omega)] at this ⊢
    exact this
   rw [h] at this
   cases this
def left (listed:Array Bool):Nat:=(listed.toList.filter (!·)).length
theorem left_set {i:Nat} (h:¬ lst listed i):left listed=left (listed.setIfInBounds i true)+1:=by
 unfold lst at h
 have hi:i<listed.size:=by
  rcases Nat.lt_or_ge i listed.size with h'|h'
  ·exact h'
  ·exact absurd (by rw [Array.getD_eq_getD_getElem?,Array.getElem?_eq_none h'];rfl) h
 have hv:listed[i]=false:=by
  rw [Array.getD_eq_getD_getElem?,Array.getElem?_eq_getElem hi] at h
  simpa using h
 unfold left
 have key:∀ (l:List Bool) (i:Nat) (h:i<l.length),l[i]=false→(l.filter (!·)).length=((l.set i true).filter (!·)).length+1:=by
  intro l
  induction l with
  | nil=>intro i h;simp at h
  | cons b l ih =>
    intro i h hb
    match i with
    | 0=>simp only [List.getElem_cons_zero] at hb;subst hb;simp
    | i+1 =>
      have:=ih i (by simpa using h) (by simpa using hb)
      rw [List.set_cons_succ]
      cases b <;> simp <;> omega
 have:=key listed.toList i (by rw [Array.length_toList];exact hi) (by rw [Array.getElem_toList];exact hv)
 rw [Array.toList_setIfInBounds]
 exact this
theorem left_zero (h:left listed=0):∀ i,lst listed i:=by
 intro i
 unfold lst
 rw [Array.getD_eq_getD_getElem?]
 cases hv:listed[i]? with
 | none=>rfl
 | some b =>
   cases b with
   | true=>rfl
   | false =>
     unfold left at h
     have:=List.length_eq_zero_iff.1 h
     rw [List.filter_eq_nil_iff] at this
     have hm:false∈listed.toList:=by
      rw [Array.mem_toList_iff]
      exact Array.mem_of_getElem? hv
     exact absurd rfl (this false hm)
theorem any_of_inv {Q:Exit→Act→World→Prop} (W:Walked P ops K T E w0 a0 md G) (hQ:∀ listed f a w,(∀ i,i<ops.size→lst listed i)→Inv ops K T w0 a0 md G listed f a w→Q .normal a w) :
 ∀ (n:Nat) (listed:Array Bool) (f:Tmp→Value) (a:Act) (w:World),left listed=n→Inv ops K T w0 a0 md G listed f a w→wpAny P md ops Q n listed a w
 | 0,listed,f,a,w,hn,I=>by
   have hall:=left_zero hn
   refine ⟨?_,hQ _ _ _ _ (fun i _=>hall i) I⟩
   apply List.eq_nil_iff_forall_not_mem.2
   intro i hi
   have:=(mem_ready.1 hi).1
   have h2:=hall i
   unfold lst at h2
   rw [h2] at this
   cases this
 | n + 1,listed,f,a,w,hn,I =>
   ⟨fun h=>hQ _ _ _ _ (ready_nil W.form I.lsize h) I,fun i hi=>by
    refine I.step W hi (fun f' a' w' I'=>any_of_inv W hQ n _ f' a' w' ?_ I')
    have:=left_set (listed:=listed) (i:=i) (fun h=>by
     have h1:=(mem_ready.1 hi).1
     unfold lst at h
     rw [h] at h1
     cases h1)
    omega⟩
theorem frameOf_size (g:List Ent):(frameOf a0 g f).tmps.size=a0.tmps.size:=by
 induction g with
 | nil=>rfl
 | cons e g ih=>simp only [frameOf];split <;> simp [Act.put_size,ih]
theorem frameOf_defers (g:List Ent):(frameOf a0 g f).defers=a0.defers:=by
 induction g with
 | nil=>rfl
 | cons e g ih=>simp only [frameOf];split <;> simp [Act.put_defers,ih]
theorem frameOf_hit {g:List Ent} {t:Tmp} (h:∃ e∈g,e.dst=some t) (ht:t<a0.tmps.size):(frameOf a0 g f).eval (.tmp t)=f t:=by
 induction g with
 | nil=>obtain ⟨_,h,_⟩:=h;cases h
 | cons e g ih =>
   simp only [frameOf]
   by_cases hd:e.dst=some t
   ·rw [hd]
    exact Act.eval_put_hit (by rw [frameOf_size];exact ht)
   ·have hg:∃ e∈g,e.dst=some t:=by
     obtain ⟨e',he',hd'⟩:=h
     rcases List.mem_cons.1 he' with rfl|he'
     ·exact absurd hd' hd
     ·exact ⟨e',he',hd'⟩
    split
    ·rename_i d he
     rw [Act.eval_put_miss (by rw [← he];exact hd)]
     exact ih hg
    ·exact ih hg
theorem frameOf_miss {g:List Ent} {t:Tmp} (h:∀ e∈g,e.dst≠some t):(frameOf a0 g f).eval (.tmp t)=a0.eval (.tmp t):=by
 induction g with
 | nil=>rfl
 | cons e g ih =>
   simp only [frameOf]
   have hg:=ih (fun e' he'=>h e' (by simp [he']))
   split
   ·rename_i d he
    rw [Act.eval_put_miss (by rw [← he];exact h e (by simp))]
    exact hg
   ·exact hg
theorem Act.ext_eval {a b:Act} (hs:a.tmps.size=b.tmps.size) (hd:a.defers=b.defers) (h:∀ t,t<a.tmps.size→a.eval (.tmp t)=b.eval (.tmp t)):a=b:=by
 obtain ⟨x,y⟩:=a
 obtain ⟨x',y'⟩:=b
 simp only at hs hd
 subst hd
 congr 1
 apply Array.ext hs
 intro i h1 h2
 have:=h i h1
 simp only [Act.eval,Array.getD_eq_getD_getElem?,Array.getElem?_eq_getElem h1,Array.getElem?_eq_getElem h2,Option.getD_some] at this
 exact this
theorem walked_of {Q:Act→World→Prop}:∀ (rest:List Oper) (g:List Ent),wpTy P ops K T E w0 a0 Q rest g→∃ H:List Ent,H.length=rest.length ∧
 (∀ (i:Nat) (o:Oper),rest[i]?=some o→∃ k,H[i]?=some ⟨o.dst,k⟩∧Oblig P ops K T E w0 a0 ((H.take i).reverse++g) o k)∧wpTy P ops K T E w0 a0 Q [] (H.reverse++g)
 | [],g,h=>⟨[],rfl,fun i o h'=>by simp at h',by simpa using h⟩
 | o :: rest,g,h=>by
   obtain ⟨k,hk,hr⟩:=h
   obtain ⟨H,h1,h2,h3⟩:=walked_of rest _ hr
   refine ⟨⟨o.dst,k⟩::H,by simp [h1],fun i o' h'=>?_,by simpa using h3⟩
   match i with
   | 0 =>
     simp only [List.getElem?_cons_zero,Option.some.injEq] at h'
     subst h'
     exact ⟨k,rfl,by simpa using hk⟩
   | i+1 =>
     obtain ⟨k',e1,e2⟩:=h2 i o' (by simpa using h')
     exact ⟨k',by simpa using e1,by simpa using e2⟩
theorem wp_region_ty {id:Nat} {Q:Exit→Act→World→Prop} {l:List Oper} (K:Obj→Bool) (T:List Nat) (E:Nat→Nat→Bool) (hT:T.Nodup) (hlt:∀ b∈T,b<w0.heap.size) (hm:P.follows .mixedOrders=true) (hf:Region.tyB .any l.toArray a0.tmps.size=true)
 (h:wpTy P l.toArray K T E w0 a0 (fun a w=>Q .normal a w) l []):(Code.region id l.toArray true).wp P Q a0 w0:=by
 obtain ⟨H,h1,h2,h3⟩:=walked_of l [] h
 simp only [List.append_nil] at h2 h3
 obtain ⟨honce,hearly,hfin⟩:=h3
 rw [List.reverse_reverse] at hearly
 have honce' : onceB H=true:=by
  simp only [onceB,Bool.and_eq_true,decide_eq_true_eq,List.filterMap_reverse] at honce ⊢
  exact ⟨(List.reverse_perm _).nodup_iff.1 honce.1,(List.reverse_perm _).nodup_iff.1 honce.2⟩
 have W:Walked P l.toArray K T E w0 a0 .any H:=⟨by simpa using h1,fun i o ho=>h2 i o (by simpa using ho),hf,honce',hearly,hT,hlt⟩
 refine wp_region_any hm ?_
 have hlst:∀ i,i<l.toArray.size→¬ lst (Array.replicate l.toArray.size false) i:=fun i hi h=>by
  unfold lst at h
  rw [Array.getD_eq_getD_getElem?,Array.getElem?_replicate,if_pos hi] at h
  cases h
 have hop:∀ {i:Nat} {o:Oper},l.toArray[i]?=some o→i<l.toArray.size:=fun h=>by
  rcases Nat.lt_or_ge _ l.toArray.size with h'|h'
  ·exact h'
  ·rw [Array.getElem?_eq_none h'] at h;cases h
 have hent:∀ {i:Nat} {e:Ent},H[i]?=some e→i<l.toArray.size:=fun h=>by
  obtain ⟨hlt,_⟩:=List.getElem?_eq_some_iff.1 h
  rw [← W.len];exact hlt
 refine any_of_inv W (fun listed f a w hall I=>?_) _ _ (fun _=>undef) _ _ (by simp [left]) ?_
 ·have hmem:∀ {e:Ent},e∈H.reverse→∃ i,H[i]?=some e∧lst listed i:=fun he=>by
   obtain ⟨i,hi⟩:=List.getElem?_of_mem (List.mem_reverse.1 he)
   exact ⟨i,hi,hall i (hent hi)⟩
  have hfr:a=frameOf a0 H.reverse f:=by
   refine Act.ext_eval (by rw [frameOf_size];exact I.tsize) (by rw [frameOf_defers];exact I.defers) (fun t ht=>?_)
   by_cases hd:∃ e∈H.reverse,e.dst=some t
   ·rw [frameOf_hit hd (by rw [← I.tsize];exact ht)]
    obtain ⟨e,he,hde⟩:=hd
    obtain ⟨i,hi,hl⟩:=hmem he
    obtain ⟨o,ho,hd',_⟩:=W.ent hi
    exact I.hit i o t ho hl (by rw [← hd'];exact hde)
   ·rw [frameOf_miss (fun e he hde=>hd ⟨e,he,hde⟩)]
    refine I.miss t (fun i o ho hdo=>hd ?_)
    obtain ⟨k,hk,_⟩:=W.each i o ho
    exact ⟨_,List.mem_reverse.2 (List.mem_of_getElem? hk),hdo⟩
  rw [hfr]
  refine hfin f w I.base I.ext (fun e he=>?_) (fun k b hk hn=>I.still k b hk (fun j S hj _=>hn S (List.mem_reverse.2 (List.mem_of_getElem? hj)))) (fun d d' o o' hd hd' hne=>?_)
  ·obtain ⟨i,hi,hl⟩:=hmem he
   obtain ⟨dst,kd⟩:=e
   unfold Final1
   match dst,kd,hi with
   | some d,.val S,hi=>exact I.vals i d S hi hl
   | some d,.new o0,hi =>
     obtain ⟨b,e1,e2,e3,e4,e5⟩:=I.news i d o0 hi hl
     refine ⟨b,e1,e2,e3,fun hn=>e4 (fun j S hj _=>hn S (List.mem_reverse.2 (List.mem_of_getElem? hj))),fun S hS=>?_⟩
     obtain ⟨j,hj,hlj⟩:=hmem hS
     exact e5 j S hj hlj
   | none,.old k S,hi =>
     obtain ⟨_,_,_,hob⟩:=W.ent hi
     obtain ⟨_,_,_,b,o0,hb,_⟩:=hob
     obtain ⟨o,h1,h2⟩:=I.olds i k b S hi hb hl
     exact ⟨b,o,hb,h1,h2⟩
   | some d,.old b S,hi =>
     obtain ⟨o,_,hd,hob⟩:=W.ent hi
     have:=hob.1
     rw [← hd] at this
     cases this
   | none,.val S,_=>trivial
   | none,.new o0,_=>trivial
   | none,.put d S,_=>trivial
   | some d',.put d S,_=>trivial
  ·obtain ⟨i,hi,hl⟩:=hmem hd
   obtain ⟨i',hi',hl'⟩:=hmem hd'
   exact I.apart i i' d d' o o' hi hi' hl hl' hne
 ·refine ⟨by simp,rfl,rfl,fun i o d ho hl _=>absurd hl (hlst i (hop ho)),fun _ _=>rfl,fun i o ho hl=>absurd hl (hlst i (hop ho)),⟨rfl,rfl,rfl,aR _,fun _ _ _=>rfl⟩,⟨aR _,fun _ _ h _=>h⟩,
   fun i d S hi hl=>absurd hl (hlst i (hent hi)),fun i d o hi hl=>absurd hl (hlst i (hent hi)),fun i k b S hi _ hl=>absurd hl (hlst i (hent hi)),fun _ _ _ _=>rfl,
   fun i i' d d' o o' hi _ hl=>absurd hl (hlst i (hent hi))⟩
end
end Ab
section
open Go.RowKit
def hotObj (K:Value→Bool):Obj→Bool
 | .cells cs _ _=>cs.any K
 | _=>false
structure Ext (K:Value→Bool) (w w' : World):Prop where
 size:w.heap.size≤w'.heap.size
 block:∀ (g:Nat) (o:Obj),w.heap[g]?=some o→hotObj K o=true→w'.heap[g]?=some o
theorem lt_of_block {w:World} {g:Nat} {o:Obj} (h:w.heap[g]?=some o):g<w.heap.size:=by
 rcases Nat.lt_or_ge g w.heap.size with hlt|hge
 ·exact hlt
 ·rw [Array.getElem?_eq_none hge] at h;cases h
theorem Ext.trans {K:Value→Bool} {a b c:World} (h:Ext K a b) (h' : Ext K b c):Ext K a c:=⟨Nat.le_trans h.size h'.size,fun g o hg ho=>h'.block g o (h.block g o hg ho) ho⟩
theorem Ext.of_below {K:Value→Bool} {w w' : World} (h:Below w.heap.size w w'):Ext K w w':=⟨h.size,fun g _ hg _=>(h.block g (lt_of_block hg)).trans hg⟩
abbrev Sp:=Value→World→Prop
def Stable (K:Value→Bool) (S:Sp):Prop := ∀ v w w',S v w→Ext K w w'→S v w'
def StableO (K:Value→Bool) (S:Obj→World→Prop):Prop := ∀ v w w',S v w→Ext K w w'→S v w'
def Sp.is (u:Value):Sp:=fun v _=>v=u
theorem Sp.is_stable (K:Value→Bool) (u:Value):Stable K (Sp.is u):=fun _ _ _ h _=>h
inductive Kd where
 | val (S:Sp)
 | new (o:Obj)
 | put (d:Tmp) (S:Obj→World→Prop)
 | old (g:Nat) (S:Obj→World→Prop)
structure Ent where
 dst:Option Tmp
 kd:Kd
def isVar (B:Nat):Sp:=fun v w => ∃ g,v = .pointer (some ⟨g,0,none⟩)∧B≤g∧g<w.heap.size
def Kd.spec (B:Nat):Kd→Sp
 | .val S=>S
 | .new _=>isVar B
 | _=>fun _ _=>True
def specOf (a0:Act) (B:Nat) (t:Tmp):List Ent→Sp
 | []=>fun v _=>v=a0.eval (.tmp t)
 | e::g=>if e.dst=some t then e.kd.spec B else specOf a0 B t g
def known (a0:Act) (B:Nat) (g:List Ent) (A:Act) (w:World):List Tmp→Prop
 | []=>True
 | t::l=>specOf a0 B t g (A.eval (.tmp t)) w∧known a0 B g A w l
theorem known_iff {a0:Act} {B:Nat} {g:List Ent} {A:Act} {w:World} {l:List Tmp}:known a0 B g A w l↔∀ t∈l,specOf a0 B t g (A.eval (.tmp t)) w:=by
 induction l with
 | nil=>simp [known]
 | cons t l ih=>simp [known,ih]
structure Base (T:List Nat) (w0 w:World):Prop where
 os:w.os=w0.os
 tape:w.tape=w0.tape
 output:w.output=w0.output
 size:w0.heap.size≤w.heap.size
 block:∀ k,k<w0.heap.size→k∉T→w.heap[k]?=w0.heap[k]?
theorem Base.below {w0 w:World} (h:Base [] w0 w):Below w0.heap.size w0 w:=⟨h.os,h.tape,h.output,h.size,fun k hk=>h.block k hk (by simp)⟩
theorem Base.step {T:List Nat} {w0 w w' : World} (h:Base T w0 w) (h' : Below w.heap.size w w'):Base T w0 w' :=
 ⟨h'.os.trans h.os,h'.tape.trans h.tape,h'.output.trans h.output,Nat.le_trans h.size h'.size,fun k hk hT=>(h'.block k (Nat.lt_of_lt_of_le hk h.size)).trans (h.block k hk hT)⟩
structure Turned (g:Nat) (o:Obj) (w w' : World):Prop where
 os:w'.os=w.os
 tape:w'.tape=w.tape
 output:w'.output=w.output
 size:w'.heap.size=w.heap.size
 at_:w'.heap[g]?=some o
 block:∀ k,k≠g→w'.heap[k]?=w.heap[k]?
theorem Turned.ext {K:Value→Bool} {g:Nat} {o o0:Obj} {w w' : World} (h:Turned g o w w') (h0:w.heap[g]?=some o0) (hc:hotObj K o0=false):Ext K w w':=by
 refine ⟨by rw [h.size];exact aR _,fun k o' hk ho=>?_⟩
 by_cases e:k=g
 ·subst e
  rw [h0] at hk
  injection hk with hk
  subst hk
  rw [hc] at ho
  cases ho
 ·rw [h.block k e];exact hk
def TyPost (w:World) (S:Sp) (e:Ending) (w'' : World):Prop := ∃ v,e = .returned v∧Below w.heap.size w w''∧S v w''
def tyUpon (P:Program) (w:World) (S:Sp):Result Next→Prop
 | .ok (.value u) w'=>Below w.heap.size w w'∧S u w'
 | .ok .skip w'=>Below w.heap.size w w'∧S undef w'
 | .ok (.enter f args) w'=>w'=w∧Calls P f args w (TyPost w S)
 | _=>False
def putUpon (g:Nat) (w:World) (S:Obj→World→Prop):Result Next→Prop
 | .ok (.value _) w' => ∃ o,Turned g o w w'∧S o w
 | .ok .skip w' => ∃ o,Turned g o w w'∧S o w
 | _=>False
def putOf (e:Ent):Option Tmp:=match e.dst,e.kd with|none,.put d _=>some d|_,_=>none
def isOld (e:Ent):Bool:=match e.kd with | .old _ _=>true|_=>false
def onceB (G:List Ent):Bool:=decide ((G.filterMap putOf).Nodup)&&decide ((G.filter isOld).length≤1)
section
variable (P:Program) (ops:Array Oper) (K:Value→Bool) (T:List Nat) (w0:World) (a0:Act)
def Oblig (g:List Ent) (o:Oper):Kd→Prop
 | .val S=>Stable K S∧∀ (A:Act) (w:World),Base T w0 w→known a0 w0.heap.size g A w (o.looksAt ops) →
  (Region.wanted o (yielded ops A.tmps)=true∧tyUpon P w S ((execOp A.eval o).run P w))∨(Region.wanted o (yielded ops A.tmps)=false∧S undef w)
 | .new o0=>hotObj K o0=false∧o.guard=none∧o.dst.isSome=true∧∀ (A:Act) (w:World),(execOp A.eval o).run P w = .ok (.value (.pointer (some ⟨w.heap.size,0,none⟩))) (w.alloc o0)
 | .put d S=>o.dst=none∧o.guard=none∧d∈o.looksAt ops∧StableO K S∧∃ o0,(⟨some d,.new o0⟩:Ent)∈g ∧
  ∀ (A:Act) (w:World) (b:Nat),Base T w0 w→known a0 w0.heap.size g A w (o.looksAt ops)→A.eval (.tmp d) = .pointer (some ⟨b,0,none⟩)→w.heap[b]?=some o0→putUpon b w S ((execOp A.eval o).run P w)
 | .old b S=>o.dst=none∧o.guard=none∧b∈T∧b<w0.heap.size∧StableO K S∧∃ o0,w0.heap[b]?=some o0∧hotObj K o0=false ∧
  ∀ (A:Act) (w:World),Base T w0 w→known a0 w0.heap.size g A w (o.looksAt ops)→w.heap[b]?=some o0→putUpon b w S ((execOp A.eval o).run P w)
def frameOf:List Ent→(Tmp→Value)→Act
 | [],_=>a0
 | e::g,f=>match e.dst with
   | some d=>(frameOf g f).put (some d) (f d)
   | none=>frameOf g f
def Final1 (G:List Ent) (f:Tmp→Value) (w:World) (e:Ent):Prop :=
 match e.dst,e.kd with
 | some d,.val S=>S (f d) w
 | some d,.new o0 => ∃ b,f d = .pointer (some ⟨b,0,none⟩)∧w0.heap.size≤b∧b<w.heap.size∧((∀ S,(⟨none,.put d S⟩:Ent)∉G)→w.heap[b]?=some o0)∧(∀ S,(⟨none,.put d S⟩:Ent)∈G→∃ o,S o w∧w.heap[b]?=some o)
 | _,.old b S => ∃ o,S o w∧w.heap[b]?=some o
 | _,_=>True
def Apart (G:List Ent) (f:Tmp→Value):Prop := ∀ d d' o o',(⟨some d,.new o⟩:Ent)∈G→(⟨some d',.new o'⟩:Ent)∈G→d≠d'→f d≠f d'
def wpTy (Q:Act→World→Prop):List Oper→List Ent→Prop
 | [],g=>onceB g=true∧∀ (f:Tmp→Value) (w:World),Base T w0 w→(∀ e∈g,Final1 w0 g f w e)→Apart g f→Q (frameOf a0 g f) w
 | o::rest,g => ∃ k,Oblig P ops K T w0 a0 g o k∧wpTy Q rest (⟨o.dst,k⟩::g)
end
def Region.tyB (md:Region.Mode) (ops:Array Oper) (n:Nat):Bool :=
 Region.noSelect ops&&(List.range ops.size).all fun i=>(ops[i]?).all fun o =>
  (o.after.all fun e => !Region.binds md e || decide (e.on<i)) &&
  (match o.dst with|some d=>decide (d<n)&&(List.range ops.size).all (fun j=>j==i || (ops[j]?).all fun o'=>o'.dst != some d)|none=>true) &&
  (o.looksAt ops).all fun t=>(List.range ops.size).all fun j=>(ops[j]?).all fun o'=>o'.dst != some t || (decide (j<i)&&o.after.any fun e=>Region.binds md e&&e.on==j)
section
variable {P:Program} {ops:Array Oper} {K:Value→Bool} {T:List Nat} {w0:World} {a0:Act} {md:Region.Mode}
theorem specOf_of {B:Nat} {t:Tmp} {v:Value} {w:World} {g:List Ent} (h1:∀ e∈g,e.dst=some t→e.kd.spec B v w) (h2:(∀ e∈g,e.dst≠some t)→v=a0.eval (.tmp t)):specOf a0 B t g v w:=by
 induction g with
 | nil=>exact h2 (fun _ h=>by cases h)
 | cons e g ih =>
   simp only [specOf]
   split
   ·rename_i he
    exact h1 e (by simp) he
   ·rename_i he
    refine ih (fun e' he'=>h1 e' (by simp [he'])) (fun hn=>h2 (fun e' he'=>?_))
    rcases List.mem_cons.1 he' with rfl|he'
    ·exact he
    ·exact hn e' he'
def lst (listed:Array Bool) (i:Nat):Prop:=listed.getD i true=true
theorem lst_set {listed:Array Bool} {i j:Nat} (hi:i<listed.size):lst (listed.setIfInBounds i true) j↔(j=i∨lst listed j):=by
 unfold lst
 simp only [Array.getD_eq_getD_getElem?,Array.getElem?_setIfInBounds]
 by_cases h:i=j
 ·subst h;simp [hi]
 ·simp only [h,if_false]
  constructor
  ·intro h';exact .inr h'
  ·rintro (rfl|h')
   ·exact absurd rfl h
   ·exact h'
structure Inv (ops:Array Oper) (T:List Nat) (w0:World) (a0:Act) (md:Region.Mode) (G:List Ent) (listed:Array Bool) (f:Tmp→Value) (a:Act) (w:World):Prop where
 lsize:listed.size=ops.size
 defers:a.defers=a0.defers
 tsize:a.tmps.size=a0.tmps.size
 hit:∀ (i:Nat) (o:Oper) d,ops[i]?=some o→lst listed i→o.dst=some d→a.eval (.tmp d)=f d
 miss:∀ t,(∀ (i:Nat) (o:Oper),ops[i]?=some o→o.dst≠some t)→a.eval (.tmp t)=a0.eval (.tmp t)
 closed:∀ (i:Nat) (o:Oper),ops[i]?=some o→lst listed i→∀ e∈o.after,Region.binds md e=true→lst listed e.on
 base:Base T w0 w
 vals:∀ (i:Nat) d S,G[i]?=some ⟨some d,.val S⟩→lst listed i→S (f d) w
 news:∀ (i:Nat) d o0,G[i]?=some ⟨some d,.new o0⟩→lst listed i→∃ b,f d = .pointer (some ⟨b,0,none⟩)∧w0.heap.size≤b∧b<w.heap.size ∧
  ((∀ (j:Nat) S,G[j]?=some ⟨none,.put d S⟩→¬ lst listed j)→w.heap[b]?=some o0)∧(∀ (j:Nat) S,G[j]?=some ⟨none,.put d S⟩→lst listed j→∃ o,S o w∧w.heap[b]?=some o)
 olds:∀ (j:Nat) b S,G[j]?=some ⟨none,.old b S⟩→(¬ lst listed j→w.heap[b]?=w0.heap[b]?)∧(lst listed j→∃ o,S o w∧w.heap[b]?=some o)
 apart:∀ (i i' : Nat) d d' o o',G[i]?=some ⟨some d,.new o⟩→G[i']?=some ⟨some d',.new o'⟩→lst listed i→lst listed i'→d≠d'→f d≠f d'
structure Walked (P:Program) (ops:Array Oper) (K:Value→Bool) (T:List Nat) (w0:World) (a0:Act) (md:Region.Mode) (G:List Ent):Prop where
 len:G.length=ops.size
 each:∀ (i:Nat) (o:Oper),ops[i]?=some o→∃ k,G[i]?=some ⟨o.dst,k⟩∧Oblig P ops K T w0 a0 (G.take i).reverse o k
 form:Region.tyB md ops a0.tmps.size=true
 once:onceB G=true
theorem tyB_spec {n:Nat} (h:Region.tyB md ops n=true) {i:Nat} {o:Oper} (ho:ops[i]?=some o) :
 (∀ e∈o.after,Region.binds md e=true→e.on<i)∧(∀ d,o.dst=some d→d<n∧∀ (j:Nat) (o' : Oper),ops[j]?=some o'→o'.dst=some d→j=i) ∧
 (∀ t∈o.looksAt ops,∀ (j:Nat) (o' : Oper),ops[j]?=some o'→o'.dst=some t→j<i∧∃ e∈o.after,Region.binds md e=true∧e.on=j):=by
 have lt:∀ {j:Nat} {o' : Oper},ops[j]?=some o'→j<ops.size:=fun h=>by
  rcases Nat.lt_or_ge _ ops.size with h'|h'
  ·exact h'
  ·rw [Array.getElem?_eq_none h'] at h;cases h
 simp only [Region.tyB,Bool.and_eq_true,List.all_eq_true,List.mem_range] at h
 have h2:=h.2 i (lt ho)
 simp only [ho,Option.all_some,Bool.and_eq_true] at h2
 obtain ⟨⟨h3,h4⟩,h5⟩:=h2
 refine ⟨fun e he hb=>?_,fun d hd=>?_,fun t ht j o' hj hdt=>?_⟩
 ·have:=Array.all_eq_true'.1 h3 e he
  simp only [hb,Bool.not_true,Bool.false_or,decide_eq_true_eq] at this
  exact this
 ·rw [hd] at h4
  simp only [Bool.and_eq_true,decide_eq_true_eq,List.all_eq_true,List.mem_range] at h4
  refine ⟨h4.1,fun j o' hj hd'=>?_⟩
  have:=h4.2 j (lt hj)
  simp only [hj,Option.all_some,Bool.or_eq_true,beq_iff_eq,bne_iff_ne] at this
  rcases this with h|h
  ·exact h
  ·exact absurd hd' h
 ·have:=List.all_eq_true.1 h5 t ht
  have:=List.all_eq_true.1 this j (List.mem_range.2 (lt hj))
  simp only [hj,Option.all_some,Bool.or_eq_true,bne_iff_ne,Bool.and_eq_true,decide_eq_true_eq] at this
  rcases this with h|⟨h,h'⟩
  ·exact absurd hdt h
  ·obtain ⟨e,he,hb⟩:=Array.any_eq_true'.1 h'
   simp only [Bool.and_eq_true,beq_iff_eq] at hb
   exact ⟨h,e,he,hb.1,hb.2⟩
end
section
variable {P:Program} {ops:Array Oper} {K:Value→Bool} {T:List Nat} {w0:World} {a0:Act} {md:Region.Mode} {G:List Ent}
theorem Walked.ent (W:Walked P ops K T w0 a0 md G) {i:Nat} {e:Ent} (h:G[i]?=some e):∃ o,ops[i]?=some o∧e.dst=o.dst∧Oblig P ops K T w0 a0 (G.take i).reverse o e.kd:=by
 obtain ⟨hlt,_⟩:=List.getElem?_eq_some_iff.1 h
 have hlt' : i<ops.size:=by rw [← W.len];exact hlt
 obtain ⟨k,hk,ho⟩:=W.each i ops[i] (Array.getElem?_eq_getElem hlt')
 rw [h] at hk
 injection hk with hk
 subst hk
 exact ⟨_,Array.getElem?_eq_getElem hlt',rfl,ho⟩
theorem Walked.dst (W:Walked P ops K T w0 a0 md G) {i j d:Nat} {k k' : Kd} (h:G[i]?=some ⟨some d,k⟩) (h' : G[j]?=some ⟨some d,k'⟩):i=j:=by
 obtain ⟨o,ho,hd,_⟩:=W.ent h
 obtain ⟨o',ho',hd',_⟩:=W.ent h'
 exact (tyB_spec W.form ho').2.1 d hd'.symm |>.2 i o ho hd.symm
theorem filterMap_once {α β:Type} [DecidableEq β] (f:α→Option β):∀ (l:List α) (i j:Nat) (a b:α) (x:β),(l.filterMap f).Nodup→l[i]?=some a→l[j]?=some b→f a=some x→f b=some x→i=j
 | [],i,_,_,_,_,_,h,_,_,_=>by simp at h
 | c :: l,i,j,a,b,x,hn,hi,hj,ha,hb=>by
   have tail:(l.filterMap f).Nodup:=by
    rw [List.filterMap_cons] at hn
    split at hn
    ·exact hn
    ·exact (List.nodup_cons.1 hn).2
   have mem:∀ (k:Nat) (y:α),l[k]?=some y→f y=some x→f c=some x→False:=fun k y hk hy hc=>by
    rw [List.filterMap_cons,hc] at hn
    exact (List.nodup_cons.1 hn).1 (List.mem_filterMap.2 ⟨y,List.mem_of_getElem? hk,hy⟩)
   match i,j with
   | 0,0=>rfl
   | 0,j+1 =>
     simp only [List.getElem?_cons_zero,Option.some.injEq] at hi
     subst hi
     exact (mem j b (by simpa using hj) hb ha).elim
   | i+1,0 =>
     simp only [List.getElem?_cons_zero,Option.some.injEq] at hj
     subst hj
     exact (mem i a (by simpa using hi) ha hb).elim
   | i+1,j+1=>exact congrArg (· + 1) (filterMap_once f l i j a b x tail (by simpa using hi) (by simpa using hj) ha hb)
theorem Walked.put (W:Walked P ops K T w0 a0 md G) {i j d:Nat} {S S' : Obj→World→Prop} (h:G[i]?=some ⟨none,.put d S⟩) (h' : G[j]?=some ⟨none,.put d S'⟩):i=j:=by
 have:=W.once
 simp only [onceB,Bool.and_eq_true,decide_eq_true_eq] at this
 exact filterMap_once putOf G i j _ _ d this.1 h h' rfl rfl
theorem vN {α:Type} (f:α→Bool):∀ (l:List α) (i j:Nat) (a b:α),(l.filter f).length≤1→l[i]?=some a→l[j]?=some b→f a=true→f b=true→i=j
 | [],i,_,_,_,_,h,_,_,_=>by simp at h
 | c :: l,i,j,a,b,hn,hi,hj,ha,hb=>by
   have tail:(l.filter f).length≤1:=by
    rw [List.filter_cons] at hn
    split at hn
    ·simp only [List.length_cons] at hn;omega
    ·exact hn
   have mem:∀ (k:Nat) (y:α),l[k]?=some y→f y=true→f c=true→False:=fun k y hk hy hc=>by
    rw [List.filter_cons,if_pos hc] at hn
    have:y∈l.filter f:=List.mem_filter.2 ⟨List.mem_of_getElem? hk,hy⟩
    have:=List.length_pos_of_mem this
    simp only [List.length_cons] at hn
    omega
   match i,j with
   | 0,0=>rfl
   | 0,j+1 =>
     simp only [List.getElem?_cons_zero,Option.some.injEq] at hi
     subst hi
     exact (mem j b (by simpa using hj) hb ha).elim
   | i+1,0 =>
     simp only [List.getElem?_cons_zero,Option.some.injEq] at hj
     subst hj
     exact (mem i a (by simpa using hi) ha hb).elim
   | i+1,j+1=>exact congrArg (· + 1) (vN f l i j a b tail (by simpa using hi) (by simpa using hj) ha hb)
theorem Walked.old (W:Walked P ops K T w0 a0 md G) {i j b b' : Nat} {S S' : Obj→World→Prop} (h:G[i]?=some ⟨none,.old b S⟩) (h' : G[j]?=some ⟨none,.old b' S'⟩):i=j:=by
 have:=W.once
 simp only [onceB,Bool.and_eq_true,decide_eq_true_eq] at this
 exact vN isOld G i j _ _ this.2 h h' rfl rfl
theorem Walked.stable (W:Walked P ops K T w0 a0 md G) {i d:Nat} {S:Sp} (h:G[i]?=some ⟨some d,.val S⟩):Stable K S:=by
 obtain ⟨o,_,_,ho⟩:=W.ent h;exact ho.1
theorem Walked.stable_put (W:Walked P ops K T w0 a0 md G) {i d:Nat} {S:Obj→World→Prop} (h:G[i]?=some ⟨none,.put d S⟩):StableO K S:=by
 obtain ⟨o,_,_,ho⟩:=W.ent h;exact ho.2.2.2.1
theorem Walked.stable_old (W:Walked P ops K T w0 a0 md G) {i b:Nat} {S:Obj→World→Prop} (h:G[i]?=some ⟨none,.old b S⟩):StableO K S:=by
 obtain ⟨o,_,_,ho⟩:=W.ent h;exact ho.2.2.2.2.1
variable {listed:Array Bool} {f:Tmp→Value} {a:Act} {w:World}
theorem Inv.known (I:Inv ops T w0 a0 md G listed f a w) (W:Walked P ops K T w0 a0 md G) {i:Nat} {o:Oper} (ho:ops[i]?=some o) (hr:∀ e∈o.after,Region.binds md e=true→lst listed e.on) :
 known a0 w0.heap.size (G.take i).reverse a w (o.looksAt ops):=by
 rw [known_iff]
 intro t ht
 have hf:=(tyB_spec W.form ho).2.2 t ht
 refine specOf_of (fun e he hd=>?_) (fun hn=>I.miss t (fun j oj hj hdj=>?_))
 ·obtain ⟨j,hj⟩:=List.getElem?_of_mem (List.mem_reverse.1 he)
  have hjG:G[j]?=some e:=by
   rw [List.getElem?_take] at hj
   split at hj
   ·exact hj
   ·cases hj
  obtain ⟨oj,hoj,hdj,_⟩:=W.ent hjG
  obtain ⟨_,ed,hed,hb,hon⟩:=hf j oj hoj (by rw [← hdj];exact hd)
  have hl:lst listed j:=by rw [← hon];exact hr ed hed hb
  have hv:a.eval (.tmp t)=f t:=I.hit j oj t hoj hl (by rw [← hdj];exact hd)
  rw [hv]
  obtain ⟨dst,kd⟩:=e
  simp only at hd
  subst hd
  match kd,hjG with
  | .val S,hjG=>exact I.vals j t S hjG hl
  | .new o0,hjG =>
    obtain ⟨b,h1,h2,h3,_⟩:=I.news j t o0 hjG hl
    exact ⟨b,h1,h2,h3⟩
  | .put _ _,_=>trivial
  | .old _ _,_=>trivial
 ·obtain ⟨hlt,_⟩:=hf j oj hj hdj
  obtain ⟨k,hk,_⟩:=W.each j oj hj
  refine hn ⟨oj.dst,k⟩ (List.mem_reverse.2 (List.mem_of_getElem? (i:=j) ?_)) hdj
  rw [List.getElem?_take,if_pos hlt]
  exact hk
theorem Act.eval_put_hit {a:Act} {d:Tmp} {v:Value} (h:d<a.tmps.size):(a.put (some d) v).eval (.tmp d)=v:=by
 simp [Act.put,Act.eval,h]
theorem Act.eval_put_miss {a:Act} {dst:Option Tmp} {t:Tmp} {v:Value} (h:dst≠some t):(a.put dst v).eval (.tmp t)=a.eval (.tmp t):=by
 cases dst with
 | none=>rfl
 | some d =>
   have:d≠t:=fun e=>h (by rw [e])
   simp [Act.put,Act.eval,Array.getElem?_setIfInBounds_ne this]
theorem Act.put_size {a:Act} {dst:Option Tmp} {v:Value}:(a.put dst v).tmps.size=a.tmps.size:=by
 cases dst <;> simp [Act.put]
theorem Act.put_defers {a:Act} {dst:Option Tmp} {v:Value}:(a.put dst v).defers=a.defers:=by
 cases dst <;> rfl
def upd (f:Tmp→Value) (dst:Option Tmp) (v:Value):Tmp→Value:=fun t=>if dst=some t then v else f t
theorem upd_hit {f:Tmp→Value} {d:Tmp} {v:Value}:upd f (some d) v d=v:=by simp [upd]
theorem upd_miss {f:Tmp→Value} {dst:Option Tmp} {t:Tmp} {v:Value} (h:dst≠some t):upd f dst v t=f t:=by simp [upd,h]
theorem Inv.frame (I:Inv ops T w0 a0 md G listed f a w) (W:Walked P ops K T w0 a0 md G) {i:Nat} {o:Oper} (ho:ops[i]?=some o) (hr:∀ e∈o.after,Region.binds md e=true→lst listed e.on) (v:Value) :
 (∀ (j:Nat) (o' : Oper) d,ops[j]?=some o'→lst (listed.setIfInBounds i true) j→o'.dst=some d→(a.put o.dst v).eval (.tmp d)=upd f o.dst v d) ∧
 (∀ t,(∀ (j:Nat) (o' : Oper),ops[j]?=some o'→o'.dst≠some t)→(a.put o.dst v).eval (.tmp t)=a0.eval (.tmp t)) ∧
 (∀ (j:Nat) (o' : Oper),ops[j]?=some o'→lst (listed.setIfInBounds i true) j→∀ e∈o'.after,Region.binds md e=true→lst (listed.setIfInBounds i true) e.on)∧i<listed.size:=by
 have hi:i<listed.size:=by
  rw [I.lsize]
  rcases Nat.lt_or_ge i ops.size with h|h
  ·exact h
  ·rw [Array.getElem?_eq_none h] at ho;cases ho
 refine ⟨fun j o' d hj hl hd=>?_,fun t ht=>?_,fun j o' hj hl e he hb=>?_,hi⟩
 ·by_cases hji:j=i
  ·subst hji
   rw [ho] at hj
   injection hj with hj
   subst hj
   have hlt:=((tyB_spec W.form ho).2.1 d hd).1
   rw [hd,Act.eval_put_hit (by rw [I.tsize];exact hlt),upd_hit]
  ·have hl' : lst listed j:=((lst_set hi).1 hl).resolve_left hji
   have hne:o.dst≠some d:=fun e=>hji (((tyB_spec W.form ho).2.1 d e).2 j o' hj hd)
   rw [Act.eval_put_miss hne,upd_miss hne]
   exact I.hit j o' d hj hl' hd
 ·rw [Act.eval_put_miss (ht i o ho)]
  exact I.miss t ht
 ·rw [lst_set hi]
  by_cases hji:j=i
  ·subst hji
   rw [ho] at hj
   injection hj with hj
   subst hj
   exact .inr (hr e he hb)
  ·exact .inr (I.closed j o' hj (((lst_set hi).1 hl).resolve_left hji) e he hb)
theorem Inv.val (I:Inv ops T w0 a0 md G listed f a w) (W:Walked P ops K T w0 a0 md G) {i:Nat} {o:Oper} {S:Sp} (ho:ops[i]?=some o) (hG:G[i]?=some ⟨o.dst,.val S⟩) (hun:¬ lst listed i)
 (hr:∀ e∈o.after,Region.binds md e=true→lst listed e.on) {v:Value} {w' : World} (hb:Below w.heap.size w w') (hS:S v w') :
 Inv ops T w0 a0 md G (listed.setIfInBounds i true) (upd f o.dst v) (a.put o.dst v) w':=by
 obtain ⟨h1,h2,h3,hi⟩:=I.frame W ho hr v
 have hx:Ext K w w':=Ext.of_below hb
 have keep:∀ (j d:Nat) k,G[j]?=some ⟨some d,k⟩→j≠i→o.dst≠some d:=fun j d k hj hji e=>by
  rw [e] at hG
  exact hji (W.dst hj hG)
 have other:∀ {j:Nat},j≠i→(lst (listed.setIfInBounds i true) j↔lst listed j):=fun h=>by
  rw [lst_set hi];exact ⟨fun h'=>h'.resolve_left h,.inr⟩
 refine ⟨by rw [Array.size_setIfInBounds];exact I.lsize,by rw [Act.put_defers];exact I.defers,by rw [Act.put_size];exact I.tsize,h1,h2,h3,I.base.step hb,?_,?_,?_,?_⟩
 ·intro j d S' hj hl
  by_cases hji:j=i
  ·subst hji
   rw [hG] at hj
   injection hj with hj
   injection hj with e1 e2
   injection e2 with e2
   subst e2
   rw [e1,upd_hit]
   exact hS
  ·rw [upd_miss (keep j d _ hj hji)]
   exact W.stable hj _ _ _ (I.vals j d S' hj ((other hji).1 hl)) hx
 ·intro j d o0 hj hl
  have hji:j≠i:=fun e=>by subst e;rw [hG] at hj;injection hj with hj;injection hj with _ hj;cases hj
  rw [upd_miss (keep j d _ hj hji)]
  obtain ⟨b,e1,e2,e3,e4,e5⟩:=I.news j d o0 hj ((other hji).1 hl)
  refine ⟨b,e1,e2,Nat.lt_of_lt_of_le e3 hb.size,fun h=>?_,fun k S' hk hlk=>?_⟩
  ·rw [hb.block b e3]
   refine e4 (fun k S' hk hlk=>h k S' hk ?_)
   rw [lst_set hi];exact .inr hlk
  ·have hki:k≠i:=fun e=>by subst e;rw [hG] at hk;injection hk with hk;injection hk with _ hk;cases hk
   obtain ⟨o',h1',h2'⟩:=e5 k S' hk ((other hki).1 hlk)
   exact ⟨o',W.stable_put hk _ _ _ h1' hx,by rw [hb.block b e3];exact h2'⟩
 ·intro j b S' hj
  have hji:j≠i:=fun e=>by subst e;rw [hG] at hj;injection hj with hj;injection hj with _ hj;cases hj
  obtain ⟨oj,_,_,hob⟩:=W.ent hj
  have hlt:b<w.heap.size:=Nat.lt_of_lt_of_le hob.2.2.2.1 I.base.size
  rw [other hji,hb.block b hlt]
  obtain ⟨e1,e2⟩:=I.olds j b S' hj
  exact ⟨e1,fun hl=>by obtain ⟨o',h1',h2'⟩:=e2 hl;exact ⟨o',W.stable_old hj _ _ _ h1' hx,h2'⟩⟩
 ·intro j j' d d' o1 o2 hj hj' hl hl' hne
  have hji:j≠i:=fun e=>by subst e;rw [hG] at hj;injection hj with hj;injection hj with _ hj;cases hj
  have hji' : j'≠i:=fun e=>by subst e;rw [hG] at hj';injection hj' with hj';injection hj' with _ hj';cases hj'
  rw [upd_miss (keep j d _ hj hji),upd_miss (keep j' d' _ hj' hji')]
  exact I.apart j j' d d' o1 o2 hj hj' ((other hji).1 hl) ((other hji').1 hl') hne
end
section
variable {P:Program} {ops:Array Oper} {K:Value→Bool} {T:List Nat} {w0:World} {a0:Act} {md:Region.Mode} {G:List Ent} {listed:Array Bool} {f:Tmp→Value} {a:Act} {w:World}
theorem Inv.new (I:Inv ops T w0 a0 md G listed f a w) (W:Walked P ops K T w0 a0 md G) {i:Nat} {o:Oper} {o0:Obj} (ho:ops[i]?=some o) (hG:G[i]?=some ⟨o.dst,.new o0⟩) (hun:¬ lst listed i)
 (hr:∀ e∈o.after,Region.binds md e=true→lst listed e.on) :
 Inv ops T w0 a0 md G (listed.setIfInBounds i true) (upd f o.dst (.pointer (some ⟨w.heap.size,0,none⟩))) (a.put o.dst (.pointer (some ⟨w.heap.size,0,none⟩))) (w.alloc o0):=by
 obtain ⟨h1,h2,h3,hi⟩:=I.frame W ho hr (.pointer (some ⟨w.heap.size,0,none⟩))
 have hb:Below w.heap.size w (w.alloc o0):=(aB _ _).alloc (aR _) _
 have hx:Ext K w (w.alloc o0):=Ext.of_below hb
 have keep:∀ (j d:Nat) k,G[j]?=some ⟨some d,k⟩→j≠i→o.dst≠some d:=fun j d k hj hji e=>by
  rw [e] at hG
  exact hji (W.dst hj hG)
 have other:∀ {j:Nat},j≠i→(lst (listed.setIfInBounds i true) j↔lst listed j):=fun h=>by
  rw [lst_set hi];exact ⟨fun h'=>h'.resolve_left h,.inr⟩
 have hsz:(w.alloc o0).heap.size=w.heap.size+1:=by simp
 refine ⟨by rw [Array.size_setIfInBounds];exact I.lsize,by rw [Act.put_defers];exact I.defers,by rw [Act.put_size];exact I.tsize,h1,h2,h3,I.base.step hb,?_,?_,?_,?_⟩
 ·intro j d S' hj hl
  have hji:j≠i:=fun e=>by subst e;rw [hG] at hj;injection hj with hj;injection hj with _ hj;cases hj
  rw [upd_miss (keep j d _ hj hji)]
  exact W.stable hj _ _ _ (I.vals j d S' hj ((other hji).1 hl)) hx
 ·intro j d o1 hj hl
  by_cases hji:j=i
  ·subst hji
   rw [hG] at hj
   injection hj with hj
   injection hj with e1 e2
   injection e2 with e2
   subst e2
   rw [e1,upd_hit]
   refine ⟨w.heap.size,rfl,I.base.size,by rw [hsz];omega,fun _=>heap_alloc_new w _,fun k S' hk hlk=>?_⟩
   exfalso
   have hki:k≠j:=fun e=>by subst e;rw [hG] at hk;injection hk with hk;injection hk with _ hk;cases hk
   have hlk':=(other hki).1 hlk
   obtain ⟨ok,hok,_,hob⟩:=W.ent hk
   obtain ⟨_,e,he,hbd,hon⟩:=(tyB_spec W.form hok).2.2 d hob.2.2.1 j o ho e1
   have:=I.closed k ok hok hlk' e he hbd
   rw [hon] at this
   exact hun this
  ·rw [upd_miss (keep j d _ hj hji)]
   obtain ⟨b,e1,e2,e3,e4,e5⟩:=I.news j d o1 hj ((other hji).1 hl)
   refine ⟨b,e1,e2,Nat.lt_of_lt_of_le e3 hb.size,fun h=>?_,fun k S' hk hlk=>?_⟩
   ·rw [hb.block b e3]
    refine e4 (fun k S' hk hlk=>h k S' hk ?_)
    rw [lst_set hi];exact .inr hlk
   ·have hki:k≠i:=fun e=>by subst e;rw [hG] at hk;injection hk with hk;injection hk with _ hk;cases hk
    obtain ⟨o',h1',h2'⟩:=e5 k S' hk ((other hki).1 hlk)
    exact ⟨o',W.stable_put hk _ _ _ h1' hx,by rw [hb.block b e3];exact h2'⟩
 ·intro j b S' hj
  have hji:j≠i:=fun e=>by subst e;rw [hG] at hj;injection hj with hj;injection hj with _ hj;cases hj
  obtain ⟨oj,_,_,hob⟩:=W.ent hj
  have hlt:b<w.heap.size:=Nat.lt_of_lt_of_le hob.2.2.2.1 I.base.size
  rw [other hji,hb.block b hlt]
  obtain ⟨e1,e2⟩:=I.olds j b S' hj
  exact ⟨e1,fun hl=>by obtain ⟨o',h1',h2'⟩:=e2 hl;exact ⟨o',W.stable_old hj _ _ _ h1' hx,h2'⟩⟩
 ·intro j j' d d' o1 o2 hj hj' hl hl' hne
  by_cases hji:j=i
  ·subst hji
   have hji' : j'≠j:=fun e=>by subst e;rw [hj] at hj';injection hj' with hj';injection hj' with e1 _;injection e1 with e1;exact hne e1
   obtain ⟨b,e1,_,e3,_⟩:=I.news j' d' o2 hj' ((other hji').1 hl')
   have hd:o.dst=some d:=by rw [hG] at hj;injection hj with hj;injection hj
   rw [upd_miss (keep j' d' _ hj' hji'),e1,hd,upd_hit]
   intro e
   injection e with e;injection e with e;injection e with e
   omega
  ·by_cases hji' : j'=i
   ·subst hji'
    obtain ⟨b,e1,_,e3,_⟩:=I.news j d o1 hj ((other hji).1 hl)
    have hd:o.dst=some d':=by rw [hG] at hj';injection hj' with hj';injection hj'
    rw [upd_miss (keep j d _ hj hji),e1,hd,upd_hit]
    intro e
    injection e with e;injection e with e;injection e with e
    omega
   ·rw [upd_miss (keep j d _ hj hji),upd_miss (keep j' d' _ hj' hji')]
    exact I.apart j j' d d' o1 o2 hj hj' ((other hji).1 hl) ((other hji').1 hl') hne
theorem upd_none {f:Tmp→Value} {v:Value}:upd f none v=f:=by funext t;simp [upd]
theorem Turned.base {b:Nat} {o' : Obj} {w' : World} (h:Turned b o' w w') (hB:Base T w0 w) (hT:w0.heap.size≤b∨b∈T):Base T w0 w':=by
 refine ⟨h.os.trans hB.os,h.tape.trans hB.tape,h.output.trans hB.output,by rw [h.size];exact hB.size,fun k hk hkT=>?_⟩
 rw [h.block k (fun e => by subst e;rcases hT with hT|hT;· omega
                            ·exact hkT hT)]
 exact hB.block k hk hkT
theorem Inv.put (I:Inv ops T w0 a0 md G listed f a w) (W:Walked P ops K T w0 a0 md G) {i:Nat} {o:Oper} {d0:Tmp} {S0:Obj→World→Prop} (ho:ops[i]?=some o) (hG:G[i]?=some ⟨o.dst,.put d0 S0⟩) (hun:¬ lst listed i)
 (hr:∀ e∈o.after,Region.binds md e=true→lst listed e.on) :
 o.dst=none∧o.guard=none∧∃ b,(∀ w' o',Turned b o' w w'→S0 o' w→Inv ops T w0 a0 md G (listed.setIfInBounds i true) f a w')∧putUpon b w S0 ((execOp a.eval o).run P w):=by
 obtain ⟨o1,ho1,hd1,hob⟩:=W.ent hG
 rw [ho] at ho1
 injection ho1 with ho1
 subst ho1
 obtain ⟨hdn,hgn,hlook,hst,o0,hmem,hex⟩:=hob
 obtain ⟨j0,hj0⟩:=List.getElem?_of_mem (List.mem_reverse.1 hmem)
 have hjG:G[j0]?=some ⟨some d0,.new o0⟩:=by
  rw [List.getElem?_take] at hj0
  split at hj0
  ·exact hj0
  ·cases hj0
 obtain ⟨oj,hoj,hdj,hobj⟩:=W.ent hjG
 obtain ⟨_,ed,hed,hbd,hon⟩:=(tyB_spec W.form ho).2.2 d0 hlook j0 oj hoj hdj.symm
 have hl0:lst listed j0:=by rw [← hon];exact hr ed hed hbd
 obtain ⟨b,e1,e2,e3,e4,_⟩:=I.news j0 d0 o0 hjG hl0
 rw [hdn] at hG
 have hblk:w.heap[b]?=some o0:=e4 (fun k S' hk hlk=>hun (by rw [W.put hG hk];exact hlk))
 have hval:a.eval (.tmp d0) = .pointer (some ⟨b,0,none⟩):=(I.hit j0 oj d0 hoj hl0 hdj.symm).trans e1
 refine ⟨hdn,hgn,b,fun w' o' ht hS=>?_,hex a w b I.base (I.known W ho hr) hval hblk⟩
 have hx:Ext K w w':=ht.ext hblk hobj.1
 obtain ⟨h1,h2,h3,hi⟩:=I.frame W ho hr undef
 rw [hdn,upd_none] at h1
 rw [hdn] at h2
 have other:∀ {j:Nat},j≠i→(lst (listed.setIfInBounds i true) j↔lst listed j):=fun h=>by
  rw [lst_set hi];exact ⟨fun h'=>h'.resolve_left h,.inr⟩
 refine ⟨by rw [Array.size_setIfInBounds];exact I.lsize,I.defers,I.tsize,h1,h2,h3,ht.base I.base (.inl e2),?_,?_,?_,?_⟩
 ·intro j d S' hj hl
  have hji:j≠i:=fun e=>by subst e;rw [hG] at hj;injection hj with hj;injection hj with _ hj;cases hj
  exact W.stable hj _ _ _ (I.vals j d S' hj ((other hji).1 hl)) hx
 ·intro j d o2 hj hl
  have hji:j≠i:=fun e=>by subst e;rw [hG] at hj;injection hj with hj;injection hj with _ hj;cases hj
  obtain ⟨b',f1,f2,f3,f4,f5⟩:=I.news j d o2 hj ((other hji).1 hl)
  by_cases hd:d=d0
  ·subst hd
   have hbb:b'=b:=by rw [e1] at f1;injection f1 with f1;injection f1 with f1;injection f1 with f1;exact f1.symm
   subst hbb
   refine ⟨b',f1,f2,by rw [ht.size];exact f3,fun h=>?_,fun k S' hk hlk=>?_⟩
   ·exact absurd ((lst_set hi).2 (.inl rfl)) (h i S0 hG)
   ·have hki:=W.put hk hG
    subst hki
    rw [hG] at hk
    injection hk with hk
    injection hk with _ hk
    injection hk with _ hk
    subst hk
    exact ⟨o',hst _ _ _ hS hx,ht.at_⟩
  ·have hne:b'≠b:=by
    have:=I.apart j j0 d d0 o2 o0 hj hjG ((other hji).1 hl) hl0 hd
    rw [f1,e1] at this
    exact fun e=>this (by rw [e])
   refine ⟨b',f1,f2,by rw [ht.size];exact f3,fun h=>?_,fun k S' hk hlk=>?_⟩
   ·rw [ht.block b' hne]
    refine f4 (fun k S' hk hlk=>h k S' hk ?_)
    rw [lst_set hi];exact .inr hlk
   ·have hki:k≠i:=fun e=>by
     subst e;rw [hG] at hk;injection hk with hk;injection hk with _ hk;injection hk with hk _;exact hd hk.symm
    obtain ⟨o'',h1',h2'⟩:=f5 k S' hk ((other hki).1 hlk)
    exact ⟨o'',W.stable_put hk _ _ _ h1' hx,by rw [ht.block b' hne];exact h2'⟩
 ·intro j b' S' hj
  have hji:j≠i:=fun e=>by subst e;rw [hG] at hj;injection hj with hj;injection hj with _ hj;cases hj
  obtain ⟨oj',_,_,hob'⟩:=W.ent hj
  have hne:b'≠b:=by have:=hob'.2.2.2.1;omega
  rw [other hji,ht.block b' hne]
  obtain ⟨g1,g2⟩:=I.olds j b' S' hj
  exact ⟨g1,fun hl=>by obtain ⟨o'',h1',h2'⟩:=g2 hl;exact ⟨o'',W.stable_old hj _ _ _ h1' hx,h2'⟩⟩
 ·intro j j' d d' o2 o3 hj hj' hl hl' hne
  have hji:j≠i:=fun e=>by subst e;rw [hG] at hj;injection hj with hj;injection hj with _ hj;cases hj
  have hji' : j'≠i:=fun e=>by subst e;rw [hG] at hj';injection hj' with hj';injection hj' with _ hj';cases hj'
  exact I.apart j j' d d' o2 o3 hj hj' ((other hji).1 hl) ((other hji').1 hl') hne
theorem Inv.old (I:Inv ops T w0 a0 md G listed f a w) (W:Walked P ops K T w0 a0 md G) {i:Nat} {o:Oper} {b:Nat} {S0:Obj→World→Prop} (ho:ops[i]?=some o) (hG:G[i]?=some ⟨o.dst,.old b S0⟩) (hun:¬ lst listed i)
 (hr:∀ e∈o.after,Region.binds md e=true→lst listed e.on) :
 o.dst=none∧o.guard=none∧(∀ w' o',Turned b o' w w'→S0 o' w→Inv ops T w0 a0 md G (listed.setIfInBounds i true) f a w')∧putUpon b w S0 ((execOp a.eval o).run P w):=by
 obtain ⟨o1,ho1,hd1,hob⟩:=W.ent hG
 rw [ho] at ho1
 injection ho1 with ho1
 subst ho1
 obtain ⟨hdn,hgn,hbT,hblt,hst,o0,hb0,hcold,hex⟩:=hob
 rw [hdn] at hG
 have hblk:w.heap[b]?=some o0:=((I.olds i b S0 hG).1 hun).trans hb0
 refine ⟨hdn,hgn,fun w' o' ht hS=>?_,hex a w I.base (I.known W ho hr) hblk⟩
 have hx:Ext K w w':=ht.ext hblk hcold
 obtain ⟨h1,h2,h3,hi⟩:=I.frame W ho hr undef
 rw [hdn,upd_none] at h1
 rw [hdn] at h2
 have other:∀ {j:Nat},j≠i→(lst (listed.setIfInBounds i true) j↔lst listed j):=fun h=>by
  rw [lst_set hi];exact ⟨fun h'=>h'.resolve_left h,.inr⟩
 refine ⟨by rw [Array.size_setIfInBounds];exact I.lsize,I.defers,I.tsize,h1,h2,h3,ht.base I.base (.inr hbT),?_,?_,?_,?_⟩
 ·intro j d S' hj hl
  have hji:j≠i:=fun e=>by subst e;rw [hG] at hj;injection hj with hj;injection hj with _ hj;cases hj
  exact W.stable hj _ _ _ (I.vals j d S' hj ((other hji).1 hl)) hx
 ·intro j d o2 hj hl
  have hji:j≠i:=fun e=>by subst e;rw [hG] at hj;injection hj with hj;injection hj with _ hj;cases hj
  obtain ⟨b',f1,f2,f3,f4,f5⟩:=I.news j d o2 hj ((other hji).1 hl)
  have hne:b'≠b:=by omega
  refine ⟨b',f1,f2,by rw [ht.size];exact f3,fun h=>?_,fun k S' hk hlk=>?_⟩
  ·rw [ht.block b' hne]
   refine f4 (fun k S' hk hlk=>h k S' hk ?_)
   rw [lst_set hi];exact .inr hlk
  ·have hki:k≠i:=fun e=>by subst e;rw [hG] at hk;injection hk with hk;injection hk with _ hk;cases hk
   obtain ⟨o'',h1',h2'⟩:=f5 k S' hk ((other hki).1 hlk)
   exact ⟨o'',W.stable_put hk _ _ _ h1' hx,by rw [ht.block b' hne];exact h2'⟩
 ·intro j b' S' hj
  have hji:=W.old hj hG
  subst hji
  rw [hG] at hj
  injection hj with hj
  injection hj with _ hj
  injection hj with hj1 hj2
  subst hj1
  subst hj2
  exact ⟨fun h=>absurd ((lst_set hi).2 (.inl rfl)) h,fun _=>⟨o',hst _ _ _ hS hx,ht.at_⟩⟩
 ·intro j j' d d' o2 o3 hj hj' hl hl' hne
  have hji:j≠i:=fun e=>by subst e;rw [hG] at hj;injection hj with hj;injection hj with _ hj;cases hj
  have hji' : j'≠i:=fun e=>by subst e;rw [hG] at hj';injection hj' with hj';injection hj' with _ hj';cases hj'
  exact I.apart j j' d d' o2 o3 hj hj' ((other hji).1 hl) ((other hji').1 hl') hne
theorem Inv.step {Q:Exit→Act→World→Prop} (I:Inv ops T w0 a0 md G listed f a w) (W:Walked P ops K T w0 a0 md G) {i:Nat} (hi:i∈Region.ready md ops listed) {N:Act→World→Prop}
 (hN:∀ f a w,Inv ops T w0 a0 md G (listed.setIfInBounds i true) f a w→N a w):wpOp P ops Q i N a w:=by
 obtain ⟨hun,o,ho,hr⟩:=mem_ready.1 hi
 have hun' : ¬ lst listed i:=fun h=>by unfold lst at h;rw [h] at hun;cases hun
 have hr' : ∀ e∈o.after,Region.binds md e=true→lst listed e.on:=fun e he hb=>by
  have:=hr e he hb
  unfold lst
  rw [Array.getD_eq_getD_getElem?] at this ⊢
  cases h:listed[e.on]? with
  | none=>rfl
  | some v=>rw [h] at this;exact this
 obtain ⟨k,hG,hob⟩:=W.each i o ho
 have hwp:∀ (hg:o.guard=none),o.wp P a w N Q→wpOp P ops Q i N a w:=fun hg h=>by
  unfold wpOp
  simp only [ho]
  rw [if_pos (by simp [Region.wanted,hg])]
  exact .inl h
 match k,hG,hob with
 | .val S,hG,hob =>
   unfold wpOp
   simp only [ho]
   rcases hob.2 a w I.base (I.known W ho hr') with ⟨hw,hu⟩|⟨hw,hu⟩
   ·rw [if_pos hw]
    refine .inl ?_
    unfold Oper.wp
    generalize (execOp a.eval o).run P w=r at *
    cases r with
    | ok n w' =>
      cases n <;> simp only [tyUpon] at hu <;> simp only [Oper.upon]
      case value u=>exact hN _ _ _ (I.val W ho hG hun' hr' hu.1 hu.2)
      case skip=>exact hN _ _ _ (I.val W ho hG hun' hr' hu.1 hu.2)
      case enter fn args =>
       obtain ⟨e1,hc⟩:=hu
       rw [e1]
       exact hc.mono fun e w'' ⟨v,he,h1,h2⟩=>by subst he;exact hN _ _ _ (I.val W ho hG hun' hr' h1 h2)
    | halt x w'=>simp only [tyUpon] at hu
   ·rw [if_neg (by rw [hw];simp)]
    exact hN _ _ _ (I.val W ho hG hun' hr' (aB _ _) hu)
 | .new o0,hG,hob =>
   refine hwp hob.2.1 ?_
   unfold Oper.wp
   rw [hob.2.2.2 a w]
   exact hN _ _ _ (I.new W ho hG hun' hr')
 | .put d S,hG,hob =>
   obtain ⟨hd,hg,b,hK,hu⟩:=I.put W ho hG hun' hr'
   refine hwp hg ?_
   unfold Oper.wp
   generalize (execOp a.eval o).run P w=r at *
   cases r with
   | ok n w' =>
     cases n <;> simp only [putUpon] at hu <;> simp only [Oper.upon,hd,Act.put]
     case value u=>obtain ⟨o',h1,h2⟩:=hu;exact hN _ _ _ (hK _ _ h1 h2)
     case skip=>obtain ⟨o',h1,h2⟩:=hu;exact hN _ _ _ (hK _ _ h1 h2)
   | halt x w'=>simp only [putUpon] at hu
 | .old b S,hG,hob =>
   obtain ⟨hd,hg,hK,hu⟩:=I.old W ho hG hun' hr'
   refine hwp hg ?_
   unfold Oper.wp
   generalize (execOp a.eval o).run P w=r at *
   cases r with
   | ok n w' =>
     cases n <;> simp only [putUpon] at hu <;> simp only [Oper.upon,hd,Act.put]
     case value u=>obtain ⟨o',h1,h2⟩:=hu;exact hN _ _ _ (hK _ _ h1 h2)
     case skip=>obtain ⟨o',h1,h2⟩:=hu;exact hN _ _ _ (hK _ _ h1 h2)
   | halt x w'=>simp only [putUpon] at hu
end
section
variable {P:Program} {ops:Array Oper} {K:Value→Bool} {T:List Nat} {w0:World} {a0:Act} {md:Region.Mode} {G:List Ent} {listed:Array Bool} {f:Tmp→Value} {a:Act} {w:World}
theorem ready_nil (hf:Region.tyB md ops a0.tmps.size=true) (hs:listed.size=ops.size) (h:Region.ready md ops listed = []):∀ i,i<ops.size→lst listed i:=by
 intro i
 induction i using Nat.strongRecOn with
 | ind i ih =>
   intro hi
   apply Classical.byContradiction
   intro hn
   have:i∈Region.ready md ops listed:=by
    rw [mem_ready]
    refine ⟨by unfold lst at hn;simpa using hn,ops[i],Array.getElem?_eq_getElem hi,fun e he hb=>?_⟩
    have hlt:=(tyB_spec hf (Array.getElem?_eq_getElem hi)).1 e he hb
    have:=ih e.on hlt (by omega)
    unfold lst at this
    rw [Array.getD_eq_getD_getElem?,Array.getElem?_eq_getElem (by omega)] at this ⊢
    exact this
   rw [h] at this
   cases this
def left (listed:Array Bool):Nat:=(listed.toList.filter (!·)).length
theorem left_set {i:Nat} (h:¬ lst listed i):left listed=left (listed.setIfInBounds i true)+1:=by
 unfold lst at h
 have hi:i<listed.size:=by
  rcases Nat.lt_or_ge i listed.size with h'|h'
  ·exact h'
  ·exact absurd (by rw [Array.getD_eq_getD_getElem?,Array.getElem?_eq_none h'];rfl) h
 have hv:listed[i]=false:=by
  rw [Array.getD_eq_getD_getElem?,Array.getElem?_eq_getElem hi] at h
  simpa using h
 unfold left
 have key:∀ (l:List Bool) (i:Nat) (h:i<l.length),l[i]=false→(l.filter (!·)).length=((l.set i true).filter (!·)).length+1:=by
  intro l
  induction l with
  | nil=>intro i h;simp at h
  | cons b l ih =>
    intro i h hb
    match i with
    | 0=>simp only [List.getElem_cons_zero] at hb;subst hb;simp
    | i+1 =>
      have:=ih i (by simpa using h) (by simpa using hb)
      rw [List.set_cons_succ]
      cases b <;> simp <;> omega
 have:=key listed.toList i (by rw [Array.length_toList];exact hi) (by rw [Array.getElem_toList];exact hv)
 rw [Array.toList_setIfInBounds]
 exact this
theorem left_zero (h:left listed=0):∀ i,lst listed i:=by
 intro i
 unfold lst
 rw [Array.getD_eq_getD_getElem?]
 cases hv:listed[i]? with
 | none=>rfl
 | some b =>
   cases b with
   | true=>rfl
   | false =>
     unfold left at h
     have:=List.length_eq_zero_iff.1 h
     rw [List.filter_eq_nil_iff] at this
     have hm:false∈listed.toList:=by
      rw [Array.mem_toList_iff]
      exact Array.mem_of_getElem? hv
     exact absurd rfl (this false hm)
theorem any_of_inv {Q:Exit→Act→World→Prop} (W:Walked P ops K T w0 a0 md G) (hQ:∀ listed f a w,(∀ i,i<ops.size→lst listed i)→Inv ops T w0 a0 md G listed f a w→Q .normal a w) :
 ∀ (n:Nat) (listed:Array Bool) (f:Tmp→Value) (a:Act) (w:World),left listed=n→Inv ops T w0 a0 md G listed f a w→wpAny P md ops Q n listed a w
 | 0,listed,f,a,w,hn,I=>by
   have hall:=left_zero hn
   refine ⟨?_,hQ _ _ _ _ (fun i _=>hall i) I⟩
   apply List.eq_nil_iff_forall_not_mem.2
   intro i hi
   have:=(mem_ready.1 hi).1
   have h2:=hall i
   unfold lst at h2
   rw [h2] at this
   cases this
 | n + 1,listed,f,a,w,hn,I =>
   ⟨fun h=>hQ _ _ _ _ (ready_nil W.form I.lsize h) I,fun i hi=>by
    refine I.step W hi (fun f' a' w' I'=>any_of_inv W hQ n _ f' a' w' ?_ I')
    have:=left_set (listed:=listed) (i:=i) (fun h=>by
     have h1:=(mem_ready.1 hi).1
     unfold lst at h
     rw [h] at h1
     cases h1)
    omega⟩
theorem frameOf_size (g:List Ent):(frameOf a0 g f).tmps.size=a0.tmps.size:=by
 induction g with
 | nil=>rfl
 | cons e g ih=>simp only [frameOf];split <;> simp [Act.put_size,ih]
theorem frameOf_defers (g:List Ent):(frameOf a0 g f).defers=a0.defers:=by
 induction g with
 | nil=>rfl
 | cons e g ih=>simp only [frameOf];split <;> simp [Act.put_defers,ih]
theorem frameOf_hit {g:List Ent} {t:Tmp} (h:∃ e∈g,e.dst=some t) (ht:t<a0.tmps.size):(frameOf a0 g f).eval (.tmp t)=f t:=by
 induction g with
 | nil=>obtain ⟨_,h,_⟩:=h;cases h
 | cons e g ih =>
   simp only [frameOf]
   by_cases hd:e.dst=some t
   ·rw [hd]
    exact Act.eval_put_hit (by rw [frameOf_size];exact ht)
   ·have hg:∃ e∈g,e.dst=some t:=by
     obtain ⟨e',he',hd'⟩:=h
     rcases List.mem_cons.1 he' with rfl|he'
     ·exact absurd hd' hd
     ·exact ⟨e',he',hd'⟩
    split
    ·rename_i d he
     rw [Act.eval_put_miss (by rw [← he];exact hd)]
     exact ih hg
    ·exact ih hg
theorem frameOf_miss {g:List Ent} {t:Tmp} (h:∀ e∈g,e.dst≠some t):(frameOf a0 g f).eval (.tmp t)=a0.eval (.tmp t):=by
 induction g with
 | nil=>rfl
 | cons e g ih =>
   simp only [frameOf]
   have hg:=ih (fun e' he'=>h e' (by simp [he']))
   split
   ·rename_i d he
    rw [Act.eval_put_miss (by rw [← he];exact h e (by simp))]
    exact hg
   ·exact hg
theorem Act.ext_eval {a b:Act} (hs:a.tmps.size=b.tmps.size) (hd:a.defers=b.defers) (h:∀ t,t<a.tmps.size→a.eval (.tmp t)=b.eval (.tmp t)):a=b:=by
 obtain ⟨x,y⟩:=a
 obtain ⟨x',y'⟩:=b
 simp only at hs hd
 subst hd
 congr 1
 apply Array.ext hs
 intro i h1 h2
 have:=h i h1
 simp only [Act.eval,Array.getD_eq_getD_getElem?,Array.getElem?_eq_getElem h1,Array.getElem?_eq_getElem h2,Option.getD_some] at this
 exact this
theorem walked_of {Q:Act→World→Prop}:∀ (rest:List Oper) (g:List Ent),wpTy P ops K T w0 a0 Q rest g→∃ H:List Ent,H.length=rest.length ∧
 (∀ (i:Nat) (o:Oper),rest[i]?=some o→∃ k,H[i]?=some ⟨o.dst,k⟩∧Oblig P ops K T w0 a0 ((H.take i).reverse++g) o k)∧wpTy P ops K T w0 a0 Q [] (H.reverse++g)
 | [],g,h=>⟨[],rfl,fun i o h'=>by simp at h',by simpa using h⟩
 | o :: rest,g,h=>by
   obtain ⟨k,hk,hr⟩:=h
   obtain ⟨H,h1,h2,h3⟩:=walked_of rest _ hr
   refine ⟨⟨o.dst,k⟩::H,by simp [h1],fun i o' h'=>?_,by simpa using h3⟩
   match i with
   | 0 =>
     simp only [List.getElem?_cons_zero,Option.some.injEq] at h'
     subst h'
     exact ⟨k,rfl,by simpa using hk⟩
   | i+1 =>
     obtain ⟨k',e1,e2⟩:=h2 i o' (by simpa using h')
     exact ⟨k',by simpa using e1,by simpa using e2⟩
theorem wp_region_ty {id:Nat} {Q:Exit→Act→World→Prop} {l:List Oper} (K:Value→Bool) (T:List Nat) (hm:P.follows .mixedOrders=true) (hf:Region.tyB .any l.toArray a0.tmps.size=true)
 (h:wpTy P l.toArray K T w0 a0 (fun a w=>Q .normal a w) l []):(Code.region id l.toArray true).wp P Q a0 w0:=by
 obtain ⟨H,h1,h2,h3⟩:=walked_of l [] h
 simp only [List.append_nil] at h2 h3
 obtain ⟨honce,hfin⟩:=h3
 have honce' : onceB H=true:=by
  simp only [onceB,Bool.and_eq_true,decide_eq_true_eq,List.filterMap_reverse,List.filter_reverse,List.length_reverse] at honce ⊢
  exact ⟨(List.reverse_perm _).nodup_iff.1 honce.1,honce.2⟩
 have W:Walked P l.toArray K T w0 a0 .any H:=⟨by simpa using h1,fun i o ho=>h2 i o (by simpa using ho),hf,honce'⟩
 refine wp_region_any hm ?_
 have hlst:∀ i,i<l.toArray.size→¬ lst (Array.replicate l.toArray.size false) i:=fun i hi h=>by
  unfold lst at h
  rw [Array.getD_eq_getD_getElem?,Array.getElem?_replicate,if_pos hi] at h
  cases h
 have hop:∀ {i:Nat} {o:Oper},l.toArray[i]?=some o→i<l.toArray.size:=fun h=>by
  rcases Nat.lt_or_ge _ l.toArray.size with h'|h'
  ·exact h'
  ·rw [Array.getElem?_eq_none h'] at h;cases h
 have hent:∀ {i:Nat} {e:Ent},H[i]?=some e→i<l.toArray.size:=fun h=>by
  obtain ⟨hlt,_⟩:=List.getElem?_eq_some_iff.1 h
  rw [← W.len];exact hlt
 refine any_of_inv W (fun listed f a w hall I=>?_) _ _ (fun _=>undef) _ _ (by simp [left]) ?_
 ·have hmem:∀ {e:Ent},e∈H.reverse→∃ i,H[i]?=some e∧lst listed i:=fun he=>by
   obtain ⟨i,hi⟩:=List.getElem?_of_mem (List.mem_reverse.1 he)
   exact ⟨i,hi,hall i (hent hi)⟩
  have hfr:a=frameOf a0 H.reverse f:=by
   refine Act.ext_eval (by rw [frameOf_size];exact I.tsize) (by rw [frameOf_defers];exact I.defers) (fun t ht=>?_)
   by_cases hd:∃ e∈H.reverse,e.dst=some t
   ·rw [frameOf_hit hd (by rw [← I.tsize];exact ht)]
    obtain ⟨e,he,hde⟩:=hd
    obtain ⟨i,hi,hl⟩:=hmem he
    obtain ⟨o,ho,hd',_⟩:=W.ent hi
    exact I.hit i o t ho hl (by rw [← hd'];exact hde)
   ·rw [frameOf_miss (fun e he hde=>hd ⟨e,he,hde⟩)]
    refine I.miss t (fun i o ho hdo=>hd ?_)
    obtain ⟨k,hk,_⟩:=W.each i o ho
    exact ⟨_,List.mem_reverse.2 (List.mem_of_getElem? hk),hdo⟩
  rw [hfr]
  refine hfin f w I.base (fun e he=>?_) (fun d d' o o' hd hd' hne=>?_)
  ·obtain ⟨i,hi,hl⟩:=hmem he
   obtain ⟨dst,kd⟩:=e
   unfold Final1
   match dst,kd,hi with
   | some d,.val S,hi=>exact I.vals i d S hi hl
   | some d,.new o0,hi =>
     obtain ⟨b,e1,e2,e3,e4,e5⟩:=I.news i d o0 hi hl
     refine ⟨b,e1,e2,e3,fun hn=>e4 (fun j S hj _=>hn S (List.mem_reverse.2 (List.mem_of_getElem? hj))),fun S hS=>?_⟩
     obtain ⟨j,hj,hlj⟩:=hmem hS
     exact e5 j S hj hlj
   | none,.old b S,hi=>exact (I.olds i b S hi).2 hl
   | some d,.old b S,hi =>
     obtain ⟨o,_,hd,hob⟩:=W.ent hi
     have:=hob.1
     rw [← hd] at this
     cases this
   | none,.val S,_=>trivial
   | none,.new o0,_=>trivial
   | none,.put d S,_=>trivial
   | some d',.put d S,_=>trivial
  ·obtain ⟨i,hi,hl⟩:=hmem hd
   obtain ⟨i',hi',hl'⟩:=hmem hd'
   exact I.apart i i' d d' o o' hi hi' hl hl' hne
 ·refine ⟨by simp,rfl,rfl,fun i o d ho hl _=>absurd hl (hlst i (hop ho)),fun _ _=>rfl,fun i o ho hl=>absurd hl (hlst i (hop ho)),⟨rfl,rfl,rfl,aR _,fun _ _ _=>rfl⟩,
   fun i d S hi hl=>absurd hl (hlst i (hent hi)),fun i d o hi hl=>absurd hl (hlst i (hent hi)),fun i b S hi=>⟨fun _=>rfl,fun hl=>absurd hl (hlst i (hent hi))⟩,
   fun i i' d d' o o' hi _ hl=>absurd hl (hlst i (hent hi))⟩
/-! ### Steps of the walk -/
variable {Q:Act→World→Prop} {o:Oper} {rest:List Oper} {g:List Ent}
theorem bS (u:Value) (hg:o.guard=none) (h:∀ A w,Base T w0 w→known a0 w0.heap.size g A w (o.looksAt ops)→(execOp A.eval o).run P w = .ok (.value u) w)
 (hr:wpTy P ops K T w0 a0 Q rest (⟨o.dst,.val (Sp.is u)⟩::g)):wpTy P ops K T w0 a0 Q (o::rest) g :=
 ⟨.val (Sp.is u),⟨Sp.is_stable K u,fun A w hB hk => .inl ⟨by simp [Region.wanted,hg],by rw [h A w hB hk];exact ⟨aB _ _,rfl⟩⟩⟩,hr⟩
theorem aG {w:World} {S:Sp} {fn:FuncId} {args:Array Value} (h:Calls P fn args w (TyPost w S)):tyUpon P w S (.ok (.enter fn args) w):=⟨rfl,h⟩
theorem iY {w:World} {S:Sp} {u:Value} (h:S u w):tyUpon P w S (.ok (.value u) w):=⟨aB _ _,h⟩
theorem aY (t:Tmp) (S:Sp) (hop:o.op = .move (.tmp t)∨o.op = .assign (.tmp t)) (hl:o.looksAt ops = [t]) (hs:specOf a0 w0.heap.size t g=S) (hS:Stable K S) (hg:o.guard=none)
 (hr:wpTy P ops K T w0 a0 Q rest (⟨o.dst,.val S⟩::g)):wpTy P ops K T w0 a0 Q (o::rest) g:=by
 refine ⟨.val S,⟨hS,fun A w hB hk => .inl ⟨by simp [Region.wanted,hg],?_⟩⟩,hr⟩
 have hrun:(execOp A.eval o).run P w = .ok (.value (A.eval (.tmp t))) w:=by
  rcases hop with h|h <;> (simp only [execOp,h];rfl)
 rw [hrun]
 rw [hl] at hk
 refine ⟨aB _ _,?_⟩
 rw [← hs]
 exact hk.1
theorem aQ (S:Sp) (hS:Stable K S) (hg:o.guard=none) (h:∀ A w,Base T w0 w→known a0 w0.heap.size g A w (o.looksAt ops)→tyUpon P w S ((execOp A.eval o).run P w))
 (hr:wpTy P ops K T w0 a0 Q rest (⟨o.dst,.val S⟩::g)):wpTy P ops K T w0 a0 Q (o::rest) g :=
 ⟨.val S,⟨hS,fun A w hB hk => .inl ⟨by simp [Region.wanted,hg],h A w hB hk⟩⟩,hr⟩
theorem ty_new (o0:Obj) (hc:hotObj K o0=false) (hg:o.guard=none) (hd:o.dst.isSome=true) (h:∀ (A:Act) (w:World),(execOp A.eval o).run P w = .ok (.value (.pointer (some ⟨w.heap.size,0,none⟩))) (w.alloc o0))
 (hr:wpTy P ops K T w0 a0 Q rest (⟨o.dst,.new o0⟩::g)):wpTy P ops K T w0 a0 Q (o::rest) g :=
 ⟨.new o0,⟨hc,hg,hd,h⟩,hr⟩
theorem ty_put (d:Tmp) (o0:Obj) (S:Obj→World→Prop) (hS:StableO K S) (hd:o.dst=none) (hg:o.guard=none) (hl:d∈o.looksAt ops) (hn:(⟨some d,.new o0⟩:Ent)∈g)
 (h:∀ (A:Act) (w:World) (b:Nat),Base T w0 w→known a0 w0.heap.size g A w (o.looksAt ops)→A.eval (.tmp d) = .pointer (some ⟨b,0,none⟩)→w.heap[b]?=some o0→putUpon b w S ((execOp A.eval o).run P w))
 (hr:wpTy P ops K T w0 a0 Q rest (⟨o.dst,.put d S⟩::g)):wpTy P ops K T w0 a0 Q (o::rest) g :=
 ⟨.put d S,⟨hd,hg,hl,hS,o0,hn,h⟩,hr⟩
theorem gP (b:Nat) (o0:Obj) (S:Obj→World→Prop) (hS:StableO K S) (hd:o.dst=none) (hg:o.guard=none) (hT:b∈T) (h0:w0.heap[b]?=some o0) (hc:hotObj K o0=false)
 (h:∀ (A:Act) (w:World),Base T w0 w→known a0 w0.heap.size g A w (o.looksAt ops)→w.heap[b]?=some o0→putUpon b w S ((execOp A.eval o).run P w))
 (hr:wpTy P ops K T w0 a0 Q rest (⟨o.dst,.old b S⟩::g)):wpTy P ops K T w0 a0 Q (o::rest) g :=
 ⟨.old b S,⟨hd,hg,hT,lt_of_block h0,hS,o0,h0,hc,h⟩,hr⟩
end
end
namespace Ab
open Go.RowKit
def lK (Kc:Value→Bool) (Ty:List TypeId):Obj→Bool
 | .cells cs T _=>cs.any Kc || Ty.contains T
 | _=>true
theorem Ext.down {Kc:Value→Bool} {Ty:List TypeId} {w w' : World} (h:Ext (lK Kc Ty) w w'):Go.Proofs.YtklnecajplnboaaGreatDoor.Ext Kc w w':=by
 refine ⟨h.size,fun g o hg ho=>h.block g o hg ?_⟩
 cases o <;> simp_all [Go.Proofs.YtklnecajplnboaaGreatDoor.hotObj,hotObj,lK]
structure CS (Kc:Value→Bool) where
 size:Nat
 cold:Bool
 pred:List Value→World→Prop
 stable:∀ cs w w',pred cs w→Go.Proofs.YtklnecajplnboaaGreatDoor.Ext Kc w w'→pred cs w'
 len:∀ cs w,pred cs w→cs.length=size
 one:∀ cs w,pred cs w→∀ c∈cs,c.oneCell'=true
 iscold:cold=true→∀ cs w,pred cs w→∀ c∈cs,Kc c=false
variable {Kc:Value→Bool}
inductive Seg (Kc:Value→Bool) where
 | lit (v:Value)
 | ptr (k off:Nat)
 | slc (k off n c:Nat)
 | sp (s:CS Kc)
def Seg.size:Seg Kc→Nat
 | .sp s=>s.size
 | _=>1
def Seg.cold:Seg Kc→Bool
 | .lit v => !Kc v
 | .sp s=>s.cold
 | _=>true
def Seg.holds (β:List Nat):Seg Kc→List Value→World→Prop
 | .lit v,cs,_=>cs = [v]∧v.oneCell'=true
 | .ptr k off,cs,_ => ∃ g,β[k]?=some g∧cs = [.pointer (some ⟨g,off,none⟩)]
 | .slc k off n c,cs,_ => ∃ g,β[k]?=some g∧cs = [.slice (some ⟨g,off,none⟩) n c]
 | .sp s,cs,w=>s.pred cs w
def holdsL (β:List Nat):List (Seg Kc)→List Value→World→Prop
 | [],cs,_=>cs = []
 | s::l,cs,w => ∃ a b,cs=a++b∧s.holds β a w∧holdsL β l b w
def gM:List (Seg Kc)→Nat
 | []=>0
 | s::l=>s.size+gM l
structure KOk (Kc:Value→Bool):Prop where
 ptr:∀ a,Kc (.pointer a)=false
 slc:∀ a n c,Kc (.slice a n c)=false
theorem Seg.len {β:List Nat} {s:Seg Kc} {cs:List Value} {w:World} (h:s.holds β cs w):cs.length=s.size:=by
 cases s with
 | lit v=>rw [h.1];rfl
 | ptr k off=>obtain ⟨g,_,e⟩:=h;rw [e];rfl
 | slc k off n c=>obtain ⟨g,_,e⟩:=h;rw [e];rfl
 | sp s=>exact s.len _ _ h
theorem Seg.one {β:List Nat} {s:Seg Kc} {cs:List Value} {w:World} (h:s.holds β cs w):∀ c∈cs,c.oneCell'=true:=by
 cases s with
 | lit v=>obtain ⟨rfl,h⟩:=h;intro c hc;rw [List.mem_singleton] at hc;subst hc;exact h
 | ptr k off=>obtain ⟨g,_,e⟩:=h;subst e;intro c hc;rw [List.mem_singleton] at hc;subst hc;rfl
 | slc k off n c=>obtain ⟨g,_,e⟩:=h;subst e;intro c hc;rw [List.mem_singleton] at hc;subst hc;rfl
 | sp s=>exact s.one _ _ h
theorem Seg.iscold (hK:KOk Kc) {β:List Nat} {s:Seg Kc} {cs:List Value} {w:World} (h:s.holds β cs w) (hc:s.cold=true):∀ c∈cs,Kc c=false:=by
 cases s with
 | lit v=>obtain ⟨rfl,_⟩:=h;intro c hm;rw [List.mem_singleton] at hm;subst hm;simpa [Seg.cold] using hc
 | ptr k off=>obtain ⟨g,_,e⟩:=h;subst e;intro c hm;rw [List.mem_singleton] at hm;subst hm;exact hK.ptr _
 | slc k off n c=>obtain ⟨g,_,e⟩:=h;subst e;intro c hm;rw [List.mem_singleton] at hm;subst hm;exact hK.slc _ _ _
 | sp s=>exact s.iscold hc _ _ h
theorem Seg.ext {β:List Nat} {s:Seg Kc} {cs:List Value} {w w' : World} (h:s.holds β cs w) (hx:Go.Proofs.YtklnecajplnboaaGreatDoor.Ext Kc w w'):s.holds β cs w':=by
 cases s with
 | sp s=>exact s.stable _ _ _ h hx
 | _=>exact h
theorem Seg.more {β γ:List Nat} {s:Seg Kc} {cs:List Value} {w:World} (h:s.holds β cs w):s.holds (β++γ) cs w:=by
 have key:∀ {k g:Nat},β[k]?=some g→(β++γ)[k]?=some g:=fun h=>by
  rw [List.getElem?_append_left (List.getElem?_eq_some_iff.1 h).1];exact h
 cases s with
 | lit v=>exact h
 | ptr k off=>obtain ⟨g,h1,e⟩:=h;exact ⟨g,key h1,e⟩
 | slc k off n c=>obtain ⟨g,h1,e⟩:=h;exact ⟨g,key h1,e⟩
 | sp s=>exact h
theorem holdsL.len {β:List Nat}:∀ {l:List (Seg Kc)} {cs:List Value} {w:World},holdsL β l cs w→cs.length=gM l
 | [],_,_,h=>by rw [h];rfl
 | s::l,_,_,⟨a,b,e,h1,h2⟩=>by rw [e,List.length_append,Seg.len h1,holdsL.len h2];rfl
theorem holdsL.one {β:List Nat}:∀ {l:List (Seg Kc)} {cs:List Value} {w:World},holdsL β l cs w→∀ c∈cs,c.oneCell'=true
 | [],_,_,h=>by rw [h];intro c hc;cases hc
 | s::l,_,_,⟨a,b,e,h1,h2⟩=>by
   subst e
   intro c hc
   rcases List.mem_append.1 hc with hc|hc
   ·exact Seg.one h1 c hc
   ·exact holdsL.one h2 c hc
theorem holdsL.iscold (hK:KOk Kc) {β:List Nat}:∀ {l:List (Seg Kc)} {cs:List Value} {w:World},holdsL β l cs w→l.all Seg.cold=true→∀ c∈cs,Kc c=false
 | [],_,_,h,_=>by rw [h];intro c hc;cases hc
 | s::l,_,_,⟨a,b,e,h1,h2⟩,hc=>by
   subst e
   rw [List.all_cons,Bool.and_eq_true] at hc
   intro c hm
   rcases List.mem_append.1 hm with hm|hm
   ·exact Seg.iscold hK h1 hc.1 c hm
   ·exact holdsL.iscold hK h2 hc.2 c hm
theorem holdsL.ext {β:List Nat}:∀ {l:List (Seg Kc)} {cs:List Value} {w w' : World},holdsL β l cs w→Go.Proofs.YtklnecajplnboaaGreatDoor.Ext Kc w w'→holdsL β l cs w'
 | [],_,_,_,h,_=>h
 | _::_,_,_,_,⟨a,b,e,h1,h2⟩,hx=>⟨a,b,e,Seg.ext h1 hx,holdsL.ext h2 hx⟩
theorem holdsL.more {β γ:List Nat}:∀ {l:List (Seg Kc)} {cs:List Value} {w:World},holdsL β l cs w→holdsL (β++γ) l cs w
 | [],_,_,h=>h
 | _::_,_,_,⟨a,b,e,h1,h2⟩=>⟨a,b,e,Seg.more h1,holdsL.more h2⟩
theorem holdsL.append {β:List Nat}:∀ {l l' : List (Seg Kc)} {cs cs' : List Value} {w:World},holdsL β l cs w→holdsL β l' cs' w→holdsL β (l++l') (cs++cs') w
 | [],_,_,_,_,h,h'=>by rw [h];exact h'
 | _::_,_,_,cs',_,⟨a,b,e,h1,h2⟩,h'=>⟨a,b++cs',by rw [e,List.append_assoc],h1,holdsL.append h2 h'⟩
theorem holdsL.single {β:List Nat} {s:Seg Kc} {c:Value} {w:World} (h:s.holds β [c] w):holdsL β [s] [c] w:=⟨[c],[],rfl,h,rfl⟩
theorem holdsL.lits {β:List Nat} {w:World}:∀ {cs:List Value},cs.all (·.oneCell')=true→holdsL β (cs.map (Seg.lit (Kc:=Kc))) cs w
 | [],_=>rfl
 | c::cs,h=>by
   rw [List.all_cons,Bool.and_eq_true] at h
   exact ⟨[c],cs,rfl,⟨rfl,h.1⟩,holdsL.lits h.2⟩
def cut:List (Seg Kc)→Nat→Nat→Option (List (Seg Kc))
 | _,0,0=>some []
 | [],_,_=>none
 | s::l,0,n+1=>if s.size≤n+1 then (cut l 0 (n+1-s.size)).map (s :: ·) else none
 | s::l,off+1,n=>if s.size≤off+1 then cut l (off+1-s.size) n else none
theorem jZ {β:List Nat}:∀ {l:List (Seg Kc)} {off n:Nat} {l' : List (Seg Kc)} {cs:List Value} {w:World},cut l off n=some l'→holdsL β l cs w →
 holdsL β l' ((cs.drop off).take n) w∧off+n≤cs.length
 | l,0,0,l',cs,w,hc,h=>by
   have:l' = []:=by cases l <;> simp [cut] at hc <;> exact hc
   subst this
   exact ⟨by simp [holdsL],by omega⟩
 | [],0,n+1,_,_,_,hc,_=>by simp [cut] at hc
 | [],off+1,n,_,_,_,hc,_=>by simp [cut] at hc
 | s :: l,0,n+1,l',cs,w,hc,⟨a,b,e,h1,h2⟩=>by
   simp only [cut] at hc
   split at hc
   ·rename_i hle
    rw [Option.map_eq_some_iff] at hc
    obtain ⟨l2,hc,rfl⟩:=hc
    obtain ⟨h3,h4⟩:=jZ hc h2
    have hl:=Seg.len h1
    subst e
    simp only [List.drop_zero,List.length_append] at *
    refine ⟨⟨a,b.take (n+1-s.size),?_,h1,h3⟩,by omega⟩
    rw [List.take_append,hl,List.take_of_length_le (by omega)]
   ·cases hc
 | s :: l,off+1,n,l',cs,w,hc,⟨a,b,e,h1,h2⟩=>by
   simp only [cut] at hc
   split at hc
   ·rename_i hle
    obtain ⟨h3,h4⟩:=jZ hc h2
    have hl:=Seg.len h1
    subst e
    simp only [List.length_append] at *
    refine ⟨?_,by omega⟩
    rw [List.drop_append,hl,List.drop_of_length_le (by omega),List.nil_append]
    exact h3
   ·cases hc
def zQ (l:List (Seg Kc)) (off:Nat) (m:List (Seg Kc)):Option (List (Seg Kc)) :=
 match cut l 0 off,cut l (off+gM m) (gM l-(off+gM m)) with
 | some a,some b=>if off+gM m≤gM l then some (a++m++b) else none
 | _,_=>none
theorem mS {β:List Nat} {l m l' : List (Seg Kc)} {off:Nat} {cs ds:List Value} {w:World} (hr:zQ l off m=some l') (h:holdsL β l cs w) (h' : holdsL β m ds w) :
 holdsL β l' (cs.take off++ds++cs.drop (off+ds.length)) w∧off+ds.length≤cs.length:=by
 unfold zQ at hr
 split at hr
 ·rename_i a b ha hb
  split at hr
  ·rename_i hle
   injection hr with hr
   subst hr
   have h1:=(jZ ha h).1
   have h2:=(jZ hb h).1
   have hl:=holdsL.len h
   have hm:=holdsL.len h'
   rw [List.drop_zero] at h1
   rw [← hm,← hl] at h2
   rw [List.take_of_length_le (by rw [List.length_drop];omega)] at h2
   exact ⟨holdsL.append (holdsL.append h1 h') h2,by omega⟩
  ·cases hr
 ·cases hr
inductive FV (Kc:Value→Bool) where
 | clo (F:FuncId) (first cap:List (Bool×List (Seg Kc)))
 | sc (s:Seg Kc)
 | ag (l:List (Seg Kc))
 | nsl (n:Nat) (T:TypeId) (l:List (Seg Kc))
 | un
def caHolds (β:List Nat):Bool×List (Seg Kc)→Value→World→Prop
 | (true,l),v,w => ∃ cs,v = .agg cs.toArray∧holdsL β l cs w
 | (false,l),v,w=>holdsL β l [v] w
def holdsC (β:List Nat):List (Bool×List (Seg Kc))→List Value→World→Prop
 | [],vs,_=>vs = []
 | c::l,vs,w => ∃ v r,vs=v::r∧caHolds β c v w∧holdsC β l r w
theorem caHolds.ext {β:List Nat} {c:Bool×List (Seg Kc)} {v:Value} {w w' : World} (h:caHolds β c v w) (hx:Go.Proofs.YtklnecajplnboaaGreatDoor.Ext Kc w w'):caHolds β c v w':=by
 obtain ⟨b,l⟩:=c
 cases b with
 | true=>obtain ⟨cs,e,h⟩:=h;exact ⟨cs,e,h.ext hx⟩
 | false=>exact holdsL.ext h hx
theorem caHolds.more {β γ:List Nat} {c:Bool×List (Seg Kc)} {v:Value} {w:World} (h:caHolds β c v w):caHolds (β++γ) c v w:=by
 obtain ⟨b,l⟩:=c
 cases b with
 | true=>obtain ⟨cs,e,h⟩:=h;exact ⟨cs,e,h.more⟩
 | false=>exact holdsL.more h
theorem holdsC.ext {β:List Nat}:∀ {l:List (Bool×List (Seg Kc))} {vs:List Value} {w w' : World},holdsC β l vs w→Go.Proofs.YtklnecajplnboaaGreatDoor.Ext Kc w w'→holdsC β l vs w'
 | [],_,_,_,h,_=>h
 | _::_,_,_,_,⟨v,r,e,h1,h2⟩,hx=>⟨v,r,e,caHolds.ext h1 hx,holdsC.ext h2 hx⟩
theorem holdsC.more {β γ:List Nat}:∀ {l:List (Bool×List (Seg Kc))} {vs:List Value} {w:World},holdsC β l vs w→holdsC (β++γ) l vs w
 | [],_,_,h=>h
 | _::_,_,_,⟨v,r,e,h1,h2⟩=>⟨v,r,e,caHolds.more h1,holdsC.more h2⟩
def FV.holds (β:List Nat):FV Kc→Value→World→Prop
 | .clo F a b,v,w => ∃ xs ys:List Value,v = .func (.func F) xs.toArray ys.toArray∧holdsC β a xs w∧holdsC β b ys w
 | .sc s,v,w=>s.holds β [v] w
 | .ag l,v,w => ∃ cs,v = .agg cs.toArray∧holdsL β l cs w
 | .nsl n T l,v,w => ∃ g cs,v = .slice (some ⟨g,0,none⟩) n n∧w.heap[g]?=some (.cells cs.toArray T (0,0))∧holdsL β l cs w
 | .un,_,_=>True
def FV.okT (Ty:List TypeId):FV Kc→Bool
 | .nsl _ T _=>Ty.contains T
 | _=>true
inductive AV (Kc:Value→Bool) where
 | fv (f:FV Kc)
 | tup (l:List (FV Kc))
def holdsF (β:List Nat):List (FV Kc)→List Value→World→Prop
 | [],vs,_=>vs = []
 | f::l,vs,w => ∃ v r,vs=v::r∧f.holds β v w∧holdsF β l r w
def AV.holds (β:List Nat):AV Kc→Value→World→Prop
 | .fv f,v,w=>f.holds β v w
 | .tup l,v,w => ∃ vs,v = .tuple vs.toArray∧holdsF β l vs w
def AV.okT (Ty:List TypeId):AV Kc→Bool
 | .fv f=>f.okT Ty
 | .tup l=>l.all (FV.okT Ty)
abbrev AV.un:AV Kc := .fv .un
theorem FV.ext {Ty:List TypeId} {β:List Nat} {f:FV Kc} {v:Value} {w w' : World} (h:f.holds β v w) (hx:Ext (lK Kc Ty) w w') (ht:f.okT Ty=true):f.holds β v w':=by
 cases f with
 | clo F a b=>obtain ⟨xs,ys,e,h1,h2⟩:=h;exact ⟨xs,ys,e,h1.ext hx.down,h2.ext hx.down⟩
 | sc s=>exact Seg.ext h hx.down
 | ag l=>obtain ⟨cs,e,h⟩:=h;exact ⟨cs,e,h.ext hx.down⟩
 | nsl n T l=>obtain ⟨g,cs,e,hg,h⟩:=h;exact ⟨g,cs,e,hx.block g _ hg (by simp [hotObj,lK];exact .inr (by simpa [FV.okT] using ht)),h.ext hx.down⟩
 | un=>trivial
theorem FV.below {β:List Nat} {f:FV Kc} {v:Value} {w w' : World} (h:f.holds β v w) (hb:Below w.heap.size w w'):f.holds β v w':=by
 cases f with
 | clo F a b=>obtain ⟨xs,ys,e,h1,h2⟩:=h;exact ⟨xs,ys,e,h1.ext (Go.Proofs.YtklnecajplnboaaGreatDoor.Ext.of_below hb),h2.ext (Go.Proofs.YtklnecajplnboaaGreatDoor.Ext.of_below hb)⟩
 | sc s=>exact Seg.ext h (Go.Proofs.YtklnecajplnboaaGreatDoor.Ext.of_below hb)
 | ag l=>obtain ⟨cs,e,h⟩:=h;exact ⟨cs,e,h.ext (Go.Proofs.YtklnecajplnboaaGreatDoor.Ext.of_below hb)⟩
 | nsl n T l=>obtain ⟨g,cs,e,hg,h⟩:=h;exact ⟨g,cs,e,(hb.block g (lt_of_block hg)).trans hg,h.ext (Go.Proofs.YtklnecajplnboaaGreatDoor.Ext.of_below hb)⟩
 | un=>trivial
theorem FV.more {β γ:List Nat} {f:FV Kc} {v:Value} {w:World} (h:f.holds β v w):f.holds (β++γ) v w:=by
 cases f with
 | clo F a b=>obtain ⟨xs,ys,e,h1,h2⟩:=h;exact ⟨xs,ys,e,h1.more,h2.more⟩
 | sc s=>exact Seg.more h
 | ag l=>obtain ⟨cs,e,h⟩:=h;exact ⟨cs,e,h.more⟩
 | nsl n T l=>obtain ⟨g,cs,e,hg,h⟩:=h;exact ⟨g,cs,e,hg,h.more⟩
 | un=>trivial
theorem holdsF.ext {Ty:List TypeId} {β:List Nat}:∀ {l:List (FV Kc)} {vs:List Value} {w w' : World},holdsF β l vs w→Ext (lK Kc Ty) w w'→l.all (FV.okT Ty)=true→holdsF β l vs w'
 | [],_,_,_,h,_,_=>h
 | _::_,_,_,_,⟨v,r,e,h1,h2⟩,hx,ht=>by
   rw [List.all_cons,Bool.and_eq_true] at ht
   exact ⟨v,r,e,FV.ext h1 hx ht.1,holdsF.ext h2 hx ht.2⟩
theorem holdsF.below {β:List Nat}:∀ {l:List (FV Kc)} {vs:List Value} {w w' : World},holdsF β l vs w→Below w.heap.size w w'→holdsF β l vs w'
 | [],_,_,_,h,_=>h
 | _::_,_,_,_,⟨v,r,e,h1,h2⟩,hb=>⟨v,r,e,FV.below h1 hb,holdsF.below h2 hb⟩
theorem holdsF.more {β γ:List Nat}:∀ {l:List (FV Kc)} {vs:List Value} {w:World},holdsF β l vs w→holdsF (β++γ) l vs w
 | [],_,_,h=>h
 | _::_,_,_,⟨v,r,e,h1,h2⟩=>⟨v,r,e,FV.more h1,holdsF.more h2⟩
theorem holdsF.get {β:List Nat}:∀ {l:List (FV Kc)} {vs:List Value} {w:World} {i:Nat} {f:FV Kc},holdsF β l vs w→l[i]?=some f→∃ v,vs[i]?=some v∧f.holds β v w
 | [],_,_,_,_,_,hi=>by simp at hi
 | _::_,_,_,0,_,⟨v,r,e,h1,h2⟩,hi=>by
   simp only [List.getElem?_cons_zero,Option.some.injEq] at hi
   subst hi
   exact ⟨v,by rw [e];rfl,h1⟩
 | _::_,_,_,i+1,_,⟨v,r,e,h1,h2⟩,hi=>by
   obtain ⟨v',h3,h4⟩:=holdsF.get h2 (by simpa using hi)
   exact ⟨v',by rw [e];simpa using h3,h4⟩
theorem AV.ext {Ty:List TypeId} {β:List Nat} {x:AV Kc} {v:Value} {w w' : World} (h:x.holds β v w) (hx:Ext (lK Kc Ty) w w') (ht:x.okT Ty=true):x.holds β v w':=by
 cases x with
 | fv f=>exact FV.ext h hx ht
 | tup l=>obtain ⟨vs,e,h⟩:=h;exact ⟨vs,e,h.ext hx ht⟩
theorem AV.below {β:List Nat} {x:AV Kc} {v:Value} {w w' : World} (h:x.holds β v w) (hb:Below w.heap.size w w'):x.holds β v w':=by
 cases x with
 | fv f=>exact FV.below h hb
 | tup l=>obtain ⟨vs,e,h⟩:=h;exact ⟨vs,e,h.below hb⟩
theorem AV.more {β γ:List Nat} {x:AV Kc} {v:Value} {w:World} (h:x.holds β v w):x.holds (β++γ) v w:=by
 cases x with
 | fv f=>exact FV.more h
 | tup l=>obtain ⟨vs,e,h⟩:=h;exact ⟨vs,e,h.more⟩
def holdsA (β:List Nat):List (AV Kc)→List Value→World→Prop
 | [],vs,_=>vs = []
 | x::l,vs,w => ∃ v r,vs=v::r∧x.holds β v w∧holdsA β l r w
end Ab
namespace Ab
open Go.RowKit
variable {Kc:Value→Bool}
def evalP (P:Program) {α:Type}:Sem α→Option α
 | .pure a=>some a
 | .program k=>evalP P (k P)
 | _=>none
theorem bL {P:Program} {α:Type}:∀ {s:Sem α} {a:α},evalP P s=some a→∀ w,s.run P w = .ok a w
 | .pure _,_,h,w=>by injection h with h;subst h;rfl
 | .program k,_,h,w=>by
   have:(Sem.program k).run P w=(k P).run P w:=rfl
   rw [this]
   exact bL (s:=k P) h w
 | .load ..,_,h,_ | .store ..,_,h,_ | .new ..,_,h,_ | .shape ..,_,h,_ | .freeze ..,_,h,_ | .frozen ..,_,h,_ | .getObj ..,_,h,_ | .setObj ..,_,h,_ | .choose ..,_,h,_ | .sys ..,_,h,_ | .mark ..,_,h,_ | .halt ..,_,h,_=>by cases h
inductive OR (Kc:Value→Bool) where
 | val (x:AV Kc)
 | new (T:TypeId) (l:List (Seg Kc))
 | nsl (n:Nat) (T:TypeId) (l:List (Seg Kc))
 | put (k off:Nat) (l:List (Seg Kc))
 | call (f:FuncId) (args:List (AV Kc))
 | stop
def rowB (P:Program) (t:TypeId):Option Bool:=(P.underlying t).map TypeDesc.isRow
def fX (P:Program) (t:TypeId):Option Nat:=(P.info? t).map (·.size)
def xM:List (Seg Kc)→Option (List Value)
 | []=>some []
 | .lit v::l=>(xM l).map (v :: ·)
 | _=>none
def vO:AV Kc→Option Value
 | .fv (.sc (.lit v))=>some v
 | .fv (.ag l)=>(xM l).map fun cs => .agg cs.toArray
 | _=>none
def nZ:Value→AV Kc
 | .agg cs=>if cs.toList.all (·.oneCell') then .fv (.ag (cs.toList.map .lit)) else .un
 | .tuple _ => .un
 | v => .fv (.sc (.lit v))
theorem mT {β:List Nat} {w:World}:∀ {l:List (Seg Kc)} {vs cs:List Value},xM l=some vs→holdsL β l cs w→cs=vs
 | [],_,_,h,h'=>by injection h with h;rw [h',h]
 | .lit v::l,_,_,h,⟨a,b,e,h1,h2⟩=>by
   simp only [xM,Option.map_eq_some_iff] at h
   obtain ⟨r,hr,rfl⟩:=h
   rw [e,h1.1,mT hr h2];rfl
 | .ptr .. :: _,_,_,h,_ | .slc .. :: _,_,_,h,_ | .sp _::_,_,_,h,_=>by cases h
theorem fR {β:List Nat} {w:World} {x:AV Kc} {u v:Value} (h:vO x=some u) (hv:x.holds β v w):v=u:=by
 cases x with
 | tup l=>cases h
 | fv f =>
   cases f with
   | sc s =>
     cases s with
     | lit c=>injection h with h;subst h;have:=hv.1;injection this
     | _=>cases h
   | ag l =>
     simp only [vO,Option.map_eq_some_iff] at h
     obtain ⟨cs,hc,rfl⟩:=h
     obtain ⟨ds,rfl,hd⟩:=hv
     rw [mT hc hd]
   | _=>cases h
theorem fY {β:List Nat} {w:World} (v:Value):(nZ v:AV Kc).holds β v w:=by
 unfold nZ
 split
 ·split
  ·rename_i h
   exact ⟨_,rfl,holdsL.lits h⟩
  ·trivial
 ·trivial
 ·rename_i h1 h2
  refine ⟨rfl,?_⟩
  cases v <;> simp_all [Value.oneCell']
def nQ (P:Program) (T:TypeId) (l:List (Seg Kc)) (off:Nat):OR Kc :=
 match fX P T with
 | some n=>match cut l off n with
   | some m=>match rowB P T,m with
     | some true,m => .val (.fv (.ag m))
     | some false,[s]=>if n==1 then .val (.fv (.sc s)) else .stop
     | _,_ => .stop
   | none => .stop
 | none => .stop
def xN (place:Nat→Option (Nat×Nat)):List (Nat×AV Kc)→List (Seg Kc)→Option (List (Seg Kc))
 | [],l=>some l
 | (i,x)::r,l=>match place i,x with
   | some (off,n),.fv (.sc s)=>if n==1&&s.size==1 then (zQ l off [s]).bind (xN place r) else none
   | some (off,n),.fv (.ag m)=>if gM m==n then (zQ l off m).bind (xN place r) else none
   | _,_=>none
def tV (P:Program) (T:TypeId):Option (List (Seg Kc)) :=
 match (P.info? T).bind (·.zero) with
 | some z=>if z.cells.toList.all (·.oneCell') then some (z.cells.toList.map .lit) else none
 | none=>none
def zerosN (z:Value) (k:Nat):List Value:=(List.range k).map fun i=>z.cells[i%z.cells.size]!
def placesA (P:Program) (fs:Array Field):Option (List (Nat×Nat)) :=
 fs.toList.mapM fun f=>(P.info? f.type).map fun i=>(f.offset,i.size)
def caA:Bool×List (Seg Kc)→AV Kc
 | (true,l) => .fv (.ag l)
 | (false,[s]) => .fv (.sc s)
 | _ => .un
def toCA:List (AV Kc)→Option (List (Bool×List (Seg Kc)))
 | []=>some []
 | .fv (.sc s)::l=>(toCA l).map ((false,[s]) :: ·)
 | .fv (.ag m)::l=>(toCA l).map ((true,m) :: ·)
 | _=>none
def litsA:List (AV Kc)→Option (List Value)
 | []=>some []
 | x::l=>match vO x,litsA l with|some v,some r=>some (v::r)|_,_=>none
def iZ (P:Program) (s:Sem Value):OR Kc:=match evalP P s with|some v => .val (nZ v)|none => .stop
variable (P:Program) (ev:Operand→AV Kc) (bl:List (Option (TypeId×List (Seg Kc))))
def opA (o:Oper):OR Kc :=
 match o.op with
 | .move x | .assign x => .val (ev x)
 | .pick c a b=>match ev c with
   | .fv (.sc (.lit (.bool t))) => .val (if t then ev a else ev b)
   | _ => .stop
 | .alloc T=>match tV P T with|some l => .new T l|none => .stop
 | .box T x=>match ev x with | .fv (.sc s) => .new T [s] | .fv (.ag l) => .new T l|_ => .stop
 | .load T x=>match ev x with
   | .fv (.sc (.ptr k off))=>match bl[k]? with|some (some (_,l))=>nQ P T l off|_ => .stop
   | _ => .stop
 | .store T x y=>match ev x,ev y,fX P T with
   | .fv (.sc (.ptr k off)),.fv (.sc s),some n=>if n==1&&s.size==1 then .put k off [s] else .stop
   | .fv (.sc (.ptr k off)),.fv (.ag m),some n=>if gM m==n then .put k off m else .stop
   | _,_,_ => .stop
 | .fieldAddr T x i=>match ev x,P.underlying T with
   | .fv (.sc (.ptr k off)),some (.struct fs)=>match fs[i]? with
     | some f=>match fX P f.type with|some (_+1) => .val (.fv (.sc (.ptr k (off+f.offset))))|_ => .stop
     | none => .stop
   | _,_ => .stop
 | .field T x i=>match ev x,P.underlying T with
   | .fv (.ag l),some (.struct fs)=>match fs[i]? with|some f=>nQ P f.type l f.offset|none => .stop
   | _,_ => .stop
 | .indexAddr T x ix=>match ev x,ev ix,P.underlying T with
   | .fv (.sc (.ptr k off)),.fv (.sc (.lit (.int _ i))),some (.array len e)=>if 0≤i∧i<len then match fX P e with|some n => .val (.fv (.sc (.ptr k (off+i.toNat*n))))|none => .stop else .stop
   | .fv (.sc (.slc k off n _)),.fv (.sc (.lit (.int _ i))),some (.slice e)=>if 0≤i∧i<n then match fX P e with|some m => .val (.fv (.sc (.ptr k (off+i.toNat*m))))|none => .stop else .stop
   | _,_,_ => .stop
 | .index T x ix=>match ev x,ev ix,P.underlying T with
   | .fv (.ag l),.fv (.sc (.lit (.int _ i))),some (.array len e)=>if 0≤i∧i<len then match fX P e with|some n=>nQ P e l (i.toNat*n)|none => .stop else .stop
   | _,_,_ => .stop
 | .nilCheck x=>match ev x with | .fv (.sc (.ptr k off)) => .val (.fv (.sc (.ptr k off)))|_ => .stop
 | .extract x i=>match ev x with
   | .tup l=>match l[i]? with|some f => .val (.fv f)|none => .stop
   | _ => .stop
 | .build T parts=>match tV P T,P.underlying T with
   | some z,some (.struct fs)=>match placesA P fs with
     | some pl=>match xN (fun i=>pl[i]?) (parts.toList.map fun p=>(p.1,ev p.2)) z with|some l => .val (.fv (.ag l))|none => .stop
     | none => .stop
   | some z,some (.array _ e)=>match fX P e with
     | some n=>match xN (fun i=>some (i*n,n)) (parts.toList.map fun p=>(p.1,ev p.2)) z with|some l => .val (.fv (.ag l))|none => .stop
     | none => .stop
   | _,_ => .stop
 | .buildSlice T len parts=>match P.underlying T with
   | some (.slice e)=>match fX P e,(P.info? e).bind (·.zero) with
     | some n,some z=>if 0<n∧0<len∧len*n≤16777216∧(zerosN z (len*n)).all (·.oneCell')=true then match xN (fun i=>some (i*n,n)) (parts.toList.map fun p=>(p.1,ev p.2)) ((zerosN z (len*n)).map .lit) with|some l => .nsl len e l|none => .stop else .stop
     | _,_ => .stop
   | _ => .stop
 | .slice T x none none none=>match ev x,P.underlying T with
   | .fv (.sc (.ptr k off)),some (.array n e)=>match fX P e with|some _ => .val (.fv (.sc (.slc k off n n)))|none => .stop
   | _,_ => .stop
 | .binOp op T x y _=>match vO (ev x),vO (ev y) with
   | some a,some b=>iZ P (do eqGuard op T x y a b;binOp op T a b)
   | _,_ => .stop
 | .makeFunc (.func F) first cap=>match toCA (first.toList.map ev),toCA (cap.toList.map ev) with
   | some a,some b => .val (.fv (.clo F a b))
   | _,_ => .stop
 | .unOp op _ x=>match vO (ev x) with|some a=>iZ P (Op.unary op a)|none => .stop
 | .convert s d x=>match vO (ev x) with|some a=>iZ P (convert s d a)|none => .stop
 | .call c=>match c.callee with
   | .value f=>match vO (ev f),ev f with
     | some (.func (.func g) a b),_ => .call g (a.toList.map nZ++c.args.toList.map ev++b.toList.map nZ)
     | none,.fv (.clo g a b) => .call g (a.map caA++c.args.toList.map ev++b.map caA)
     | _,_ => .stop
   | .builtin .len=>match c.argTypes[0]?,c.args.toList with
     | some T,[x]=>match P.underlying T,ev x with
       | some (.slice _),.fv (.sc (.slc _ _ n _)) => .val (.fv (.sc (.lit (.int .i64 n))))
       | _,_ => .stop
     | _,_ => .stop
   | .builtin b=>match litsA (c.args.toList.map ev) with
     | some vs=>match evalP P (builtin b c.argTypes o.type (c.args.map fun | .const _=>true|_=>false) vs.toArray) with
       | some (.value v) => .val (nZ v)
       | _ => .stop
     | none => .stop
   | _ => .stop
 | _ => .stop
end Ab
namespace Ab
open Go.RowKit
variable {Kc:Value→Bool} {P:Program} {ev:Operand→AV Kc} {bl:List (Option (TypeId×List (Seg Kc)))} {β:List Nat} {w:World} {ρ:Operand→Value} {o:Oper} {x:AV Kc}
def Mem (β:List Nat) (bl:List (Option (TypeId×List (Seg Kc)))) (w:World):Prop :=
 ∀ (k:Nat) T l,bl[k]?=some (some (T,l))→∃ g cs,β[k]?=some g∧w.heap[g]?=some (.cells cs.toArray T (0,0))∧holdsL β l cs w
theorem xO {g:Nat} {cs:List Value} {T:TypeId} {fr:Nat×Nat} (h:w.heap[g]?=some (.cells cs.toArray T fr)) (i:Nat):w.cell? ⟨g,i,none⟩=cs[i]?:=by
 unfold World.cell?
 rw [h]
 simp
theorem sA {g:Nat} {cs:List Value} {T:TypeId} {fr:Nat×Nat} (h:w.heap[g]?=some (.cells cs.toArray T fr)) (off n:Nat):w.rangeAt g off ((cs.drop off).take n):=by
 intro j v hj
 rw [xO h]
 rw [List.getElem?_take] at hj
 split at hj
 ·rw [List.getElem?_drop] at hj;exact hj
 ·cases hj
theorem partA_val {T:TypeId} {l:List (Seg Kc)} {off:Nat} (h:nQ P T l off = .val x):∃ n m,fX P T=some n∧cut l off n=some m∧((rowB P T=some true∧x = .fv (.ag m))∨(rowB P T=some false∧n=1∧∃ s,m = [s]∧x = .fv (.sc s))):=by
 unfold nQ at h
 split at h
 ·rename_i n hn
  split at h
  ·rename_i m hm
   split at h
   ·rename_i hr
    injection h with h
    exact ⟨n,_,hn,hm,.inl ⟨hr,h.symm⟩⟩
   ·rename_i s hr
    split at h
    ·rename_i h1
     injection h with h
     exact ⟨n,_,hn,hm,.inr ⟨hr,by simpa using h1,s,rfl,h.symm⟩⟩
    ·cases h
   ·cases h
  ·cases h
 ·cases h
theorem pK {T:TypeId} {b:Bool} (h:rowB P T=some b):∃ d,P.underlying T=some d∧d.isRow=b:=by
 unfold rowB at h
 rw [Option.map_eq_some_iff] at h
 exact h
theorem qU {T:TypeId} {n:Nat} (h:fX P T=some n):∃ i,P.info? T=some i∧i.size=n:=by
 unfold fX at h
 rw [Option.map_eq_some_iff] at h
 exact h
theorem tW {T:TypeId} {d:TypeDesc} (h:P.underlying T=some d) (w:World):(isAgg T).run P w = .ok d.isRow w:=by
 unfold isAgg
 rw [Sem.run_bind,run_underlying h w]
 cases d <;> rfl
theorem fS {T:TypeId} {n:Nat} (h:fX P T=some n) (w:World):(Go.sizeOf T).run P w = .ok n w:=by
 obtain ⟨i,h1,h2⟩:=qU h
 simp [Go.sizeOf,typeInfo,h1,h2]
theorem mU {s:Seg Kc} {cs:List Value} (h:holdsL β [s] cs w):s.holds β cs w:=by
 obtain ⟨a,b,e,h1,h2⟩:=h
 rw [show b = [] from h2,List.append_nil] at e
 rw [e];exact h1
theorem take_one {cs:List Value} {off:Nat} (h:off+1≤cs.length):∃ v,(cs.drop off).take 1 = [v]∧cs[off]?=some v:=by
 refine ⟨cs[off],?_,List.getElem?_eq_getElem (by omega)⟩
 rw [List.drop_eq_getElem_cons (by omega)]
 rfl
theorem qF {T T' : TypeId} {l:List (Seg Kc)} {off g:Nat} {cs:List Value} (h:nQ P T l off = .val x) (hg:w.heap[g]?=some (.cells cs.toArray T' (0,0))) (hl:holdsL β l cs w) :
 ∃ v,(loadVar T ⟨g,off,none⟩).run P w = .ok v w∧x.holds β v w:=by
 obtain ⟨n,m,hn,hm,hc⟩:=partA_val h
 obtain ⟨h1,h2⟩:=jZ hm hl
 rcases hc with ⟨hr,rfl⟩|⟨hr,rfl,s,rfl,rfl⟩
 ·obtain ⟨d,hd,hd2⟩:=pK hr
  obtain ⟨i,hi,hi2⟩:=qU hn
  refine ⟨_,run_loadVar_mid w g off T ((cs.drop off).take n) d (sA hg off n) hd hd2 ?_,_,rfl,h1⟩
  rw [hi,Option.map_some,hi2,List.length_take,List.length_drop,Nat.min_eq_left (by omega)]
 ·obtain ⟨d,hd,hd2⟩:=pK hr
  obtain ⟨v,hv,hv2⟩:=take_one h2
  rw [hv] at h1
  refine ⟨v,?_,mU h1⟩
  unfold loadVar
  rw [Sem.run_bind,tW hd w,hd2]
  have hcell:w.cell? ⟨g,off,none⟩=some v:=by rw [xO hg];exact hv2
  simp [Result.andThen,hcell]
theorem run_part {T:TypeId} {l:List (Seg Kc)} {off:Nat} {cs:List Value} (h:nQ P T l off = .val x) (hl:holdsL β l cs w) :
 ∃ v,(part T cs.toArray off).run P w = .ok v w∧x.holds β v w:=by
 obtain ⟨n,m,hn,hm,hc⟩:=partA_val h
 obtain ⟨h1,h2⟩:=jZ hm hl
 rcases hc with ⟨hr,rfl⟩|⟨hr,rfl,s,rfl,rfl⟩
 ·obtain ⟨d,hd,hd2⟩:=pK hr
  refine ⟨.agg ((cs.drop off).take n).toArray,?_,_,rfl,h1⟩
  unfold part
  rw [Sem.run_bind,tW hd w,hd2]
  simp only [Result.andThen,if_true,Sem.run_bind,fS hn w,Sem.run_pure]
  congr 2
  apply Array.toList_inj.1
  simp [Array.toList_extract]
 ·obtain ⟨d,hd,hd2⟩:=pK hr
  obtain ⟨v,hv,hv2⟩:=take_one h2
  rw [hv] at h1
  refine ⟨v,?_,mU h1⟩
  unfold part
  rw [Sem.run_bind,tW hd w,hd2]
  simp [Result.andThen,hv2]
theorem qV {T:TypeId} {l:List (Seg Kc)} (h:tV P T=some l):∃ z,(P.info? T).bind (·.zero)=some z∧(∀ w,(zeroValue T).run P w = .ok z w)∧l=z.cells.toList.map .lit∧z.cells.toList.all (·.oneCell')=true:=by
 unfold tV at h
 split at h
 ·rename_i z hz
  split at h
  ·rename_i h1
   injection h with h
   refine ⟨z,hz,fun w=>?_,h.symm,h1⟩
   rw [Option.bind_eq_some_iff] at hz
   obtain ⟨i,hi,hz⟩:=hz
   simp [zeroValue,typeInfo,hi,hz]
  ·cases h
 ·cases h
theorem oA {s:Sem Value} (h:iZ (Kc:=Kc) P s = .val x) (β:List Nat) (w:World):∃ v,s.run P w = .ok v w∧x.holds β v w:=by
 unfold iZ at h
 split at h
 ·rename_i v hv
  injection h with h
  subst h
  exact ⟨v,bL hv w,fY v⟩
 ·cases h
theorem xP (cs:Array Value) (ds:List Value) (off:Nat) (h:off+ds.length≤cs.size) :
 (ds.toArray.zipIdx.foldl (fun cs (c,j)=>cs.setIfInBounds (off+j) c) cs).toList=cs.toList.take off++ds++cs.toList.drop (off+ds.length):=by
 rw [← Array.foldl_toList]
 have key:∀ (es:List Value) (k:Nat) (a:Array Value),off+k+es.length≤a.size →
  ((es.zipIdx k).foldl (fun cs (c,j)=>cs.setIfInBounds (off+j) c) a).toList=a.toList.take (off+k)++es++a.toList.drop (off+k+es.length):=by
  intro es
  induction es with
  | nil=>intro k a _;simp
  | cons e es ih =>
    intro k a hk
    simp only [List.length_cons] at hk
    rw [List.zipIdx_cons,List.foldl_cons,ih (k+1) _ (by simp;omega)]
    simp only [Array.toList_setIfInBounds,List.length_cons]
    rw [show off+(k+1)=(off+k)+1 from by omega]
    rw [List.take_set,List.drop_set]
    have hlt:off+k<a.toList.length:=by simp;omega
    have hlt2:off+k+1+es.length > off+k:=by omega
    rw [if_pos (by omega)]
    have e1:(a.toList.take (off+k+1)).set (off+k) e=a.toList.take (off+k) ++ [e]:=by
     rw [List.take_succ_eq_append_getElem hlt]
     rw [List.set_append_right _ _ (by simp;omega)]
     simp [Nat.min_eq_left (show off+k≤a.size by omega)]
    rw [e1]
    rw [show off+k+(es.length+1)=off+k+1+es.length from by omega]
    simp
 have:=key ds 0 cs (by simpa using h)
 simpa using this
theorem oB {s:Seg Kc} {v:Value} (h:s.holds β [v] w):v.cells = #[v]:=by
 have:=Seg.one h v (by simp)
 cases v <;> simp_all [Value.cells,Value.oneCell']
theorem fill_step {place:Nat→Option (Nat×Nat)} {cs:Array Value} {i off n:Nat} {v:Value} {rest:List (Nat×Value)} (hp:place i=some (off,n)) (hn:v.cells.size=n) (hle:off+v.cells.size≤cs.size) :
 Instr.fill place cs ((i,v)::rest)=Instr.fill place (v.cells.zipIdx.foldl (fun cs (c,j)=>cs.setIfInBounds (off+j) c) cs) rest:=by
 have h2:(decide (v.cells.size≠n) || decide (off+v.cells.size > cs.size))=false:=by simp;omega
 rw [Instr.fill,hp]
 simp only [h2,Bool.false_eq_true,if_false]
theorem lM {place:Nat→Option (Nat×Nat)}:∀ {parts:List (Nat×Operand)} {l l' : List (Seg Kc)} {cs:Array Value},xN place (parts.map fun p=>(p.1,ev p.2)) l=some l'→holdsL β l cs.toList w →
 (∀ p∈parts,(ev p.2).holds β (ρ p.2) w)→∃ ds:Array Value,Instr.fill place cs (parts.map fun p=>(p.1,ρ p.2))=some ds∧holdsL β l' ds.toList w
 | [],l,l',cs,h,hl,_=>by injection h with h;subst h;exact ⟨cs,rfl,hl⟩
 | (i, y)::parts,l,l',cs,h,hl,hp=>by
   have hy:=hp (i,y) (by simp)
   have hp' : ∀ p∈parts,(ev p.2).holds β (ρ p.2) w:=fun p hm=>hp p (by simp [hm])
   simp only [List.map_cons,xN] at h
   simp only at hy
   split at h
   ·rename_i off n s hpl hev
    rw [hev] at hy
    split at h
    ·rename_i hn
     simp only [Bool.and_eq_true,beq_iff_eq] at hn
     rw [Option.bind_eq_some_iff] at h
     obtain ⟨l2,hr,h⟩:=h
     obtain ⟨h1,h2⟩:=mS hr hl (holdsL.single hy)
     have hc:=oB hy
     simp only [List.length_singleton] at h2
     rw [Array.length_toList] at h2
     obtain ⟨ds,hd,hd2⟩:=lM (cs := [ρ y].toArray.zipIdx.foldl (fun cs (c,j)=>cs.setIfInBounds (off+j) c) cs) h (by
      rw [xP cs [ρ y] off (by simpa using h2)]
      exact h1) hp'
     refine ⟨ds,?_,hd2⟩
     rw [List.map_cons,fill_step hpl (by rw [hc];simp;omega) (by rw [hc];simp;omega),hc]
     exact hd
    ·cases h
   ·rename_i off n m hpl hev
    rw [hev] at hy
    obtain ⟨es,he,hm⟩:=hy
    split at h
    ·rename_i hn
     simp only [beq_iff_eq] at hn
     rw [Option.bind_eq_some_iff] at h
     obtain ⟨l2,hr,h⟩:=h
     obtain ⟨h1,h2⟩:=mS hr hl hm
     have hlen:=holdsL.len hm
     simp only [Array.length_toList] at h2
     obtain ⟨ds,hd,hd2⟩:=lM (cs:=es.toArray.zipIdx.foldl (fun cs (c,j)=>cs.setIfInBounds (off+j) c) cs) h (by
      rw [xP cs es off (by omega)]
      exact h1) hp'
     refine ⟨ds,?_,hd2⟩
     have hc:(ρ y).cells=es.toArray:=by rw [he];rfl
     rw [List.map_cons,fill_step hpl (by rw [hc];simp;omega) (by rw [hc];simp;omega),hc]
     exact hd
    ·cases h
   ·cases h
end Ab
end Go.Proofs.YtklnecajplnboaaGreatDoor
