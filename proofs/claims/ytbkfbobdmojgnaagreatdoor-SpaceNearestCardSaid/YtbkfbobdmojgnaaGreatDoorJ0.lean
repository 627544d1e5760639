/- Parts of the proof, joined. -/
import Derived.Below
import Derived.WalkKit
import Derived.Lib.Hide
import Derived.Deep.Draws
import Derived.Test.YtbkfbobdmojgnaaGreatDoorProg
import Derived.WalkSpells
import Derived.BigQuiet
import Derived.Deep.QuietTactic
import Derived.OwnWalk
import Derived.Laws.Externs
import Derived.Shelf.Spec.BitsCarry
set_option linter.unusedSimpArgs false
set_option linter.unusedVariables false
namespace Go.Proofs.YtbkfbobdmojgnaaGreatDoor.Pl
def val (B:Nat):List Nat→Nat
 | []=>0
 | d::l=>d+B*val B l
theorem val_append (B:Nat) (l m:List Nat):val B (l++m)=val B l+B^l.length*val B m:=by
 induction l with
 | nil=>simp [val]
 | cons d l ih =>
   simp only [List.cons_append,val,ih,List.length_cons,Nat.pow_succ]
   grind
theorem val_snoc (B:Nat) (l:List Nat) (d:Nat):val B (l ++ [d])=val B l+B^l.length*d:=by
 rw [val_append];simp [val]
def Dig (B:Nat) (l:List Nat):Prop := ∀ d∈l,d<B
theorem Dig.nil (B:Nat):Dig B []:=by intro d h;cases h
theorem Dig.cons {B d:Nat} {l:List Nat} (h:d<B) (hl:Dig B l):Dig B (d::l):=by
 intro e he
 rcases List.mem_cons.1 he with rfl|he
 ·exact h
 ·exact hl e he
theorem Dig.app {B:Nat} {l m:List Nat} (hl:Dig B l) (hm:Dig B m):Dig B (l++m):=by
 intro e he
 rcases List.mem_append.1 he with he|he
 ·exact hl e he
 ·exact hm e he
theorem Dig.take {B:Nat} {l:List Nat} (hl:Dig B l) (k:Nat):Dig B (l.take k):=fun e he=>hl e (List.mem_of_mem_take he)
theorem Dig.drop {B:Nat} {l:List Nat} (hl:Dig B l) (k:Nat):Dig B (l.drop k):=fun e he=>hl e (List.mem_of_mem_drop he)
theorem Dig.at_ {B:Nat} {l:List Nat} (hl:Dig B l) {k d:Nat} (h:l[k]?=some d):d<B:=hl d (List.mem_of_getElem? h)
theorem Dig.get {B:Nat} {l:List Nat} (hl:Dig B l) (k:Nat) (h:k<l.length):l[k]<B:=hl _ (List.getElem_mem h)
theorem Dig.get0 {B:Nat} {l:List Nat} (hB:0<B) (hl:Dig B l) (k:Nat):l.getD k 0<B:=by
 rcases Nat.lt_or_ge k l.length with h|h
 ·simp [List.getD,List.getElem?_eq_getElem h];exact hl.get k h
 ·simp [List.getD,List.getElem?_eq_none h,hB]
theorem Dig.set {B:Nat} {l:List Nat} (hl:Dig B l) {k d:Nat} (hd:d<B):Dig B (l.set k d):=by
 intro e he
 rcases List.mem_or_eq_of_mem_set he with he|rfl
 ·exact hl e he
 ·exact hd
theorem Dig.replicate {B:Nat} (hB:0<B) (n:Nat):Dig B (List.replicate n 0):=by
 intro e he;rw [List.eq_of_mem_replicate he];exact hB
theorem val_lt {B:Nat} {l:List Nat} (h:Dig B l):val B l<B^l.length:=by
 induction l with
 | nil=>simp [val]
 | cons d l ih =>
   have hd:d<B:=h d (by simp)
   have hl:=ih (fun e he=>h e (by simp [he]))
   simp only [val,List.length_cons,Nat.pow_succ]
   have h1:val B l+1≤B^l.length:=hl
   have h2:=Nat.mul_le_mul_left B h1
   rw [Nat.mul_add,Nat.mul_one,Nat.mul_comm B (B^l.length)] at h2
   omega
theorem val_zeros (B n:Nat):val B (List.replicate n 0)=0:=by
 induction n with
 | zero=>rfl
 | succ n ih=>simp [List.replicate_succ,val,ih]
theorem val_take_succ (B:Nat) (l:List Nat) (k:Nat) (h:k<l.length):val B (l.take (k+1))=val B (l.take k)+B^k*l[k]:=by
 rw [List.take_succ_eq_append_getElem h,val_snoc,List.length_take,Nat.min_eq_left (by omega)]
theorem val_split (B:Nat) (l:List Nat) (k:Nat) (h:k≤l.length):val B l=val B (l.take k)+B^k*val B (l.drop k):=by
 have:=val_append B (l.take k) (l.drop k)
 rw [List.take_append_drop,List.length_take,Nat.min_eq_left h] at this
 exact this
theorem val_drop (B:Nat) (l:List Nat) (k:Nat) (h:k<l.length):val B (l.drop k)=l[k]+B*val B (l.drop (k+1)):=by
 rw [List.drop_eq_getElem_cons h];rfl
def Norm (l:List Nat):Prop := ∀ h:l≠[],l.getLast h≠0
theorem Norm.nil:Norm []:=fun h=>absurd rfl h
theorem Norm.ge {B:Nat} {l:List Nat} (hn:Norm l) (h:l≠[]):B^(l.length-1)≤val B l:=by
 have e:=List.dropLast_concat_getLast h
 have hl:=hn h
 have:val B l=val B l.dropLast+B^l.dropLast.length*l.getLast h:=by
  conv=>lhs;rw [← e]
  exact val_snoc B _ _
 rw [this,List.length_dropLast]
 have:B^(l.length-1)*1≤B^(l.length-1)*l.getLast h:=Nat.mul_le_mul_left _ (by omega)
 omega
theorem Norm.pos {B:Nat} (hB:0<B) {l:List Nat} (hn:Norm l) (h:l≠[]):0<val B l:=by
 have:=hn.ge (B:=B) h
 have h2:0<B^(l.length-1):=Nat.pow_pos hB
 omega
theorem Norm.zero_iff {B:Nat} (hB:0<B) {l:List Nat} (hn:Norm l):val B l=0↔l = []:=by
 constructor
 ·intro h
  rcases Classical.em (l = []) with e|e
  ·exact e
  ·have:=hn.pos hB e;omega
 ·rintro rfl;rfl
theorem lt_of_length {B:Nat} (hB:1<B) {a b:List Nat} (ha:Dig B a) (hb:Norm b) (h:a.length<b.length):val B a<val B b:=by
 have h1:=val_lt ha
 have hne:b≠[]:=by rintro rfl;simp at h
 have h2:=hb.ge (B:=B) hne
 have h3:B^a.length≤B^(b.length-1):=Nat.pow_le_pow_right (by omega) (by omega)
 omega
theorem lt_of_top {B:Nat} {a b:List Nat} (hl:a.length=b.length) (ha:Dig B a) {k:Nat} (hk:k<a.length) (htop:a.drop (k+1)=b.drop (k+1)) (hd:a[k]<b[k]'(by omega)):val B a<val B b:=by
 rw [val_split B a (k+1) (by omega),val_split B b (k+1) (by omega),htop,val_take_succ B a k hk,val_take_succ B b k (by omega)]
 have h1:=val_lt (ha.take k)
 rw [List.length_take,Nat.min_eq_left (by omega)] at h1
 have h2:B^k*(a[k]+1)≤B^k*b[k]'(by omega):=Nat.mul_le_mul_left _ hd
 rw [Nat.mul_add,Nat.mul_one] at h2
 omega
theorem length_le_of_val {B L:Nat} (hB:1<B) {a:List Nat} (na:Norm a) (h:val B a<B^L):a.length≤L:=by
 rcases Classical.em (a = []) with rfl|e
 ·simp
 ·have h1:=na.ge (B:=B) e
  rcases Nat.lt_or_ge L a.length with hl|hl
  ·have:B^L≤B^(a.length-1):=Nat.pow_le_pow_right (by omega) (by omega)
   omega
  ·exact hl
theorem val_take_pred (B:Nat) {l:List Nat} {k:Nat} (hk:k<l.length) (h0:l[k]=0):val B (l.take (k+1))=val B (l.take k):=by
 rw [val_take_succ B l k hk,h0];simp
theorem norm_take {l:List Nat} {k:Nat} (hk:k≤l.length) (h:0<k→l[k-1]?≠some 0):Norm (l.take k):=by
 intro hne
 have hpos:0<k:=by
  rcases Nat.eq_zero_or_pos k with rfl|h
  ·simp at hne
  ·exact h
 have h1:=h hpos
 rw [List.getLast_eq_getElem]
 simp only [List.length_take,Nat.min_eq_left hk]
 intro he
 apply h1
 rw [List.getElem?_eq_getElem (by omega)]
 simp at he
 simp [he]
end Go.Proofs.YtbkfbobdmojgnaaGreatDoor.Pl
namespace Go.Proofs.YtbkfbobdmojgnaaGreatDoor
open Go.RowKit Pl
def W64:Nat:=18446744073709551616
theorem W64_eq:W64=18446744073709551616:=rfl
theorem W64_one:1<W64:=by unfold W64;omega
theorem W64_pos:0<W64:=by unfold W64;omega
def cellU (n:Nat):Value := .int .u64 (n:Int)
def Rd (w:World) (A:Option Addr) (n c:Nat) (xs:List Nat):Prop :=
 xs.length=n∧n≤c∧c≤maxLen∧(0<n→∃ ad,A=some ad∧ad.block<w.heap.size∧∀ (j x:Nat),xs[j]?=some x→w.cell? (ad.add j)=some (.int .u64 (x:Int)))
theorem block_add (a:Addr) (n:Nat):(a.add n).block=a.block:=by unfold Addr.add;split <;> rfl
section
variable {w w' : World} {A:Option Addr} {n c:Nat} {xs:List Nat}
theorem Rd.len (h:Rd w A n c xs):xs.length=n:=h.1
theorem Rd.cap (h:Rd w A n c xs):n≤c:=h.2.1
theorem Rd.at_ (h:Rd w A n c xs) {k:Nat} (hk:k<n) :
 ∃ ad x,A=some ad∧ad.block<w.heap.size∧xs[k]?=some x∧w.cell? (ad.add k)=some (.int .u64 (x:Int)):=by
 obtain ⟨ad,e,hb,hc⟩:=h.2.2.2 (by omega)
 have hl:k<xs.length:=by have:=h.1;omega
 exact ⟨ad,xs[k],e,hb,List.getElem?_eq_getElem hl,hc k _ (List.getElem?_eq_getElem hl)⟩
theorem Rd.below (h:Rd w A n c xs) (hb:Below w.heap.size w w'):Rd w' A n c xs:=by
 refine ⟨h.1,h.2.1,h.2.2.1,fun hn=>?_⟩
 obtain ⟨ad,e,hl,hc⟩:=h.2.2.2 hn
 have:=hb.size
 exact ⟨ad,e,by omega,fun j x hx=>(hb.cell (p:=ad.add j) (by rw [block_add];exact hl)).trans (hc j x hx)⟩
theorem Rd.nil:Rd w none 0 0 []:=⟨rfl,Nat.le_refl _,Nat.zero_le _,fun h=>absurd h (by omega)⟩
theorem Rd.take (h:Rd w A n c xs) {k:Nat} (hk:k≤n):Rd w A k c (xs.take k):=by
 refine ⟨by rw [List.length_take,h.1];omega,Nat.le_trans hk h.2.1,h.2.2.1,fun hp=>?_⟩
 obtain ⟨ad,e,hl,hc⟩:=h.2.2.2 (by omega)
 refine ⟨ad,e,hl,fun j x hx=>hc j x ?_⟩
 rw [List.getElem?_take] at hx
 split at hx
 ·exact hx
 ·cases hx
end
def Blk (w:World) (g:Nat) (t:TypeId) (ys:List Nat):Prop:=w.heap[g]?=some (.cells (ys.map cellU).toArray t (0,0))
section
variable {w w' : World} {g:Nat} {t:TypeId} {ys:List Nat}
theorem Blk.lt (h:Blk w g t ys):g<w.heap.size:=by
 unfold Blk at h
 rcases Nat.lt_or_ge g w.heap.size with hlt|hge
 ·exact hlt
 ·rw [Array.getElem?_eq_none hge] at h;cases h
theorem Blk.cell (h:Blk w g t ys) {i x:Nat} (hx:ys[i]?=some x):w.cell? ⟨g,i,none⟩=some (.int .u64 (x:Int)):=by
 unfold Blk at h
 simp [World.cell?,h,hx,cellU]
theorem Blk.cell_get (h:Blk w g t ys) {i:Nat} (hi:i<ys.length):w.cell? ⟨g,i,none⟩=some (.int .u64 ((ys[i]:Nat):Int)):=h.cell (List.getElem?_eq_getElem hi)
theorem Blk.frozen (h:Blk w g t ys) (i:Nat):w.frozen? ⟨g,i,none⟩=false:=by
 unfold Blk at h
 simp [World.frozen?,h]
theorem Blk.set_ (h:Blk w g t ys) (i x:Nat):Blk (w.setCell ⟨g,i,none⟩ (.int .u64 (x:Int))) g t (ys.set i x):=by
 unfold Blk at h ⊢
 simp only [World.setCell,Array.getElem?_modify,h]
 simp [List.map_set,cellU]
theorem Blk.drew (h:Blk w g t ys):Blk w.drew g t ys:=h
theorem Blk.alloc (h:Blk w g t ys) (o:Obj):Blk (w.alloc o) g t ys:=(Below.heap_alloc w o g h.lt).trans h
theorem Blk.far (h:Blk w g t ys) {p:Addr} (hp:g≠p.block) (u:Value):Blk (w.setCell p u) g t ys:=(Below.heap_setCell w p u g hp).trans h
theorem Blk.below {B:Nat} (h:Blk w g t ys) (hb:Below B w w') (hg:g<B):Blk w' g t ys:=(hb.block g hg).trans h
theorem Blk.rd (h:Blk w g t ys) (hm:ys.length≤maxLen):Rd w (some ⟨g,0,none⟩) ys.length ys.length ys:=by
 refine ⟨rfl,Nat.le_refl _,hm,fun _=>⟨_,rfl,h.lt,fun j x hx=>?_⟩⟩
 have:(⟨g,0,none⟩:Addr).add j=⟨g,j,none⟩:=by unfold Addr.add;split <;> simp_all
 rw [this]
 exact h.cell hx
theorem Blk.of_own {base e n:Nat} {xs:List Value} (h:w.ownsRow base e 1 (.slice (some ⟨g,0,none⟩) n n) n xs) (hx:xs=ys.map cellU):Blk w g e ys:=by
 obtain ⟨h1,h2|⟨g',cap,cur,hv,_,hh,_,_,hs,ht⟩⟩:=h
 ·obtain ⟨hv,_⟩:=h2
  injection hv with hv
  cases hv
 ·injection hv with hv _ hc
  injection hv with hv
  injection hv with hv
  subst hc
  subst hv
  unfold Blk
  rw [hh]
  have:cur.toList=xs:=by
   rw [← ht,List.take_of_length_le]
   simp [hs]
  have e2:cur=(ys.map cellU).toArray:=by rw [← hx,← this]
  rw [e2]
end
def Nt (w:World) (v:Value) (a:Nat):Prop :=
 ∃ A n c xs,v = .slice A n c∧Rd w A n c xs∧Dig W64 xs∧Norm xs∧val W64 xs=a
theorem Nt.below {w w' : World} {v:Value} {a:Nat} (h:Nt w v a) (hb:Below w.heap.size w w'):Nt w' v a:=by
 obtain ⟨A,n,c,xs,hv,hr,hd,hn,ha⟩:=h
 exact ⟨A,n,c,xs,hv,hr.below hb,hd,hn,ha⟩
def Lv (k a:Nat):Prop:=a<W64^(2^k)
theorem Lv.mono {k l a:Nat} (h:Lv k a) (hk:k≤l):Lv l a :=
 Nat.lt_of_lt_of_le h (Nat.pow_le_pow_right W64_pos (Nat.pow_le_pow_right (by omega) hk))
theorem Lv.mul {k a b:Nat} (h:Lv k a) (h' : Lv k b):Lv (k+1) (a*b):=by
 unfold Lv at *
 rw [Nat.pow_succ 2 k,Nat.mul_two,Nat.pow_add]
 exact Nat.mul_lt_mul'' h h'
theorem Lv.le {k a b:Nat} (h:Lv k a) (hb:b≤a):Lv k b:=Nat.lt_of_le_of_lt hb h
theorem Lv.add {k a b:Nat} (h:Lv k a) (h' : Lv k b):Lv (k+1) (a+b):=by
 unfold Lv at *
 rw [Nat.pow_succ 2 k,Nat.mul_two,Nat.pow_add]
 generalize W64^2^k=P at *
 rcases Nat.lt_or_ge P 2 with hp|hp
 ·have:P=1:=by omega
  subst this;omega
 ·have:P*2≤P*P:=Nat.mul_le_mul_left _ hp
  omega
theorem Lv.one {k:Nat} (n:Nat) (h:n<W64):Lv k n:=by
 unfold Lv
 have:W64^1≤W64^2^k:=Nat.pow_le_pow_right W64_pos (Nat.one_le_two_pow)
 rw [Nat.pow_one] at this
 omega
theorem Lv.len {k:Nat} {xs:List Nat} (h:Lv k (val W64 xs)) (hn:Norm xs):xs.length≤2^k:=length_le_of_val W64_one hn h
theorem Lv.len40 {xs:List Nat} (h:Lv 40 (val W64 xs)) (hn:Norm xs):xs.length≤1099511627776:=h.len hn
def lenOf:Value→Nat | .slice _ k _=>k|_=>0
def TrimTo (xs:List Nat) (k:Nat):Prop:=k≤xs.length∧Norm (xs.take k)∧val W64 (xs.take k)=val W64 xs
set_option maxHeartbeats 400000 in
theorem trimmed_raw (A:Option Addr) (n c:Nat) (xs:List Nat) (w:World) (h:Rd w A n c xs) :
 Calls Tryz.prog 203 #[.slice A n c] w fun e w'=>Hid (∃ k,TrimTo xs k∧e = .returned (.slice A k c))∧w=w':=by
 have HR:=Lib.hid h
 have hnc:n≤c:=h.cap
 have hcm:c≤9223372036854775807:=h.2.2.1
 clear h
 go_enter Tryz.func203,Tryz.ntmps203
 go_wp2
 go_loop [0] (fun v => ∃ k:Nat,k≤n∧val W64 (xs.take k)=val W64 xs∧v = .slice A k c) (fun v=>lenOf v)
 case atStart=>exact ⟨n,Nat.le_refl _,by rw [List.take_of_length_le (by rw [HR.out.len];omega)],rfl⟩
 case round =>
  obtain ⟨k,hk,hv,rfl⟩:=hrel
  have HV:=Lib.hid hv
  clear hv
  by_cases hk0:0<k
  ·obtain ⟨ad,x,rfl,_hb,hx,hcell⟩:=HR.out.at_ (k:=k-1) (by omega)
   have HX:=Lib.hid hx
   clear hx
   go_wp2
   ·have h0 : x = 0 := by have:((x:Int)==0)=true:=by assumption
                          simpa using this
    subst h0
    refine ⟨⟨k-1,by omega,?_,rfl⟩,by simp only [lenOf];omega⟩
    have hlt:k-1<xs.length:=by rw [HR.out.len];omega
    have hz:xs[k-1]=0:=by have:=HX.out;rw [List.getElem?_eq_getElem hlt] at this;injection this
    have:=val_take_pred W64 hlt hz
    rw [show k-1+1=k from by omega] at this
    rw [← this];exact HV.out
   ·have h0:((x:Int)==0)=false:=by assumption
    go_ret
    refine ⟨⟨k,⟨by rw [HR.out.len];exact hk,norm_take (by rw [HR.out.len];exact hk) (fun _=>?_),HV.out⟩,rfl⟩,rfl⟩
    rw [HX.out]
    intro e
    injection e with e
    subst e
    simp at h0
  ·have hz:decide (0<(k:Int))=false:=by simp;omega
   have hk00:k=0:=by omega
   have HK:=Lib.hid hk00
   clear hk00
   go_wp2
   go_ret
   refine ⟨⟨k,⟨by omega,?_,HV.out⟩,rfl⟩,rfl⟩
   rw [HK.out]
   simpa using Norm.nil
theorem trimmed_any (A:Option Addr) (n c:Nat) (xs:List Nat) (w:World) (h:Rd w A n c xs) (hd:Dig W64 xs) :
 Calls Tryz.prog 203 #[.slice A n c] w fun e w'=>(∃ v,e = .returned v∧Nt w v (val W64 xs))∧w=w':=by
 refine (trimmed_raw A n c xs w h).mono ?_
 rintro e w' ⟨⟨k,⟨hk,hn,hv⟩,rfl⟩,rfl⟩
 refine ⟨⟨_,rfl,A,k,c,xs.take k,rfl,h.take (by rw [← h.len];exact hk),hd.take k,hn,hv⟩,rfl⟩
theorem ret_int {k:IntKind} {a b:Int} (h:a=b):Ending.returned (.int k a) = .returned (.int k b):=by rw [h]
theorem ret_bool {a b:Bool} (h:a=b):Ending.returned (.bool a) = .returned (.bool b):=by rw [h]
def GivesNt (w:World) (a:Nat) (e:Ending) (w' : World):Prop := ∃ v,e = .returned v∧Nt w' v a∧Below w.heap.size w w'
def Gives (w:World) (v:Value) (e:Ending) (w' : World):Prop:=e = .returned v∧Below w.heap.size w w'
theorem drewN0 {B:Nat} {w0 w:World} (h:Below B w0 w) (n:Nat):Below B w0 (w.drewN n):=h.trans ⟨rfl,rfl,rfl,Nat.le_refl _,fun _ _=>rfl⟩
theorem naturalOf_any (x:Nat) (hx:x<W64) (w:World):Calls Tryz.prog 160 #[.int .u64 (x:Int)] w (GivesNt w x):=by
 have hblk:Blk (w.alloc (.cells #[.int .u64 (x:Int)] 193)) w.heap.size 193 [x]:=heap_alloc_new w _
 have hrd:=hblk.rd (by simp [maxLen])
 have hd:Dig W64 [x]:=Dig.cons hx (Dig.nil _)
 have HH:=Lib.hid (And.intro hrd hd)
 clear hblk hrd hd
 go_enter Tryz.func160,Tryz.ntmps160
 go_wp2_with (go_at_call 203;refine (trimmed_any _ _ _ [x] _ HH.out.1 HH.out.2).mono ?_;rintro e w' ⟨⟨v,rfl,hv⟩,rfl⟩)
 go_ret
 refine ⟨v,rfl,by simpa [val] using hv,(Below.refl _ _).alloc (Nat.le_refl _) _⟩
theorem isZero_any (A:Option Addr) (n c:Nat) (w:World) :
 Calls Tryz.prog 178 #[.slice A n c] w fun e w'=>e = .returned (.bool (decide (n=0)))∧w=w':=by
 go_enter Tryz.func178,Tryz.ntmps178
 go_wp2
 go_ret
 refine ⟨?_,rfl⟩
 congr 2
 by_cases h:n=0 <;> simp [h]
theorem low_any (A:Option Addr) (n c:Nat) (xs:List Nat) (w:World) (h:Rd w A n c xs) (hd:Dig W64 xs) :
 Calls Tryz.prog 185 #[.slice A n c] w fun e w'=>e = .returned (.int .u64 ((val W64 xs%W64:Nat):Int))∧w=w':=by
 have HR:=Lib.hid h
 have HD:=Lib.hid hd
 have hnc:n≤c:=h.cap
 have hcm:c≤9223372036854775807:=h.2.2.1
 clear h hd
 rcases Nat.eq_zero_or_pos n with rfl|hn
 ·go_enter Tryz.func185,Tryz.ntmps185
  go_wp2_with (go_at_call 178;refine (isZero_any _ _ _ _).mono ?_;rintro e w' ⟨rfl,rfl⟩)
  go_ret
  refine ⟨?_,rfl⟩
  have:xs = []:=List.eq_nil_of_length_eq_zero HR.out.len
  subst this
  simp [val]
 ·obtain ⟨ad,x,rfl,_hb,hx,hcell⟩:=HR.out.at_ hn
  have hz:decide (n=0)=false:=by simp;omega
  have HX:=Lib.hid hx
  have hcell' : w.cell? ad=some (.int .u64 (x:Int)):=by simpa [Addr.add] using hcell
  clear hx
  go_enter Tryz.func185,Tryz.ntmps185
  go_wp2_with (go_at_call 178;refine (isZero_any _ _ _ _).mono ?_;rintro e w' ⟨rfl,rfl⟩)
  go_ret
  refine ⟨ret_int ?_,rfl⟩
  have hx:=HX.out
  match xs,hx,HD.out with
  | y::l,hx,hd =>
    simp at hx
    subst hx
    have:=hd y (by simp)
    rw [val,Nat.add_mul_mod_self_left,Nat.mod_eq_of_lt this]
theorem isOne_any (A:Option Addr) (n c:Nat) (xs:List Nat) (w:World) (h:Rd w A n c xs) (hd:Dig W64 xs) (hn:Norm xs) :
 Calls Tryz.prog 149 #[.slice A n c] w fun e w'=>e = .returned (.bool (decide (val W64 xs=1)))∧w=w':=by
 have HR:=Lib.hid h
 have HD:=Lib.hid (And.intro hd hn)
 have hnc:n≤c:=h.cap
 have hcm:c≤9223372036854775807:=h.2.2.1
 clear h hd hn
 by_cases h1:n=1
 ·subst h1
  obtain ⟨ad,x,rfl,_hb,hx,hcell⟩:=HR.out.at_ Nat.zero_lt_one
  have HX:=Lib.hid hx
  have hcell' : w.cell? ad=some (.int .u64 (x:Int)):=by simpa [Addr.add] using hcell
  clear hx hcell
  go_enter Tryz.func149,Tryz.ntmps149
  go_wp2
  go_ret
  refine ⟨?_,rfl⟩
  have hx:=HX.out
  have hl:=HR.out.len
  match xs,hx,hl with
  | [y],hx,_ =>
    simp at hx
    subst hx
    congr 2
    simp only [val]
    by_cases e:y=1
    ·subst e;simp
    ·simp [e];omega
 ·have hz:((n:Int)==1)=false:=by simp;omega
  go_enter Tryz.func149,Tryz.ntmps149
  go_wp2
  go_ret
  refine ⟨?_,rfl⟩
  have:¬ val W64 xs=1:=by
   intro e
   have hl:=HR.out.len
   have hlt:xs.length≤1:=length_le_of_val W64_one HD.out.2 (by rw [e,Nat.pow_one];exact W64_one)
   have:xs = []:=List.eq_nil_of_length_eq_zero (by omega)
   subst this
   simp [val] at e
  simp [this]
def cmpI (a b:Int):Int:=if a<b then -1 else if b<a then 1 else 0
theorem nanInt_any (a:Int) (w:World):Calls Tryz.prog 269 #[.int .i64 a] w fun e w'=>e = .returned (.bool false)∧w=w':=by
 have h:(a != a)=false:=by simp
 go_enter Tryz.func269,Tryz.ntmps269
 go_wp2
 go_ret
 exact ⟨ret_bool (by simp),rfl⟩
theorem cmpInt_any (a b:Int) (w:World):Calls Tryz.prog 235 #[.int .i64 a,.int .i64 b] w fun e w'=>e = .returned (.int .i64 (cmpI a b))∧w=w':=by
 rcases Int.lt_trichotomy a b with h|h|h
 ·have hp:=Lib.hid (show cmpI a b = -1 by unfold cmpI;rw [if_pos h])
  go_enter Tryz.func235,Tryz.ntmps235
  go_wp2_with (go_at_call 269;refine (nanInt_any _ _).mono ?_;rintro e w' ⟨rfl,rfl⟩)
  go_ret
  exact ⟨ret_int hp.out.symm,rfl⟩
 ·subst h
  have hp:=Lib.hid (show cmpI a a=0 by unfold cmpI;rw [if_neg (by omega),if_neg (by omega)])
  go_enter Tryz.func235,Tryz.ntmps235
  go_wp2_with (go_at_call 269;refine (nanInt_any _ _).mono ?_;rintro e w' ⟨rfl,rfl⟩)
  go_ret
  exact ⟨ret_int hp.out.symm,rfl⟩
 ·have hp:=Lib.hid (show cmpI a b=1 by unfold cmpI;rw [if_neg (by omega),if_pos h])
  go_enter Tryz.func235,Tryz.ntmps235
  go_wp2_with (go_at_call 269;refine (nanInt_any _ _).mono ?_;rintro e w' ⟨rfl,rfl⟩)
  go_ret
  exact ⟨ret_int hp.out.symm,rfl⟩
theorem nanWord_any (a:Int) (w:World):Calls Tryz.prog 270 #[.int .u64 a] w fun e w'=>e = .returned (.bool false)∧w=w':=by
 have h:(a != a)=false:=by simp
 go_enter Tryz.func270,Tryz.ntmps270
 go_wp2
 go_ret
 exact ⟨ret_bool (by simp),rfl⟩
theorem cmpWord_any (a b:Int) (w:World):Calls Tryz.prog 236 #[.int .u64 a,.int .u64 b] w fun e w'=>e = .returned (.int .i64 (cmpI a b))∧w=w':=by
 rcases Int.lt_trichotomy a b with h|h|h
 ·have hp:=Lib.hid (show cmpI a b = -1 by unfold cmpI;rw [if_pos h])
  go_enter Tryz.func236,Tryz.ntmps236
  go_wp2_with (go_at_call 270;refine (nanWord_any _ _).mono ?_;rintro e w' ⟨rfl,rfl⟩)
  go_ret
  exact ⟨ret_int hp.out.symm,rfl⟩
 ·subst h
  have hp:=Lib.hid (show cmpI a a=0 by unfold cmpI;rw [if_neg (by omega),if_neg (by omega)])
  go_enter Tryz.func236,Tryz.ntmps236
  go_wp2_with (go_at_call 270;refine (nanWord_any _ _).mono ?_;rintro e w' ⟨rfl,rfl⟩)
  go_ret
  exact ⟨ret_int hp.out.symm,rfl⟩
 ·have hp:=Lib.hid (show cmpI a b=1 by unfold cmpI;rw [if_neg (by omega),if_pos h])
  go_enter Tryz.func236,Tryz.ntmps236
  go_wp2_with (go_at_call 270;refine (nanWord_any _ _).mono ?_;rintro e w' ⟨rfl,rfl⟩)
  go_ret
  exact ⟨ret_int hp.out.symm,rfl⟩
theorem cmpI_len {B:Nat} (hB:1<B) {a b:List Nat} (ha:Dig B a) (hb:Dig B b) (na:Norm a) (nb:Norm b) (h:a.length≠b.length):cmpI a.length b.length=cmpI (val B a) (val B b):=by
 unfold cmpI
 rcases Nat.lt_or_gt_of_ne h with h|h
 ·have:=lt_of_length hB ha nb h
  rw [if_pos (by omega),if_pos (by omega)]
 ·have:=lt_of_length hB hb na h
  rw [if_neg (by omega),if_pos (by omega),if_neg (by omega),if_pos (by omega)]
theorem cmpI_top {B:Nat} {a b:List Nat} (hl:a.length=b.length) (ha:Dig B a) (hb:Dig B b) {k:Nat} (hk:k<a.length) (htop:a.drop (k+1)=b.drop (k+1)) {x y:Nat} (hx:a[k]?=some x) (hy:b[k]?=some y) (hne:x≠y) :
 cmpI x y=cmpI (val B a) (val B b):=by
 rw [List.getElem?_eq_getElem hk] at hx
 rw [List.getElem?_eq_getElem (by omega)] at hy
 injection hx with hx
 injection hy with hy
 subst hx
 subst hy
 unfold cmpI
 rcases Nat.lt_or_gt_of_ne hne with h|h
 ·have:=lt_of_top hl ha hk htop h
  rw [if_pos (by omega),if_pos (by omega)]
 ·have:=lt_of_top hl.symm hb (by omega) htop.symm h
  rw [if_neg (by omega),if_pos (by omega),if_neg (by omega),if_pos (by omega)]
def Agree (a b:List Nat) (k:Nat):Prop:=a.drop k=b.drop k
theorem Agree.step {a b:List Nat} {k:Nat} (h:Agree a b (k+1)) {x y:Nat} (hx:a[k]?=some x) (hy:b[k]?=some y) (he:x=y):Agree a b k:=by
 obtain ⟨h1,e1⟩:=List.getElem?_eq_some_iff.1 hx
 obtain ⟨h2,e2⟩:=List.getElem?_eq_some_iff.1 hy
 unfold Agree at *
 rw [List.drop_eq_getElem_cons h1,List.drop_eq_getElem_cons h2,h,e1,e2,he]
set_option maxHeartbeats 1000000 in
theorem compare_any (A:Option Addr) (n c:Nat) (xs:List Nat) (A' : Option Addr) (n' c' : Nat) (ys:List Nat) (w:World) (h:Rd w A n c xs) (h' : Rd w A' n' c' ys)
 (hd:Dig W64 xs) (hd' : Dig W64 ys) (hn:Norm xs) (hn' : Norm ys) :
 Calls Tryz.prog 196 #[.slice A n c,.slice A' n' c'] w (Gives w (.int .i64 (cmpI (val W64 xs) (val W64 ys)))):=by
 have HX:=Lib.hid (And.intro h (And.intro hd hn))
 have HY:=Lib.hid (And.intro h' (And.intro hd' hn'))
 have hnc:n≤c:=h.cap
 have hcm:c≤9223372036854775807:=h.2.2.1
 have hnc' : n'≤c':=h'.cap
 have hcm' : c'≤9223372036854775807:=h'.2.2.1
 clear h h' hd hd' hn hn'
 by_cases hl:n=n'
 ·subst hl
  have ht:((n:Int) != n)=false:=by simp
  go_enter Tryz.func196,Tryz.ntmps196
  go_wp2
  go_loopw [5] (fun i wr => ∃ k:Nat,k≤n∧Agree xs ys k∧i = .int .i64 ((k:Int)-1)∧Below w.heap.size w wr) (fun i _=>(intOf i+1).toNat)
  case atStart=>exact ⟨n,Nat.le_refl _,by unfold Agree;rw [List.drop_eq_nil_of_le (by rw [HX.out.1.len];omega),List.drop_eq_nil_of_le (by rw [HY.out.1.len];omega)],rfl,Below.refl _ _⟩
  case round =>
   obtain ⟨k,hk,hag,rfl,hb⟩:=hrel
   have HA:=Lib.hid hag
   clear hag
   rcases Nat.eq_zero_or_pos k with rfl|hk0
   ·go_wp2
    go_ret
    refine ⟨ret_int ?_,hb⟩
    have:=HA.out
    unfold Agree at this
    simp at this
    rw [this]
    unfold cmpI
    simp
   ·obtain ⟨m,rfl⟩:∃ m,k=m+1:=⟨k-1,by omega⟩
    obtain ⟨ad,x,hA,_,hx,hcx⟩:=(HX.out.1.below hb).at_ (k:=m) (by omega)
    obtain ⟨ad',y,hA',_,hy,hcy⟩:=(HY.out.1.below hb).at_ (k:=m) (by omega)
    subst hA
    subst hA'
    have HE:=Lib.hid (And.intro hx hy)
    clear hx hy hk0
    have hidx:((m:Int)+1-1)=m:=by omega
    simp only [Int.natCast_add,Int.natCast_one,hidx]
    clear hidx
    by_cases he:x=y
    ·have ht:((x:Int) != y)=false:=by simp [he]
     have HE2:=Lib.hid he
     clear he
     go_wp2
     go_quiet (fail)
     go_wp2
     go_roundw
     case rel=>exact ⟨m,by omega,HA.out.step HE.out.1 HE.out.2 HE2.out,rfl,drewN0 hb _⟩
     case measure=>simp [intOf]
    ·have ht:((x:Int) != y)=true:=by simp;omega
     have HE2:=Lib.hid he
     clear he
     go_wp2
     go_quiet (fail)
     have hcx2:(wr.drewN nq).cell? (ad.add m)=some (.int .u64 (x:Int)):=hcx
     have hcy2:(wr.drewN nq).cell? (ad'.add m)=some (.int .u64 (y:Int)):=hcy
     have hb2:=drewN0 hb nq
     clear hb hcx hcy
     generalize wr.drewN nq=w2 at *
     go_wp2
     go_quiet ((go_at_call 236;exact Calls.quiet_of_same ((cmpWord_any _ _ _).mono fun _ _ h=>⟨h.1,h.2.symm⟩)))
     go_wp2
     go_ret
     refine ⟨ret_int ?_,drewN0 hb2 _⟩
     exact cmpI_top (by rw [HX.out.1.len,HY.out.1.len]) HX.out.2.1 HY.out.2.1 (by rw [HX.out.1.len];omega) HA.out HE.out.1 HE.out.2 HE2.out
 ·have ht:((n:Int) != n')=true:=by simp;omega
  have HL:=Lib.hid hl
  clear hl
  go_enter Tryz.func196,Tryz.ntmps196
  go_wp2_with (go_at_call 235;refine (cmpInt_any _ _ _).mono ?_;rintro e w' ⟨rfl,rfl⟩)
  go_ret
  refine ⟨ret_int ?_,Below.refl _ _⟩
  have e1:=HX.out.1.len
  have e2:=HY.out.1.len
  rw [← e1,← e2]
  exact cmpI_len W64_one HX.out.2.1 HY.out.2.1 HX.out.2.2 HY.out.2.2 (by rw [e1,e2];exact HL.out)
theorem run_add64' (x y c:Nat) (hc:c≤1) (w:World) :
 (callFunc 231 #[.int .u64 (x:Int),.int .u64 (y:Int),.int .u64 (c:Int)]).run Tryz.prog w =
  .ok (.value (.tuple #[.int .u64 (((x+y+c)%W64:Nat):Int),.int .u64 (((x+y+c)/W64:Nat):Int)])) w:=by
 rw [run_callFunc_extern Tryz.func231 (by kernel_rfl) (by kernel_rfl) (by kernel_rfl) (e:=add64Entry) (by kernel_rfl),run_add64 x y c (by omega) (by omega) (by omega) (by omega)]
 simp only [Result.andThen,W64]
 congr 5 <;> omega
theorem run_sub64' (x y b:Nat) (hb:b≤1) (w:World) :
 (callFunc 273 #[.int .u64 (x:Int),.int .u64 (y:Int),.int .u64 (b:Int)]).run Tryz.prog w =
  .ok (.value (.tuple #[.int .u64 (((x+W64-y-b)%W64:Nat):Int),.int .u64 ((if x<y+b then 1 else 0:Nat):Int)])) w:=by
 rw [run_callFunc_extern Tryz.func273 (by kernel_rfl) (by kernel_rfl) (by kernel_rfl) (e:=sub64Entry) (by kernel_rfl),run_sub64 x y b hb]
 rfl
theorem info_word:(Tryz.prog.info? 193).map (fun i=>(i.zero,i.size,i.bytes))=some (some (.int .u64 0),1,8):=by kernel_rfl
theorem blk_of_made {w:World} {g base n:Nat} (h:w.ownsRow base 193 1 (.slice (some ⟨g,0,none⟩) n n) n (madeCells #[Value.int .u64 0] n).toList):Blk w g 193 (List.replicate n 0):=by
 refine Blk.of_own h ?_
 rw [toList_madeCells_one]
 simp [cellU]
def AddInv (xs ys zs:List Nat) (k cy:Nat):Prop :=
 cy≤1∧Dig W64 zs∧zs.length=xs.length+1∧val W64 (zs.take k)+W64^k*cy=val W64 (xs.take k)+val W64 (ys.take k)∧(∀ j,k≤j→j<zs.length→zs[j]?=some 0)
theorem AddInv.step {xs ys zs:List Nat} {k cy x y:Nat} (h:AddInv xs ys zs k cy) (hx:xs[k]?=some x) (hy:ys.getD k 0=y) (hdx:Dig W64 xs) (hdy:Dig W64 ys) :
 AddInv xs ys (zs.set k ((x+y+cy)%W64)) (k+1) ((x+y+cy)/W64):=by
 obtain ⟨h1,h2,h3,h4,h5⟩:=h
 obtain ⟨hk,ex⟩:=List.getElem?_eq_some_iff.1 hx
 have bx:=hdx.at_ hx
 have by' : y<W64:=by rw [← hy];exact hdy.get0 W64_pos k
 have hq:(x+y+cy)/W64≤1:=by
  have:=W64_eq
  rw [this] at bx by' ⊢
  omega
 have hr:(x+y+cy)%W64<W64:=Nat.mod_lt _ W64_pos
 have hdm:=Nat.div_add_mod (x+y+cy) W64
 refine ⟨hq,h2.set hr,by simp [h3],?_,?_⟩
 ·have e1:val W64 ((zs.set k ((x+y+cy)%W64)).take (k+1))=val W64 (zs.take k)+W64^k*((x+y+cy)%W64):=by
   rw [val_take_succ _ _ _ (by simp;omega),List.take_set_of_le (Nat.le_refl _)]
   simp
  have e2:val W64 (ys.take (k+1))=val W64 (ys.take k)+W64^k*y:=by
   rcases Nat.lt_or_ge k ys.length with hl|hl
   ·rw [val_take_succ _ _ _ hl]
    simp [List.getD,List.getElem?_eq_getElem hl] at hy
    rw [hy]
   ·rw [List.take_of_length_le (by omega),List.take_of_length_le hl]
    simp [List.getD,List.getElem?_eq_none hl] at hy
    rw [← hy];simp
  rw [e1,e2,val_take_succ _ _ _ hk,ex,Nat.pow_succ]
  generalize (x+y+cy)/W64=q at *
  generalize (x+y+cy)%W64=r at *
  generalize W64^k=P at *
  generalize W64=V at *
  grind
 ·intro j hj hl
  rw [List.getElem?_set_ne (by omega)]
  exact h5 j (by omega) (by simpa using hl)
theorem AddInv.start {xs ys:List Nat}:AddInv xs ys (List.replicate (xs.length+1) 0) 0 0 :=
 ⟨by omega,Dig.replicate W64_pos _,by simp,by simp [val],by intro j _ h;simp at h;simp [h]⟩
theorem AddInv.finish {xs ys zs:List Nat} {cy:Nat} (h:AddInv xs ys zs xs.length cy) (hl:ys.length≤xs.length) :
 Dig W64 (zs.set xs.length cy)∧val W64 (zs.set xs.length cy)=val W64 xs+val W64 ys:=by
 obtain ⟨h1,h2,h3,h4,h5⟩:=h
 refine ⟨h2.set (by have:=W64_one;omega),?_⟩
 rw [List.take_of_length_le (Nat.le_refl _),List.take_of_length_le (l:=ys) hl] at h4
 rw [← h4,← List.take_of_length_le (l:=zs.set xs.length cy) (i:=xs.length+1) (by simp;omega),val_take_succ _ _ _ (by simp;omega),List.take_set_of_le (Nat.le_refl _)]
 simp
set_option maxHeartbeats 1000000 in
theorem plus_ge (A:Option Addr) (n c:Nat) (xs:List Nat) (A' : Option Addr) (n' c' : Nat) (ys:List Nat) (w:World) (h:Rd w A n c xs) (h' : Rd w A' n' c' ys)
 (hd:Dig W64 xs) (hd' : Dig W64 ys) (hn:n≤2199023255552) (hle:¬ n<n') :
 Calls Tryz.prog 183 #[.slice A n c,.slice A' n' c'] w (GivesNt w (val W64 xs+val W64 ys)):=by
 have HX:=Lib.hid (And.intro h hd)
 have HY:=Lib.hid (And.intro h' hd')
 have hnc:n≤c:=h.cap
 have hcm:c≤9223372036854775807:=h.2.2.1
 have hnc' : n'≤c':=h'.cap
 have hcm' : c'≤9223372036854775807:=h'.2.2.1
 have hle' : n'≤n:=by omega
 obtain ⟨i0,hi,hz0,hz1,hz2⟩:=info_parts info_word
 have HI:=Lib.hid (And.intro hi (And.intro hz0 (And.intro hz1 hz2)))
 clear h h' hd hd' hi hz0 hz1 hz2
 go_enter Tryz.func183,Tryz.ntmps183
 go_wp2_with (at_make;refine wpList_make_full _ rfl _ _ 160 rfl w.heap.size 193 i0 (.int .u64 0) 1 Tryz.underlying160 HI.out.1 HI.out.2.1 HI.out.2.2.1 _ _ _ _ (n+1) rfl rfl ?b0 ?b1 ?b2 ?b3 (Nat.le_refl _) ?_)
 case b0=>omega
 case b1=>omega
 case b2=>rw [HI.out.2.2.2];omega
 case b3=>show n+1≤9223372036854775807;omega
 intro w1 hown hg1
 have hb1:Below w.heap.size w w1:=(Below.refl _ _).grown hg1 (Nat.le_refl _) (fun k h=>by cases h)
 have hblk:=blk_of_made hown
 have e0:AddInv xs ys (List.replicate (n+1) 0) 0 0:=by
  have:=AddInv.start (xs:=xs) (ys:=ys)
  rwa [HX.out.1.len] at this
 have HB:=Lib.hid hblk
 have H0:=Lib.hid e0
 clear hown hg1 hblk e0
 obtain ⟨g,hg⟩:∃ g,g=w.heap.size:=⟨_,rfl⟩
 rw [← hg] at HB ⊢
 have HG:=Lib.hid hg
 clear hg
 go_wp2
 go_loopw [6,23] (fun cy i wr => ∃ (k cv:Nat) (zs:List Nat),k≤n'∧i = .int .i64 (k:Int)∧cy = .int .u64 (cv:Int)∧AddInv xs ys zs k cv∧Blk wr g 193 zs∧Below w.heap.size w wr) (fun _ i _=>n'-(intOf i).toNat)
 case atStart=>exact ⟨0,0,_,Nat.zero_le _,rfl,rfl,H0.out,HB.out,hb1⟩
 case round =>
  obtain ⟨k,cv,zs,hk,rfl,rfl,hinv,hblk,hb⟩:=hrel
  have hcv:cv≤1:=hinv.1
  have hzl:k<zs.length:=by rw [hinv.2.2.1,HX.out.1.len];omega
  have HV:=Lib.hid hinv
  by_cases hlt:k<n'
  ·obtain ⟨ad,x,hA,_,hx,hcx⟩:=(HX.out.1.below hb).at_ (k:=k) (by omega)
   obtain ⟨ad',y,hA',_,hy,hcy⟩:=(HY.out.1.below hb).at_ (k:=k) (by omega)
   subst hA
   subst hA'
   obtain ⟨z,hcz⟩:∃ z:Int,wr.cell? ⟨g,k,none⟩=some (.int .u64 z):=⟨_,hblk.cell_get hzl⟩
   have hfz:=hblk.frozen k
   have hadd:=fun w=>run_add64' x y cv hcv w
   have HE:=Lib.hid (And.intro hx (And.intro hy hblk))
   clear hx hy hinv hblk hzl
   go_wp2
   go_roundw
   case rel=>exact ⟨k+1,(x+y+cv)/W64,zs.set k ((x+y+cv)%W64),by omega,by go_num,rfl,HV.out.step HE.out.1 (by rw [List.getD,HE.out.2.1];rfl) HX.out.2 HY.out.2,HE.out.2.2.set_ _ _,hb.setCell (by rw [HG.out];exact Nat.le_refl _) _⟩
   case measure=>simp [intOf];omega
  ·obtain rfl:k=n':=by omega
   have HBl:=Lib.hid hblk
   clear hinv hblk hlt hzl
   go_wp2
   go_loopw [6,9] (fun cy i wr => ∃ (m cv:Nat) (zs:List Nat),m≤n∧k≤m∧i = .int .i64 (m:Int)∧cy = .int .u64 (cv:Int)∧AddInv xs ys zs m cv∧Blk wr g 193 zs∧Below w.heap.size w wr) (fun _ i _=>n-(intOf i).toNat)
   case atStart=>exact ⟨k,cv,zs,by omega,by omega,rfl,rfl,HV.out,HBl.out,hb⟩
   case round =>
    clear hb hcv
    obtain ⟨m,cv,zs,hm,hkm,rfl,rfl,hinv,hblk,hb⟩:=hrel
    have hcv:cv≤1:=hinv.1
    have hzl:m<zs.length:=by rw [hinv.2.2.1,HX.out.1.len];omega
    obtain ⟨z,hcz⟩:∃ z:Int,wr.cell? ⟨g,m,none⟩=some (.int .u64 z):=⟨_,hblk.cell_get hzl⟩
    have hfz:=hblk.frozen m
    have HV:=Lib.hid hinv
    by_cases hlt:m<n
    ·obtain ⟨ad,x,hA,_,hx,hcx⟩:=(HX.out.1.below hb).at_ (k:=m) (by omega)
     subst hA
     have hadd:=fun w=>run_add64' x 0 cv hcv w
     simp only [Int.natCast_zero] at hadd
     have HE:=Lib.hid (And.intro hx hblk)
     clear hx hinv hblk hzl
     go_wp2
     go_roundw
     case rel=>exact ⟨m+1,(x+0+cv)/W64,zs.set m ((x+0+cv)%W64),by omega,by omega,by go_num,rfl,HV.out.step HE.out.1 (by rw [List.getD,List.getElem?_eq_none (by rw [HY.out.1.len];omega)];rfl) HX.out.2 HY.out.2,HE.out.2.set_ _ _,hb.setCell (by rw [HG.out];exact Nat.le_refl _) _⟩
     case measure=>simp [intOf];omega
    ·obtain rfl:m=n:=by omega
     have hfin:=HV.out
     rw [← HX.out.1.len] at hfin
     have hfin2:=hfin.finish (by rw [HY.out.1.len,HX.out.1.len];omega)
     rw [HX.out.1.len] at hfin2
     have hb2:=hblk.set_ m cv
     have hl2:(zs.set m cv).length=m+1:=by rw [List.length_set,hinv.2.2.1,HX.out.1.len]
     have hrd:=hb2.rd (by rw [hl2];show m+1≤9223372036854775807;omega)
     rw [hl2] at hrd
     have HF:=Lib.hid (And.intro hfin2 (And.intro hrd hb2))
     clear hfin hfin2 hb2 hl2 hrd hinv hblk hlt hzl
     go_wp2_with (go_at_call 203;refine (trimmed_any _ _ _ (zs.set m cv) _ HF.out.2.1 HF.out.1.1).mono ?_;rintro e w' ⟨⟨v,rfl,hv⟩,rfl⟩)
     go_ret
     exact ⟨v,rfl,by rw [← HF.out.1.2];exact hv,hb.setCell (by rw [HG.out];exact Nat.le_refl _) _⟩
set_option maxHeartbeats 1000000 in
theorem plus_lt (A:Option Addr) (n c:Nat) (xs:List Nat) (A' : Option Addr) (n' c' : Nat) (ys:List Nat) (w:World) (h:Rd w A n c xs) (h' : Rd w A' n' c' ys)
 (hd:Dig W64 xs) (hd' : Dig W64 ys) (hn:n≤2199023255552) (hle:n'<n) :
 Calls Tryz.prog 183 #[.slice A' n' c',.slice A n c] w (GivesNt w (val W64 xs+val W64 ys)):=by
 have HX:=Lib.hid (And.intro h hd)
 have HY:=Lib.hid (And.intro h' hd')
 have hnc:n≤c:=h.cap
 have hcm:c≤9223372036854775807:=h.2.2.1
 have hnc' : n'≤c':=h'.cap
 have hcm' : c'≤9223372036854775807:=h'.2.2.1
 have hle' : n'≤n:=by omega
 obtain ⟨i0,hi,hz0,hz1,hz2⟩:=info_parts info_word
 have HI:=Lib.hid (And.intro hi (And.intro hz0 (And.intro hz1 hz2)))
 clear h h' hd hd' hi hz0 hz1 hz2
 go_enter Tryz.func183,Tryz.ntmps183
 go_wp2_with (at_make;refine wpList_make_full _ rfl _ _ 160 rfl w.heap.size 193 i0 (.int .u64 0) 1 Tryz.underlying160 HI.out.1 HI.out.2.1 HI.out.2.2.1 _ _ _ _ (n+1) rfl rfl ?b0 ?b1 ?b2 ?b3 (Nat.le_refl _) ?_)
 case b0=>omega
 case b1=>omega
 case b2=>rw [HI.out.2.2.2];omega
 case b3=>show n+1≤9223372036854775807;omega
 intro w1 hown hg1
 have hb1:Below w.heap.size w w1:=(Below.refl _ _).grown hg1 (Nat.le_refl _) (fun k h=>by cases h)
 have hblk:=blk_of_made hown
 have e0:AddInv xs ys (List.replicate (n+1) 0) 0 0:=by
  have:=AddInv.start (xs:=xs) (ys:=ys)
  rwa [HX.out.1.len] at this
 have HB:=Lib.hid hblk
 have H0:=Lib.hid e0
 clear hown hg1 hblk e0
 obtain ⟨g,hg⟩:∃ g,g=w.heap.size:=⟨_,rfl⟩
 rw [← hg] at HB ⊢
 have HG:=Lib.hid hg
 clear hg
 go_wp2
 go_loopw [6,23] (fun cy i wr => ∃ (k cv:Nat) (zs:List Nat),k≤n'∧i = .int .i64 (k:Int)∧cy = .int .u64 (cv:Int)∧AddInv xs ys zs k cv∧Blk wr g 193 zs∧Below w.heap.size w wr) (fun _ i _=>n'-(intOf i).toNat)
 case atStart=>exact ⟨0,0,_,Nat.zero_le _,rfl,rfl,H0.out,HB.out,hb1⟩
 case round =>
  obtain ⟨k,cv,zs,hk,rfl,rfl,hinv,hblk,hb⟩:=hrel
  have hcv:cv≤1:=hinv.1
  have hzl:k<zs.length:=by rw [hinv.2.2.1,HX.out.1.len];omega
  have HV:=Lib.hid hinv
  by_cases hlt:k<n'
  ·obtain ⟨ad,x,hA,_,hx,hcx⟩:=(HX.out.1.below hb).at_ (k:=k) (by omega)
   obtain ⟨ad',y,hA',_,hy,hcy⟩:=(HY.out.1.below hb).at_ (k:=k) (by omega)
   subst hA
   subst hA'
   obtain ⟨z,hcz⟩:∃ z:Int,wr.cell? ⟨g,k,none⟩=some (.int .u64 z):=⟨_,hblk.cell_get hzl⟩
   have hfz:=hblk.frozen k
   have hadd:=fun w=>run_add64' x y cv hcv w
   have HE:=Lib.hid (And.intro hx (And.intro hy hblk))
   clear hx hy hinv hblk hzl
   go_wp2
   go_roundw
   case rel=>exact ⟨k+1,(x+y+cv)/W64,zs.set k ((x+y+cv)%W64),by omega,by go_num,rfl,HV.out.step HE.out.1 (by rw [List.getD,HE.out.2.1];rfl) HX.out.2 HY.out.2,HE.out.2.2.set_ _ _,hb.setCell (by rw [HG.out];exact Nat.le_refl _) _⟩
   case measure=>simp [intOf];omega
  ·obtain rfl:k=n':=by omega
   have HBl:=Lib.hid hblk
   clear hinv hblk hlt hzl
   go_wp2
   go_loopw [6,9] (fun cy i wr => ∃ (m cv:Nat) (zs:List Nat),m≤n∧k≤m∧i = .int .i64 (m:Int)∧cy = .int .u64 (cv:Int)∧AddInv xs ys zs m cv∧Blk wr g 193 zs∧Below w.heap.size w wr) (fun _ i _=>n-(intOf i).toNat)
   case atStart=>exact ⟨k,cv,zs,by omega,by omega,rfl,rfl,HV.out,HBl.out,hb⟩
   case round =>
    clear hb hcv
    obtain ⟨m,cv,zs,hm,hkm,rfl,rfl,hinv,hblk,hb⟩:=hrel
    have hcv:cv≤1:=hinv.1
    have hzl:m<zs.length:=by rw [hinv.2.2.1,HX.out.1.len];omega
    obtain ⟨z,hcz⟩:∃ z:Int,wr.cell? ⟨g,m,none⟩=some (.int .u64 z):=⟨_,hblk.cell_get hzl⟩
    have hfz:=hblk.frozen m
    have HV:=Lib.hid hinv
    by_cases hlt:m<n
    ·obtain ⟨ad,x,hA,_,hx,hcx⟩:=(HX.out.1.below hb).at_ (k:=m) (by omega)
     subst hA
     have hadd:=fun w=>run_add64' x 0 cv hcv w
     simp only [Int.natCast_zero] at hadd
     have HE:=Lib.hid (And.intro hx hblk)
     clear hx hinv hblk hzl
     go_wp2
     go_roundw
     case rel=>exact ⟨m+1,(x+0+cv)/W64,zs.set m ((x+0+cv)%W64),by omega,by omega,by go_num,rfl,HV.out.step HE.out.1 (by rw [List.getD,List.getElem?_eq_none (by rw [HY.out.1.len];omega)];rfl) HX.out.2 HY.out.2,HE.out.2.set_ _ _,hb.setCell (by rw [HG.out];exact Nat.le_refl _) _⟩
     case measure=>simp [intOf];omega
    ·obtain rfl:m=n:=by omega
     have hfin:=HV.out
     rw [← HX.out.1.len] at hfin
     have hfin2:=hfin.finish (by rw [HY.out.1.len,HX.out.1.len];omega)
     rw [HX.out.1.len] at hfin2
     have hb2:=hblk.set_ m cv
     have hl2:(zs.set m cv).length=m+1:=by rw [List.length_set,hinv.2.2.1,HX.out.1.len]
     have hrd:=hb2.rd (by rw [hl2];show m+1≤9223372036854775807;omega)
     rw [hl2] at hrd
     have HF:=Lib.hid (And.intro hfin2 (And.intro hrd hb2))
     clear hfin hfin2 hb2 hl2 hrd hinv hblk hlt hzl
     go_wp2_with (go_at_call 203;refine (trimmed_any _ _ _ (zs.set m cv) _ HF.out.2.1 HF.out.1.1).mono ?_;rintro e w' ⟨⟨v,rfl,hv⟩,rfl⟩)
     go_ret
     exact ⟨v,rfl,by rw [← HF.out.1.2];exact hv,hb.setCell (by rw [HG.out];exact Nat.le_refl _) _⟩
theorem plus_any (A:Option Addr) (n c:Nat) (xs:List Nat) (A' : Option Addr) (n' c' : Nat) (ys:List Nat) (w:World) (h:Rd w A n c xs) (h' : Rd w A' n' c' ys)
 (hd:Dig W64 xs) (hd' : Dig W64 ys) (hn:n≤2199023255552) (hn' : n'≤2199023255552) :
 Calls Tryz.prog 183 #[.slice A n c,.slice A' n' c'] w (GivesNt w (val W64 xs+val W64 ys)):=by
 rcases Nat.lt_or_ge n n' with hl|hl
 ·rw [Nat.add_comm]
  exact plus_lt A' n' c' ys A n c xs w h' h hd' hd hn' hl
 ·exact plus_ge A n c xs A' n' c' ys w h h' hd hd' hn (by omega)
end Go.Proofs.YtbkfbobdmojgnaaGreatDoor
