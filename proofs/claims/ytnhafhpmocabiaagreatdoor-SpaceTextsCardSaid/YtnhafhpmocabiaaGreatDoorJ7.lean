/- Parts of the proof, joined. -/
import Derived.Test.YtnhafhpmocabiaaGreatDoorJ6
import Derived.Laws.Runes
import Derived.WalkMore
import Derived.Handy
import Derived.Deep.RegionWith
import Derived.RangeFuncNested
import Derived.RangeFuncBound
import Derived.RangeFuncCalls
import Derived.RangeFuncLeaves
import Derived.Shelf.Abstract
import Derived.Shelf.RegionOpen
import Derived.WalkKit
import Derived.OwnWalkIn
import Derived.TacticsInMore
import Derived.LoopNIn
import Derived.LoopIn
import Derived.KernelRfl
import Derived.Test.YtnhafhpmocabiaaGreatDoorProg
import Derived.Test.YtnhafhpmocabiaaGreatDoorJ5
import Derived.Laws.Tables
import Derived.Laws.CopyOwn
set_option maxHeartbeats 4000000
set_option linter.unusedSimpArgs false
set_option linter.unusedVariables false
set_option linter.constructorNameAsVariable false
namespace Go.Proofs.YtnhafhpmocabiaaGreatDoor
namespace Ab
open Go.RowKit Pl
abbrev pz (d:Nat):AV Kr := .fv (.ag [.lit (.bool false),.sp (yZ d)])
theorem gE {o:Oper} {ρ:Operand→Value} {w:World} {t:Tmp} {A:Option Addr} {n c:Nat} (ho:o.op = .call ⟨.builtin .len,#[.tmp t],#[67]⟩) (hx:ρ (.tmp t) = .slice A n c) :
 (execOp ρ o).run Tryz.prog w = .ok (.value (.int .i64 n)) w:=by
 have hm:(#[Operand.tmp t].map ρ) = #[.slice A n c]:=by simp [hx]
 simp only [execOp,ho,resolve,Sem.run_bind,Sem.run_pure,Result.andThen,hm,invoke,builtin,Builtin.len_]
 simp [Sem.run_bind,run_underlying Tryz.underlying67,Result.andThen,goInt,Builtin.lenOf]
theorem iZ {o:Oper} {ρ:Operand→Value} {w:World} {t:Tmp} {ad:Addr} {n c:Nat} (ho:o.op = .indexAddr 67 (.tmp t) (.const (.int .i64 0))) (hx:ρ (.tmp t) = .slice (some ad) n c) (hy:ρ (.const (.int .i64 0)) = .int .i64 0) (hn:0<n) :
 (execOp ρ o).run Tryz.prog w = .ok (.value (.pointer (some ad))) w:=by
 simp only [execOp,ho,hx,hy]
 refine bM ?_
 have h0:¬ n=0:=by omega
 simp [go_sem,run_underlying Tryz.underlying67,hn,h0]
 done
def csP (x:Nat):CS Kr where
 size:=1
 cold:=true
 pred cs w := ∃ ad:Addr,cs = [.pointer (some ad)]∧w.cell? ad=some (.int .i64 (x:Int))
 stable cs w w' h hx:=by obtain ⟨ad,e,h⟩:=h;exact ⟨ad,e,hx.cell h rfl⟩
 len cs w h:=by obtain ⟨v,e,_⟩:=h;rw [e];rfl
 one cs w h:=by obtain ⟨v,e,_⟩:=h;rw [e];intro d hd;rw [List.mem_singleton] at hd;rw [hd];rfl
 iscold _ cs w h:=by obtain ⟨v,e,_⟩:=h;rw [e];intro d hd;rw [List.mem_singleton] at hd;rw [hd];rfl
def csNe:CS Kr where
 size:=1
 cold:=false
 pred cs _ := ∃ n:Int,cs = [.int .i64 n]∧n≠1
 stable _ _ _ h _:=h
 len cs w h:=by obtain ⟨v,e,_⟩:=h;rw [e];rfl
 one cs w h:=by obtain ⟨v,e,_⟩:=h;rw [e];intro d hd;rw [List.mem_singleton] at hd;rw [hd];rfl
 iscold h:=by cases h
abbrev rP (x:Nat):AV Kr := .fv (.sc (.sp (csP x)))
abbrev rNe:AV Kr := .fv (.sc (.sp csNe))
theorem fQ {w:World} {v:Value} {q:Nat} (h:Di w v q) (h0:0<q) (hq:q<B9):∃ ad c,v = .slice (some ad) 1 c∧w.cell? ad=some (.int .i64 (q:Int)):=by
 obtain ⟨A,n,c,xs,rfl,hr,hd,hn,rfl⟩:=h
 have hl:=aX dM hn (L:=1) (by rw [Nat.pow_one];exact hq)
 match xs,hl,hr with
 | [],_,_=>simp [val] at h0
 | [x],_,hr =>
   obtain rfl:n=1:=hr.len.symm
   obtain ⟨ad,y,rfl,_,hy,hc⟩:=hr.at_ (k:=0) (by omega)
   simp at hy
   subst hy
   exact ⟨ad,c,rfl,by simpa [val,Addr.add] using hc⟩
theorem sV {w:World} {v:Value} {q:Nat} (h:Di w v q) (hq:B9≤q):∃ A n c,v = .slice A n c∧n≠1:=by
 obtain ⟨A,n,c,xs,rfl,hr,hd,hn,rfl⟩:=h
 refine ⟨A,n,c,rfl,fun e=>?_⟩
 have h1:=cB hd
 rw [hr.len,e,Nat.pow_one] at h1
 omega
theorem oR {o:Oper} {ρ:Operand→Value} {w:World} {t:Tmp} {ad:Addr} {x:Int} (ho:o.op = .load 3 (.tmp t)) (hx:ρ (.tmp t) = .pointer (some ad)) (hc:w.cell? ad=some (.int .i64 x)) :
 (execOp ρ o).run Tryz.prog w = .ok (.value (.int .i64 x)) w:=by
 simp only [execOp,ho,hx]
 refine bM ?_
 simp [go_sem,hc]
theorem fL {o:Oper} {ρ:Operand→Value} {w:World} {x y:Operand} {a b:Int} {r:Bool} (ho:o.op = .binOp .eql 3 x y 3) (hx:ρ x = .int .i64 a) (hy:ρ y = .int .i64 b) (h:(a==b)=r) :
 (execOp ρ o).run Tryz.prog w = .ok (.value (.bool r)) w:=by
 simp only [execOp,ho,hx,hy]
 refine bM ?_
 rw [← h]
 exact bX (by kernel_rfl) w
theorem kX {a:Nat}:jF 113 [rl false,di a] (iz (a:Int)):=by
 intro β w vs hv
 obtain ⟨v,u,rfl,h1,h2⟩:=dQ hv
 rw [bU h1]
 have := @eB false a β w [.bool false,u] ⟨_,_,rfl,dE,u,[],rfl,h2,rfl⟩
 simpa [iN] using this
section
variable {n:Int} {d:Nat}
theorem fractionF (hn:Bd n.natAbs) (hd:Bd d) (hd0:0<d) (hp:n.natAbs<B9^100000000) (hq:d<B9^100000000) (hs1:(aS (iN (decide (n<0)) (n.natAbs/Nat.gcd n.natAbs d))).size≤1000000000) (hs2:(aS ((d/Nat.gcd n.natAbs d:Nat):Int)).size≤1000000000) :
 jF 46 [iz n,pz d] (rS (if d/Nat.gcd n.natAbs d=1 then aS (iN (decide (n<0)) (n.natAbs/Nat.gcd n.natAbs d)) else aS (iN (decide (n<0)) (n.natAbs/Nat.gcd n.natAbs d))++⟨#[47]⟩++aS ((d/Nat.gcd n.natAbs d:Nat):Int))):=by
 have hg:0<Nat.gcd n.natAbs d:=Nat.gcd_pos_of_pos_right _ hd0
 have hq0:0<d/Nat.gcd n.natAbs d:=Nat.div_pos (Nat.gcd_le_right _ hd0) hg
 have hq1:d/Nat.gcd n.natAbs d≤d:=Nat.div_le_self _ _
 have hp1:(iN (decide (n<0)) (n.natAbs/Nat.gcd n.natAbs d)).natAbs<B9^100000000:=by rw [nL];exact Nat.lt_of_le_of_lt (Nat.div_le_self _ _) hp
 have hq2:((d/Nat.gcd n.natAbs d:Nat):Int).natAbs<B9^100000000:=by rw [Int.natAbs_natCast];exact Nat.lt_of_le_of_lt hq1 hq
 generalize hG:Nat.gcd n.natAbs d=g at *
 generalize hP:iN (decide (n<0)) (n.natAbs/g)=p at *
 generalize hQ:d/g=q at *
 by_cases h1:q=1
 ·rw [if_pos h1]
  refine jT Tryz.func46 fun w00=>?_
  refine jB 32 [di n.natAbs,di d] (by have:=iB hn hd;rw [hG] at this;exact this) ?_
  refine jB 93 [di n.natAbs,di g] (nV hn hg) ?_
  refine jB 93 [di d,di g] (by have:=nV (a:=d) (b:=g) hd hg;rw [hQ] at this;exact this) ?_
  refine jB 113 [rb (decide (n<0)),di (n.natAbs/g)] (by have := @eB (decide (n<0)) (n.natAbs/g);rw [hP] at this;exact this) ?_
  refine jB 118 [iz p] (kW hp1) ?_
  refine jL (.call ⟨.builtin .len,#[.tmp 41],#[67]⟩) (.tmp 41) (.tmp 41) (di q) (di q) (.fv (.sc (.lit (.int .i64 1)))) (fun ρ o β w ho hx _=>?_) ?_
  ·obtain ⟨ad,c,e,_⟩:=fQ (bA.1 hx) hq0 (by rw [h1];exact dM)
   exact ⟨_,gE ho e,dU rfl⟩
  refine jL (.indexAddr 67 (.tmp 45) (.const (.int .i64 0))) (.tmp 45) (.const (.int .i64 0)) (di q) (.fv (.sc (.lit (.int .i64 0)))) (rP q) (fun ρ o β w ho hx hy=>?_) ?_
  ·obtain ⟨ad,c,e,hc⟩:=fQ (bA.1 hx) hq0 (by rw [h1];exact dM)
   exact ⟨_,iZ ho e (bU hy) (by omega),⟨ad,rfl,hc⟩⟩
  refine jL (.load 3 (.tmp 46)) (.tmp 46) (.tmp 46) (rP q) (rP q) (.fv (.sc (.lit (.int .i64 1)))) (fun ρ o β w ho hx _=>?_) ?_
  ·obtain ⟨ad,e,hc⟩:=hx
   injection e with e
   rw [h1] at hc
   exact ⟨_,oR ho e hc,dU rfl⟩
  exact jS Tryz.func46
 ·rw [if_neg h1]
  have hcat1:(aS p).size+(⟨#[47]⟩:ByteArray).size≤9223372036854775807:=by
   have:(⟨#[47]⟩:ByteArray).size=1:=rfl
   omega
  have hcat2:(aS p++⟨#[47]⟩:ByteArray).size+(aS (q:Int)).size≤9223372036854775807:=by
   have:(⟨#[47]⟩:ByteArray).size=1:=rfl
   rw [ByteArray.size_append]
   omega
  by_cases h2:q<B9
  ·refine jT Tryz.func46 fun w00=>?_
   refine jB 32 [di n.natAbs,di d] (by have:=iB hn hd;rw [hG] at this;exact this) ?_
   refine jB 93 [di n.natAbs,di g] (nV hn hg) ?_
   refine jB 93 [di d,di g] (by have:=nV (a:=d) (b:=g) hd hg;rw [hQ] at this;exact this) ?_
   refine jB 113 [rb (decide (n<0)),di (n.natAbs/g)] (by have := @eB (decide (n<0)) (n.natAbs/g);rw [hP] at this;exact this) ?_
   refine jB 118 [iz p] (kW hp1) ?_
   refine jL (.call ⟨.builtin .len,#[.tmp 41],#[67]⟩) (.tmp 41) (.tmp 41) (di q) (di q) (.fv (.sc (.lit (.int .i64 1)))) (fun ρ o β w ho hx _=>?_) ?_
   ·obtain ⟨ad,c,e,_⟩:=fQ (bA.1 hx) hq0 h2
    exact ⟨_,gE ho e,dU rfl⟩
   refine jL (.indexAddr 67 (.tmp 45) (.const (.int .i64 0))) (.tmp 45) (.const (.int .i64 0)) (di q) (.fv (.sc (.lit (.int .i64 0)))) (rP q) (fun ρ o β w ho hx hy=>?_) ?_
   ·obtain ⟨ad,c,e,hc⟩:=fQ (bA.1 hx) hq0 h2
    exact ⟨_,iZ ho e (bU hy) (by omega),⟨ad,rfl,hc⟩⟩
   refine jL (.load 3 (.tmp 46)) (.tmp 46) (.tmp 46) (rP q) (rP q) (rI q) (fun ρ o β w ho hx _=>?_) ?_
   ·obtain ⟨ad,e,hc⟩:=hx
    injection e with e
    exact ⟨_,oR ho e hc,dE⟩
   refine jL (.binOp .eql 3 (.tmp 47) (.const (.int .i64 1)) 3) (.tmp 47) (.const (.int .i64 1)) (rI q) (.fv (.sc (.lit (.int .i64 1)))) (rl false) (fun ρ o β w ho hx hy=>⟨.bool false,fL ho (bG hx) (bU hy) (by simp;omega),dU rfl⟩) ?_
   refine jL (.binOp .add 9 (.tmp 51) (.const (.string ⟨#[47]⟩)) 9) (.tmp 51) (.const (.string ⟨#[47]⟩)) (rS (aS p)) (.fv (.sc (.lit (.string ⟨#[47]⟩)))) (rS (aS p++⟨#[47]⟩)) (fun ρ o β w ho hx hy=>⟨_,dN ho (bG hx) (bU hy) hcat1,dE⟩) ?_
   refine jB 113 [rl false,di q] kX ?_
   refine jB 118 [iz (q:Int)] (kW hq2) ?_
   refine jL (.binOp .add 9 (.tmp 52) (.tmp 55) 9) (.tmp 52) (.tmp 55) (rS (aS p++⟨#[47]⟩)) (rS (aS (q:Int))) (rS (aS p++⟨#[47]⟩++aS (q:Int))) (fun ρ o β w ho hx hy=>⟨_,dN ho (bG hx) (bG hy) hcat2,dE⟩) ?_
   exact jS Tryz.func46
  ·refine jT Tryz.func46 fun w00=>?_
   refine jB 32 [di n.natAbs,di d] (by have:=iB hn hd;rw [hG] at this;exact this) ?_
   refine jB 93 [di n.natAbs,di g] (nV hn hg) ?_
   refine jB 93 [di d,di g] (by have:=nV (a:=d) (b:=g) hd hg;rw [hQ] at this;exact this) ?_
   refine jB 113 [rb (decide (n<0)),di (n.natAbs/g)] (by have := @eB (decide (n<0)) (n.natAbs/g);rw [hP] at this;exact this) ?_
   refine jB 118 [iz p] (kW hp1) ?_
   refine jL (.call ⟨.builtin .len,#[.tmp 41],#[67]⟩) (.tmp 41) (.tmp 41) (di q) (di q) rNe (fun ρ o β w ho hx _=>?_) ?_
   ·obtain ⟨A,m,c,e,hm⟩:=sV (bA.1 hx) (Nat.le_of_not_lt h2)
    exact ⟨_,gE ho e,⟨(m:Int),rfl,by omega⟩⟩
   refine jL (.binOp .eql 3 (.tmp 42) (.const (.int .i64 1)) 3) (.tmp 42) (.const (.int .i64 1)) rNe (.fv (.sc (.lit (.int .i64 1)))) (rl false) (fun ρ o β w ho hx hy=>?_) ?_
   ·obtain ⟨m,e,hm⟩:=hx
    injection e with e
    exact ⟨.bool false,fL ho e (bU hy) (by simpa using hm),dU rfl⟩
   refine jL (.binOp .add 9 (.tmp 51) (.const (.string ⟨#[47]⟩)) 9) (.tmp 51) (.const (.string ⟨#[47]⟩)) (rS (aS p)) (.fv (.sc (.lit (.string ⟨#[47]⟩)))) (rS (aS p++⟨#[47]⟩)) (fun ρ o β w ho hx hy=>⟨_,dN ho (bG hx) (bU hy) hcat1,dE⟩) ?_
   refine jB 113 [rl false,di q] kX ?_
   refine jB 118 [iz (q:Int)] (kW hq2) ?_
   refine jL (.binOp .add 9 (.tmp 52) (.tmp 55) 9) (.tmp 52) (.tmp 55) (rS (aS p++⟨#[47]⟩)) (rS (aS (q:Int))) (rS (aS p++⟨#[47]⟩++aS (q:Int))) (fun ρ o β w ho hx hy=>⟨_,dN ho (bG hx) (bG hy) hcat2,dE⟩) ?_
   exact jS Tryz.func46
end
end Ab
section
open Go.RowKit Pl
def ParseNext (w:World) (r r' : ByteArray) (ws:List Nat):Prop :=
 Dig B9 ws∧AllDig (aC r')∧aO (aC r)=val B9 ws+B9^ws.length*aO (aC r')∧r'.size+9*ws.length=r.size
def ParseAt (w:World) (r:ByteArray) (dv wv:Value) (wr:World):Prop :=
 ∃ (r' : ByteArray) (ws:List Nat),dv = .string r'∧wr.ownsRow (w.heap.size+1) 3 1 wv ws.length (ws.map eU)∧Dig B9 ws∧AllDig (aC r')∧aO (aC r)=val B9 ws+B9^ws.length*aO (aC r')∧r'.size+9*ws.length=r.size ∧
   Below w.heap.size w wr∧wr.heap[w.heap.size]?=some (.cells #[.bool false,.slice none 0 0] 69 (0,0))∧w.heap.size<wr.heap.size
set_option maxRecDepth 100000 in
theorem vF (r:ByteArray) (w:World) (hd:AllDig (aC r)) (h0:0<r.size) (hs:r.size≤100000):Calls Tryz.prog 41 #[.string r] w fun e w' => ∃ v,e = .returned v∧In w' v (iN false (aO (aC r)))∧Below w.heap.size w w':=by
 have HD:=aH (aI hd hs)
 have k0:(0:Int)<r.size:=by omega
 obtain ⟨c,hc⟩:∃ c:Nat,(r[0]'h0).toNat=c:=⟨_,rfl⟩
 have k45:((c:Int)==45)=false:=by
  have:=hd _ (List.mem_of_getElem? (bY h0))
  rw [hc] at this
  simp;omega
 clear hd hs
 go_enter Tryz.func41,Tryz.ntmps41
 go_wp2
 clear hc k45
 go_loopw [0,4] (fun dv wv wr=>ParseAt w r dv wv wr) (fun dv _ _=>sE dv)
 case atStart=>exact ⟨r,[],rfl,⟨rfl,.inl ⟨rfl,rfl⟩⟩,Dig.nil _,HD.out.1,by simp [val],by simp,(aB _ _).alloc (aR _) _,heap_alloc_new w _,by simp⟩
 case round =>
  obtain ⟨r',ws,rfl,hrow,hdw,hd',hval,hsz,hb,hh,hs⟩:=hrel
  have hr1:r'.size≤100000:=by have:=HD.out.2;omega
  have hw1:ws.length≤100000:=by have:=HD.out.2;omega
  by_cases h9:9<r'.size
  ·have k1:(9:Int)<r'.size:=by omega
   have k2:(r'.size:Int)≤100000:=by omega
   have hlt:aO (aC (r'.extract (r'.size-9) r'.size))<B9:=by
    have e1:aC (r'.extract (r'.size-9) r'.size)=(aC r').drop (r'.size-9):=by rw [bC,List.take_of_length_le (by rw [aE];exact aR _)]
    rw [e1]
    have h1:=eV (hd'.drop (r'.size-9))
    rw [List.length_drop,aE,show r'.size-(r'.size-9)=9 by omega] at h1
    exact h1
   have hnat:aO (aC r')=aO (aC (r'.extract 0 (r'.size-9)))*B9+aO (aC (r'.extract (r'.size-9) r'.size)):=by
    have e1:aC (r'.extract (r'.size-9) r'.size)=(aC r').drop (r'.size-9):=by rw [bC,List.take_of_length_le (by rw [aE];exact aR _)]
    have e2:aC (r'.extract 0 (r'.size-9))=(aC r').take (r'.size-9):=by rw [bC,List.drop_zero]
    rw [e1,e2]
    conv=>lhs;rw [← List.take_append_drop (r'.size-9) (aC r'),eO]
    rw [List.length_drop,aE,show r'.size-(r'.size-9)=9 by omega]
    rfl
   have cv:=aH (fun W=>value_any (r'.extract (r'.size-9) r'.size) W (by rw [bC];exact (hd'.take _).drop _) (by simp;omega))
   obtain ⟨x,hx⟩:∃ x,x=aO (aC (r'.extract (r'.size-9) r'.size)):=⟨_,rfl⟩
   rw [← hx] at cv hlt hnat
   have hnext:ParseNext w r (r'.extract 0 (r'.size-9)) (ws ++ [x]):=by
    refine ⟨hdw.app (Dig.cons hlt (Dig.nil _)),by rw [bC,List.drop_zero];exact hd'.take _,?_,?_⟩
    ·rw [dG,List.length_append,List.length_singleton,Nat.pow_succ,hval,hnat]
     generalize aO (aC (r'.extract 0 (r'.size-9)))=m
     generalize B9^ws.length=P
     generalize B9=V
     grind
    ·rw [List.length_append,List.length_singleton];simp;omega
   have HE:=aH (aI hrow (aI hnext (aI hb (aI hh (aI hs (by omega:ws.length≤2199023255999))))))
   clear hrow hnext hb hh hs hdw hd' hval hsz hlt hnat hx hw1 hr1
   go_wp2_with fail
   refine (cv.out _).mono ?_
   rintro e w' ⟨rfl,rfl⟩
   go_wp2_with (at_builtin;refine kV (r:=x) (B:=w.heap.size) rfl _ _ rfl rfl HE.out.1 rfl HE.out.2.2.2.2.2 HE.out.2.2.1 (Nat.le_succ _) HE.out.2.2.2.2.1 ?_)
   intro v' w3 hr3 hbw hg3
   have hr3' : w3.ownsRow (w.heap.size+1) 3 1 v' (ws ++ [x]).length ((ws ++ [x]).map eU):=by
    rw [List.length_append,List.length_singleton,List.map_append];exact hr3
   have hh3:w3.heap[w.heap.size]?=some (.cells #[.bool false,.slice none 0 0] 69 (0,0)):=by
    have h2:=(Below.heap_alloc w' (.cells #[.int .i64 (x:Int)] 3) _ HE.out.2.2.2.2.1).trans HE.out.2.2.2.1
    refine lO hg3 h2 ?_
    intro he
    have:=sR HE.out.1 _ he.symm
    omega
   have hs3:w.heap.size<w3.heap.size:=by have:=hg3.size;have:=HE.out.2.2.2.2.1;simp at *;omega
   have HX:=aH (aI hr3' (aI hbw (aI hh3 hs3)))
   clear hr3 hr3' hbw hg3 hh3 hs3
   go_wp2
   go_roundw
   case rel =>
    obtain ⟨h1,h2,h3,h4⟩:=HE.out.2.1
    exact ⟨_,ws ++ [x],rfl,HX.out.1,h1,h2,h3,h4,HX.out.2.1,HX.out.2.2.1,HX.out.2.2.2⟩
   case measure =>
    clear HX HE
    simp [sE];omega
  ·have k1:¬ (9:Int)<r'.size:=by omega
   have cv:=aH (fun W=>value_any r' W hd' (by omega))
   have hlt:aO (aC r')<B9:=by
    have h1:=eV hd'
    rw [aE] at h1
    refine Nat.lt_of_lt_of_le h1 ?_
    have:10^r'.size≤10^9:=Nat.pow_le_pow_right (by omega) (by omega)
    exact this
   obtain ⟨x,hx⟩:∃ x,x=aO (aC r'):=⟨_,rfl⟩
   rw [← hx] at cv hlt hval
   have hfin:iN false (val B9 (ws ++ [x]))=iN false (aO (aC r)):=by rw [dG,hval]
   have HE:=aH (aI hrow (aI hfin (aI hb (aI hh (aI hs (aI (by omega:ws.length≤2199023255999) (hdw.app (Dig.cons hlt (Dig.nil _)))))))))
   clear hrow hfin hb hh hs hdw hd' hval hsz hlt hx hw1 hr1 h9
   go_wp2_with fail
   refine (cv.out _).mono ?_
   rintro e w' ⟨rfl,rfl⟩
   go_wp2_with (at_builtin;refine kV (r:=x) (B:=w.heap.size) rfl _ _ rfl rfl HE.out.1 rfl HE.out.2.2.2.2.2.1 HE.out.2.2.1 (Nat.le_succ _) HE.out.2.2.2.2.1 ?_)
   intro v' w3 hr3 hbw hg3
   have hr3' : w3.ownsRow (w.heap.size+1) 3 1 v' (ws.length+1) ((ws ++ [x]).map eU):=by
    rw [List.map_append];exact hr3
   obtain ⟨A3,c3,rfl,hri⟩:=row_ri' hr3'
   have hh3:w3.heap[w.heap.size]?=some (.cells #[.bool false,.slice none 0 0] 69 (0,0)):=by
    have h2:=(Below.heap_alloc w' (.cells #[.int .i64 (x:Int)] 3) _ HE.out.2.2.2.2.1).trans HE.out.2.2.2.1
    refine lO hg3 h2 ?_
    intro he
    have:=sR HE.out.1 _ he.symm
    omega
   have hs3:w.heap.size<w3.heap.size:=by have:=hg3.size;have:=HE.out.2.2.2.2.1;simp at *;omega
   have HX:=aH (aI hri (aI hbw (aI hh3 hs3)))
   clear hr3 hr3' hbw hg3 hh3 hs3 hri
   go_wp2_with fail
   refine (nM false A3 _ c3 (ws ++ [x]) _ HX.out.1 HE.out.2.2.2.2.2.2).mono ?_
   rintro e w2 ⟨v,rfl,q,b⟩
   rw [HE.out.2.1] at q
   have hh2:w2.heap[w.heap.size]?=some (.cells #[.bool false,.slice none 0 0] 69 (0,0)):=(b.block _ HX.out.2.2.2).trans HX.out.2.2.1
   have hb2:Below w.heap.size w w2:=HX.out.2.1.trans (b.mono (Nat.le_of_lt HX.out.2.2.2))
   obtain ⟨A',n',c',xs',rfl,q'⟩:=id q
   have Q:=aH (aI q (aI hh2 hb2))
   clear q q' b hh2 hb2
   obtain ⟨⟨b0,b1⟩,f0,f1⟩:=blk2i Q.out.2.1
   go_wp2
   obtain ⟨q,hh2,hb2⟩:=Q.out
   obtain ⟨⟨g0,g1⟩,_⟩:=blk2i (set2_heap hh2 (x := .bool (decide (iN false (aO (aC r))<0))) (y := .slice A' n' c'))
   refine bodyPost_ret (v := .agg #[.bool (decide (iN false (aO (aC r))<0)),.slice A' n' c']) (by simp [results,Tryz.results41,go_sem,g0,g1]) rfl ⟨_,rfl,q.set2 hh2 (fun n h=>by cases h) (fun n h=>by cases h),?_⟩
   exact (hb2.setCell (p:=⟨w.heap.size,0,none⟩) (aR _) _).setCell (p:=⟨w.heap.size,1,none⟩) (aR _) _
end
namespace Ab
open Go.RowKit Pl
theorem sW (n:Nat):AllDig (aC (decB n)):=by
 have:aC (decB n)=Lib.decDigits n:=dI n
 rw [this];exact (cK n).2.1
theorem sX (n:Nat):aO (aC (decB n))=n:=by
 have:aC (decB n)=Lib.decDigits n:=dI n
 rw [this];exact (cK n).1
theorem decB_pos (n:Nat):0<(decB n).size:=by
 have h:(decB n).size=(Lib.decDigits n).length:=by simp [decB,ByteArray.size]
 rw [h];exact List.length_pos_iff.2 (cK n).2.2
theorem pz_of {β:List Nat} {v:Value} {w:World} {d:Nat} (h:In w v (d:Int)):(pz d).holds β v w:=by
 obtain ⟨A,n,c,xs,rfl,hr,hd,hn,hv⟩:=h
 have e:decide ((d:Int)<0)=false:=decide_eq_false (sS d)
 rw [e]
 exact ⟨[.bool false,.slice A n c],rfl,[.bool false],_,rfl,⟨rfl,rfl⟩,[.slice A n c],[],rfl,⟨_,rfl,A,n,c,xs,rfl,hr,hd,hn,by simpa using hv⟩,rfl⟩
theorem parseDF {d:Nat} (hz:(decB d).size≤100000):jF 41 [rS (decB d)] (pz d):=by
 intro β w vs hv
 obtain ⟨v,rfl,h1⟩:=cL hv
 rw [bG h1]
 refine (vF (decB d) w (sW _) (decB_pos _) hz).mono fun e w' ⟨v,e1,e2,e3⟩=>⟨v,e1,e3,pz_of ?_⟩
 rw [sX] at e2
 exact e2
theorem dX:jF 42 [.fv (.sc (.lit (.int .i64 1)))] (pz 1):=by
 intro β w vs hv
 obtain ⟨v,rfl,h1⟩:=cL hv
 rw [bU h1]
 exact (pO 1 w (by constructor <;> omega)).mono fun e w' ⟨v,e1,e2,e3⟩=>⟨v,e1,e3,pz_of e2⟩
theorem rJ {s:ByteArray} (hs:s.size≤9223372036854775807):jF 29 [rS s] (rI (aU s:Nat)):=by
 intro β w vs hv
 obtain ⟨v,rfl,h1⟩:=cL hv
 rw [bG h1]
 exact (slash_any s w hs).mono fun e w' ⟨e1,e2⟩=>⟨_,e1,by rw [e2];exact aB _ _,dE⟩
theorem rlen_run {o:Oper} {ρ:Operand→Value} {w:World} {t:Tmp} {T:TypeId} {s:ByteArray} (ho:o.op = .call ⟨.builtin .len,#[.tmp t],#[T]⟩) (hT:Tryz.prog.underlying T=some .string) (hx:ρ (.tmp t) = .string s) :
 (execOp ρ o).run Tryz.prog w = .ok (.value (.int .i64 s.size)) w:=vX ho hT hx
theorem fU {o:Oper} {ρ:Operand→Value} {w:World} {T:TypeId} {x y:Operand} {s:ByteArray} {k:Nat} (ho:o.op = .slice T x none (some y) none) (hT:Tryz.prog.underlying T=some .string) (hx:ρ x = .string s) (hy:ρ y = .int .i64 (k:Int)) (hk:k≤s.size) :
 (execOp ρ o).run Tryz.prog w = .ok (.value (.string (s.extract 0 k))) w:=by
 simp only [execOp,ho,hx]
 refine bM ?_
 have h1:(k:Int)≤s.size:=by omega
 simp only [Option.map,hy]
 rw [run_sliceAt_string w _ _ _ _ _ hT]
 simp [Instr.slice,run_underlying hT,Instr.sliceBounds,run_sliceBound,h1,hk]
theorem fV {o:Oper} {ρ:Operand→Value} {w:World} {T:TypeId} {x y:Operand} {s:ByteArray} {k:Nat} (ho:o.op = .slice T x (some y) none none) (hT:Tryz.prog.underlying T=some .string) (hx:ρ x = .string s) (hy:ρ y = .int .i64 (k:Int)) (hk:k≤s.size) :
 (execOp ρ o).run Tryz.prog w = .ok (.value (.string (s.extract k s.size))) w:=by
 simp only [execOp,ho,hx]
 refine bM ?_
 have h1:(k:Int)≤s.size:=by omega
 simp only [Option.map,hy]
 rw [run_sliceAt_string w _ _ _ _ _ hT]
 simp [Instr.slice,run_underlying hT,Instr.sliceBounds,run_sliceBound,h1,hk]
theorem iC {o:Oper} {ρ:Operand→Value} {w:World} {x:Operand} {a:Nat} (ho:o.op = .binOp .add 3 x (.const (.int .i64 1)) 3) (hx:ρ x = .int .i64 (a:Int)) (hy:ρ (.const (.int .i64 1)) = .int .i64 1) (ha:a<9223372036854775807) :
 (execOp ρ o).run Tryz.prog w = .ok (.value (.int .i64 ((a+1:Nat):Int))) w:=by
 simp only [execOp,ho,hx,hy]
 refine bM ?_
 have e:IntKind.i64.wrap ((a:Int)+1)=((a+1:Nat):Int):=by
  rw [IntWalk.i64_left,IntWalk.wrap64_in _ ⟨by omega,by omega⟩];omega
 simp [go_sem,e]
theorem mQ {q:Rat} (h:q.den=1):writeB q=aS q.num:=by
 unfold writeB aS overB
 rw [if_pos h]
theorem gJ {q:Rat} (h:q.den≠1):writeB q=aS q.num++(⟨#[47]⟩++decB q.den):=by
 unfold writeB aS overB
 rw [if_neg h]
theorem dig47 {l:List UInt8} (h:AllDig l):∀ c∈l,(c==47)=false:=by
 intro c hc
 have:=h c hc
 rw [beq_eq_false_iff_ne]
 rintro rfl
 revert this
 decide
theorem text47 (z:Int):∀ c∈aC (aS z),(c==47)=false:=by
 unfold aS
 split
 ·intro c hc
  have e:aC (⟨#[45]⟩++decB z.natAbs:ByteArray)=45::aC (decB z.natAbs):=by simp [aC]
  rw [e] at hc
  rcases List.mem_cons.1 hc with rfl|hc
  ·rfl
  ·exact dig47 (sW _) c hc
 ·exact dig47 (sW _)
theorem slash_one (z:Int):aU (aS z)=(aS z).size:=by
 unfold aU
 rw [← aE,List.findIdx_eq_length]
 exact text47 z
theorem slash_two (z:Int) (r:ByteArray):aU (aS z++(⟨#[47]⟩++r))=(aS z).size:=by
 unfold aU
 have e:aC (aS z++(⟨#[47]⟩++r))=aC (aS z)++47::aC r:=by simp [aC]
 rw [e,List.findIdx_append,if_neg (by
  rw [Nat.not_lt,Nat.le_iff_lt_or_eq]
  right
  exact ((List.findIdx_eq_length).2 (text47 z)).symm),List.findIdx_cons]
 simp [← aE]
theorem ext_lo (a b:ByteArray):(a++b).extract 0 a.size=a:=by
 apply ba_ext
 simp
 exact List.take_of_length_le (Nat.le_of_eq rfl)
theorem ext_hi (a b:ByteArray):(a++(⟨#[47]⟩++b)).extract (a.size+1) (a++(⟨#[47]⟩++b)).size=b:=by
 have h:aC ((a++(⟨#[47]⟩++b)).extract (a.size+1) (a++(⟨#[47]⟩++b)).size)=aC b:=by
  rw [bC,List.take_of_length_le (by rw [aE];exact aR _)]
  have e:aC (a++(⟨#[47]⟩++b))=aC a++47::aC b:=by simp [aC]
  rw [e,List.drop_append,List.drop_of_length_le (by rw [aE];omega),List.nil_append,aE,Nat.add_sub_cancel_left]
  rfl
 exact ba_ext h
theorem mk_parts (n:Int) {d:Nat} (h:d≠0):(mkRat n d).num=n/(Nat.gcd n.natAbs d:Nat)∧(mkRat n d).den=d/Nat.gcd n.natAbs d:=by
 rw [← Rat.normalize_eq_mkRat h,Rat.normalize_eq]
 exact ⟨rfl,rfl⟩
theorem sgz_div (n:Int) {g:Nat} (hg:g ∣ n.natAbs) (h0:0<g):iN (decide (n<0)) (n.natAbs/g)=n/(g:Int):=by
 obtain ⟨k,hk⟩:=hg
 have e:n.natAbs/g=k:=by rw [hk];exact Nat.mul_div_cancel_left _ h0
 rw [e]
 unfold iN
 split
 ·rename_i h
  have hn:n=(g:Int)*(-(k:Int)):=by
   have:n = -(n.natAbs:Int):=by simp at h;omega
   rw [this,hk];simp [Int.mul_neg]
  rw [hn,Int.mul_ediv_cancel_left _ (by omega)]
 ·rename_i h
  have hn:n=(g:Int)*(k:Int):=by
   have:n=(n.natAbs:Int):=by simp at h;omega
   rw [this,hk];simp
  rw [hn,Int.mul_ediv_cancel_left _ (by omega)]
theorem dF (d:Nat):aS (d:Int)=decB d:=by unfold aS;rw [if_neg (sS d)];rfl
theorem kY (n:Int) {d:Nat} (h:0<d):(if d/Nat.gcd n.natAbs d=1 then aS (iN (decide (n<0)) (n.natAbs/Nat.gcd n.natAbs d)) else aS (iN (decide (n<0)) (n.natAbs/Nat.gcd n.natAbs d))++⟨#[47]⟩++aS ((d/Nat.gcd n.natAbs d:Nat):Int))=writeB (mkRat n d):=by
 obtain ⟨e1,e2⟩:=mk_parts n (Nat.ne_of_gt h)
 have hg:0<Nat.gcd n.natAbs d:=Nat.gcd_pos_of_pos_right _ h
 rw [sgz_div n (Nat.gcd_dvd_left _ _) hg,← e1,← e2,dF]
 split
 ·rename_i h1;rw [mQ h1]
 ·rename_i h1;rw [gJ h1,ByteArray.append_assoc]
theorem rargs {P:Program} {f:FuncId} {l l' : List (AV Kr)} {x:AV Kr} (h:Fits P f l x) (hl:∀ β vs w,holdsA β l' vs w→holdsA β l vs w):Fits P f l' x:=fun β w vs hv=>h β w vs (hl β vs w hv)
theorem rres {P:Program} {f:FuncId} {l:List (AV Kr)} {x y:AV Kr} (h:Fits P f l x) (hl:∀ β v w,x.holds β v w→y.holds β v w):Fits P f l y:=fun β w vs hv=>(h β w vs hv).mono fun _ _ ⟨v,e1,e2,e3⟩=>⟨v,e1,e2,hl β v _ e3⟩
theorem pz_iz {β:List Nat} {v:Value} {w:World} {d:Nat} (h:(pz d).holds β v w):(iz (d:Int)).holds β v w:=by
 obtain ⟨cs,rfl,a,r,rfl,h1,b,r2,rfl,h2,h3⟩:=h
 have h1':=h1.1
 subst h1'
 refine ⟨_,rfl,[.bool false],_,rfl,?_,b,r2,rfl,?_,h3⟩
 ·show [Value.bool false] = [.bool (decide ((d:Int)<0))]
  rw [decide_eq_false (sS d)]
 ·obtain ⟨u,e,hu⟩:=h2
  exact ⟨u,e,by simpa using hu⟩
theorem iz_pz {β:List Nat} {v:Value} {w:World} {d:Nat} (h:(iz (d:Int)).holds β v w):(pz d).holds β v w:=pz_of (oQ.1 h)
theorem timesPP {a b:Nat} (ha:Bd a) (hb:Bd b):jF 44 [pz a,pz b] (pz (a*b)) :=
 rres (rargs (timesZ (a:=(a:Int)) (b:=(b:Int)) (by simpa using ha) (by simpa using hb)) fun β vs w ⟨v,r,e,h1,u,r2,e2,h2,h3⟩=>⟨v,r,e,pz_iz h1,u,r2,e2,pz_iz h2,h3⟩)
  fun β v w h=>iz_pz (d:=a*b) (by simpa using h)
abbrev rU (n:Nat):AV Kr := .fv (.sc (.sp (yC (.int .u8 (n:Int)) rfl true (fun _=>rfl))))
theorem index_s {o:Oper} {ρ:Operand→Value} {w:World} {t:Tmp} {s:ByteArray} {c:Nat} (ho:o.op = .index 9 (.tmp t) (.const (.int .i64 0))) (hx:ρ (.tmp t) = .string s) (hy:ρ (.const (.int .i64 0)) = .int .i64 0) (hc:∃ h:0<s.size,(s[0]'h).toNat=c) :
 (execOp ρ o).run Tryz.prog w = .ok (.value (.int .u8 (c:Int))) w:=by
 obtain ⟨h,hc⟩:=hc
 simp only [execOp,ho,hx,hy]
 refine bM ?_
 have h0:¬ s.size=0:=by omega
 simp [go_sem,run_underlying Tryz.underlying9,h,h0,hc]
theorem ueq_run {o:Oper} {ρ:Operand→Value} {w:World} {x y:Operand} {a b:Int} {r:Bool} (ho:o.op = .binOp .eql 5 x y 5) (hx:ρ x = .int .u8 a) (hy:ρ y = .int .u8 b) (h:(a==b)=r) :
 (execOp ρ o).run Tryz.prog w = .ok (.value (.bool r)) w:=by
 simp only [execOp,ho,hx,hy]
 refine bM ?_
 rw [← h]
 exact bX (by kernel_rfl) w
theorem subn_run {o:Oper} {ρ:Operand→Value} {w:World} {x y:Operand} {a b:Nat} (ho:o.op = .binOp .sub 3 x y 3) (hx:ρ x = .int .i64 (a:Int)) (hy:ρ y = .int .i64 (b:Int)) (hle:b≤a) (ha:a≤9223372036854775807) :
 (execOp ρ o).run Tryz.prog w = .ok (.value (.int .i64 ((a-b:Nat):Int))) w:=by
 simp only [execOp,ho,hx,hy]
 refine bM ?_
 have e:IntKind.i64.wrap ((a:Int)-b)=((a-b:Nat):Int):=by
  rw [IntWalk.i64_left,IntWalk.wrap64_in _ ⟨by omega,by omega⟩];omega
 simp [go_sem,e]
theorem kG {o:Oper} {ρ:Operand→Value} {w:World} {x y:Operand} {a b:Int} {r:Bool} (ho:o.op = .binOp .lss 3 x y 3) (hx:ρ x = .int .i64 a) (hy:ρ y = .int .i64 b) (h:decide (a<b)=r) :
 (execOp ρ o).run Tryz.prog w = .ok (.value (.bool r)) w:=by
 simp only [execOp,ho,hx,hy]
 refine bM ?_
 rw [← h]
 exact bX (by kernel_rfl) w
theorem index_26 {o:Oper} {ρ:Operand→Value} {w:World} {t:Tmp} {s:ByteArray} {c:Nat} (ho:o.op = .index 26 (.tmp t) (.const (.int .i64 0))) (hx:ρ (.tmp t) = .string s) (hy:ρ (.const (.int .i64 0)) = .int .i64 0) (hc:∃ h:0<s.size,(s[0]'h).toNat=c) :
 (execOp ρ o).run Tryz.prog w = .ok (.value (.int .u8 (c:Int))) w:=by
 obtain ⟨h,hc⟩:=hc
 simp only [execOp,ho,hx,hy]
 refine bM ?_
 have h0:¬ s.size=0:=by omega
 simp [go_sem,run_underlying Tryz.underlying26,h,h0,hc]
section
variable {f:FuncId} {w00:World} {Out:Value→World→Prop} {c:Cfg Kr}
abbrev rli (n:Int):AV Kr := .fv (.sc (.lit (.int .i64 n)))
theorem aY (t:Tmp) (T:TypeId) (hT:Tryz.prog.underlying T=some .string) (s:ByteArray) (hg:Ok Tryz.prog f w00 Out (bJ Tryz.prog 1000 (c.give (rI (s.size:Nat)))))
 (hc:(c.op.map fun o=>o.op,c.okT (rI (s.size:Nat)),c.ev (.tmp t),c.ev (.tmp t))=(some (.call ⟨.builtin .len,#[.tmp t],#[T]⟩),true,(rS s),(rS s)):=by kernel_rfl):Ok Tryz.prog f w00 Out c :=
 jZ (.call ⟨.builtin .len,#[.tmp t],#[T]⟩) (.tmp t) (.tmp t) (rS s) (rS s) (rI (s.size:Nat)) hc (by simp [Op.operands,Call.operands]) (by simp [Op.operands,Call.operands]) (fun ρ o β w ho hx hy=>⟨_,rlen_run ho hT (bG hx),dE⟩) hg
theorem iD (t:Tmp) (n a:Int) (r:Bool) (h:decide (n<a)=r) (hg:Ok Tryz.prog f w00 Out (bJ Tryz.prog 1000 (c.give (rl r))))
 (hc:(c.op.map fun o=>o.op,c.okT (rl r),c.ev (.tmp t),c.ev (.const (.int .i64 n)))=(some (.binOp .gtr 3 (.tmp t) (.const (.int .i64 n)) 3),true,(rI a),(rli n)):=by kernel_rfl):Ok Tryz.prog f w00 Out c :=
 jZ (.binOp .gtr 3 (.tmp t) (.const (.int .i64 n)) 3) (.tmp t) (.const (.int .i64 n)) (rI a) (rli n) (rl r) hc (by simp [Op.operands]) (by simp [Op.operands]) (fun ρ o β w ho hx hy=>⟨_,xR ho (bG hx) (bU hy) h,dU rfl⟩) hg
theorem ridn (t:Tmp) (s:ByteArray) (h:∃ h:0<s.size,(s[0]'h).toNat=45) (hg:Ok Tryz.prog f w00 Out (bJ Tryz.prog 1000 (c.give (.fv (.sc (.lit (.int .u8 45)))))))
 (hc:(c.op.map fun o=>o.op,c.okT (.fv (.sc (.lit (.int .u8 45)))),c.ev (.tmp t),c.ev (.const (.int .i64 0)))=(some (.index 9 (.tmp t) (.const (.int .i64 0))),true,(rS s),(rli 0)):=by kernel_rfl):Ok Tryz.prog f w00 Out c :=
 jZ (.index 9 (.tmp t) (.const (.int .i64 0))) (.tmp t) (.const (.int .i64 0)) (rS s) (rli 0) (.fv (.sc (.lit (.int .u8 45)))) hc (by simp [Op.operands]) (by simp [Op.operands]) (fun ρ o β w ho hx hy=>⟨_,index_s ho (bG hx) (bU hy) h,dU rfl⟩) hg
theorem ridp (t:Tmp) (s:ByteArray) (n:Nat) (h:∃ h:0<s.size,(s[0]'h).toNat=n) (hg:Ok Tryz.prog f w00 Out (bJ Tryz.prog 1000 (c.give (rU n))))
 (hc:(c.op.map fun o=>o.op,c.okT (rU n),c.ev (.tmp t),c.ev (.const (.int .i64 0)))=(some (.index 9 (.tmp t) (.const (.int .i64 0))),true,(rS s),(rli 0)):=by kernel_rfl):Ok Tryz.prog f w00 Out c :=
 jZ (.index 9 (.tmp t) (.const (.int .i64 0))) (.tmp t) (.const (.int .i64 0)) (rS s) (rli 0) (rU n) hc (by simp [Op.operands]) (by simp [Op.operands]) (fun ρ o β w ho hx hy=>⟨_,index_s ho (bG hx) (bU hy) h,dE⟩) hg
theorem ridnR (t:Tmp) (s:ByteArray) (h:∃ h:0<s.size,(s[0]'h).toNat=45) (hg:Ok Tryz.prog f w00 Out (bJ Tryz.prog 1000 (c.give (.fv (.sc (.lit (.int .u8 45)))))))
 (hc:(c.op.map fun o=>o.op,c.okT (.fv (.sc (.lit (.int .u8 45)))),c.ev (.tmp t),c.ev (.const (.int .i64 0)))=(some (.index 26 (.tmp t) (.const (.int .i64 0))),true,(rS s),(rli 0)):=by kernel_rfl):Ok Tryz.prog f w00 Out c :=
 jZ (.index 26 (.tmp t) (.const (.int .i64 0))) (.tmp t) (.const (.int .i64 0)) (rS s) (rli 0) (.fv (.sc (.lit (.int .u8 45)))) hc (by simp [Op.operands]) (by simp [Op.operands]) (fun ρ o β w ho hx hy=>⟨_,index_26 ho (bG hx) (bU hy) h,dU rfl⟩) hg
theorem ridpR (t:Tmp) (s:ByteArray) (n:Nat) (h:∃ h:0<s.size,(s[0]'h).toNat=n) (hg:Ok Tryz.prog f w00 Out (bJ Tryz.prog 1000 (c.give (rU n))))
 (hc:(c.op.map fun o=>o.op,c.okT (rU n),c.ev (.tmp t),c.ev (.const (.int .i64 0)))=(some (.index 26 (.tmp t) (.const (.int .i64 0))),true,(rS s),(rli 0)):=by kernel_rfl):Ok Tryz.prog f w00 Out c :=
 jZ (.index 26 (.tmp t) (.const (.int .i64 0))) (.tmp t) (.const (.int .i64 0)) (rS s) (rli 0) (rU n) hc (by simp [Op.operands]) (by simp [Op.operands]) (fun ρ o β w ho hx hy=>⟨_,index_26 ho (bG hx) (bU hy) h,dE⟩) hg
theorem zA (t:Tmp) (n:Nat) (h:((n:Int)==45)=false) (hg:Ok Tryz.prog f w00 Out (bJ Tryz.prog 1000 (c.give (rl false))))
 (hc:(c.op.map fun o=>o.op,c.okT (rl false),c.ev (.tmp t),c.ev (.const (.int .u8 45)))=(some (.binOp .eql 5 (.tmp t) (.const (.int .u8 45)) 5),true,(rU n),(.fv (.sc (.lit (.int .u8 45))))):=by kernel_rfl):Ok Tryz.prog f w00 Out c :=
 jZ (.binOp .eql 5 (.tmp t) (.const (.int .u8 45)) 5) (.tmp t) (.const (.int .u8 45)) (rU n) (.fv (.sc (.lit (.int .u8 45)))) (rl false) hc (by simp [Op.operands]) (by simp [Op.operands]) (fun ρ o β w ho hx hy=>⟨.bool false,ueq_run ho (bG hx) (bU hy) h,dU rfl⟩) hg
theorem gK (t i:Tmp) (T:TypeId) (hT:Tryz.prog.underlying T=some .string) (s:ByteArray) (k:Nat) (a:ByteArray) (hk:k≤s.size) (ha:s.extract 0 k=a) (hg:Ok Tryz.prog f w00 Out (bJ Tryz.prog 1000 (c.give (rS a))))
 (hc:(c.op.map fun o=>o.op,c.okT (rS a),c.ev (.tmp t),c.ev (.tmp i))=(some (.slice T (.tmp t) none (some (.tmp i)) none),true,(rS s),(rI (k:Int))):=by kernel_rfl):Ok Tryz.prog f w00 Out c :=
 jZ (.slice T (.tmp t) none (some (.tmp i)) none) (.tmp t) (.tmp i) (rS s) (rI (k:Int)) (rS a) hc (by simp [Op.operands]) (by simp [Op.operands]) (fun ρ o β w ho hx hy=>⟨_,ha▸fU ho hT (bG hx) (bG hy) hk,dE⟩) hg
theorem kZ (t i:Tmp) (T:TypeId) (hT:Tryz.prog.underlying T=some .string) (s:ByteArray) (k:Nat) (d:ByteArray) (hk:k≤s.size) (hd:s.extract k s.size=d) (hg:Ok Tryz.prog f w00 Out (bJ Tryz.prog 1000 (c.give (rS d))))
 (hc:(c.op.map fun o=>o.op,c.okT (rS d),c.ev (.tmp t),c.ev (.tmp i))=(some (.slice T (.tmp t) (some (.tmp i)) none none),true,(rS s),(rI (k:Int))):=by kernel_rfl):Ok Tryz.prog f w00 Out c :=
 jZ (.slice T (.tmp t) (some (.tmp i)) none none) (.tmp t) (.tmp i) (rS s) (rI (k:Int)) (rS d) hc (by simp [Op.operands]) (by simp [Op.operands]) (fun ρ o β w ho hx hy=>⟨_,hd▸fV ho hT (bG hx) (bG hy) hk,dE⟩) hg
theorem rsl1 (t:Tmp) (T:TypeId) (hT:Tryz.prog.underlying T=some .string) (s d:ByteArray) (hk:1≤s.size) (hd:s.extract 1 s.size=d) (hg:Ok Tryz.prog f w00 Out (bJ Tryz.prog 1000 (c.give (rS d))))
 (hc:(c.op.map fun o=>o.op,c.okT (rS d),c.ev (.tmp t),c.ev (.const (.int .i64 1)))=(some (.slice T (.tmp t) (some (.const (.int .i64 1))) none none),true,(rS s),(rli 1)):=by kernel_rfl):Ok Tryz.prog f w00 Out c :=
 jZ (.slice T (.tmp t) (some (.const (.int .i64 1))) none none) (.tmp t) (.const (.int .i64 1)) (rS s) (rli 1) (rS d) hc (by simp [Op.operands]) (by simp [Op.operands]) (fun ρ o β w ho hx hy=>⟨_,hd▸fV (k:=1) ho hT (bG hx) (bU hy) hk,dE⟩) hg
theorem fE (t:Tmp) (k:Nat) (h:k<9223372036854775807) (hg:Ok Tryz.prog f w00 Out (bJ Tryz.prog 1000 (c.give (rI ((k+1:Nat):Int)))))
 (hc:(c.op.map fun o=>o.op,c.okT (rI ((k+1:Nat):Int)),c.ev (.tmp t),c.ev (.const (.int .i64 1)))=(some (.binOp .add 3 (.tmp t) (.const (.int .i64 1)) 3),true,(rI (k:Int)),(rli 1)):=by kernel_rfl):Ok Tryz.prog f w00 Out c :=
 jZ (.binOp .add 3 (.tmp t) (.const (.int .i64 1)) 3) (.tmp t) (.const (.int .i64 1)) (rI (k:Int)) (rli 1) (rI ((k+1:Nat):Int)) hc (by simp [Op.operands]) (by simp [Op.operands]) (fun ρ o β w ho hx hy=>⟨_,iC ho (bG hx) (bU hy) h,dE⟩) hg
theorem uE (t:Tmp) (T:TypeId) (s b:ByteArray) (r:Bool) (h:(s.toList==b.toList)=r) (hg:Ok Tryz.prog f w00 Out (bJ Tryz.prog 1000 (c.give (rl r))))
 (hc:(c.op.map fun o=>o.op,c.okT (rl r),c.ev (.tmp t),c.ev (.const (.string b)))=(some (.binOp .eql T (.tmp t) (.const (.string b)) T),true,(rS s),(.fv (.sc (.lit (.string b))))):=by kernel_rfl):Ok Tryz.prog f w00 Out c :=
 jZ (.binOp .eql T (.tmp t) (.const (.string b)) T) (.tmp t) (.const (.string b)) (rS s) (.fv (.sc (.lit (.string b)))) (rl r) hc (by simp [Op.operands]) (by simp [Op.operands]) (fun ρ o β w ho hx hy=>⟨_,lK ho (bG hx) (bU hy) h,dU rfl⟩) hg
theorem cJ (t i:Tmp) (a b:Int) (r:Bool) (h:decide (a<b)=r) (hg:Ok Tryz.prog f w00 Out (bJ Tryz.prog 1000 (c.give (rl r))))
 (hc:(c.op.map fun o=>o.op,c.okT (rl r),c.ev (.tmp t),c.ev (.tmp i))=(some (.binOp .lss 3 (.tmp t) (.tmp i) 3),true,(rI a),(rI b)):=by kernel_rfl):Ok Tryz.prog f w00 Out c :=
 jZ (.binOp .lss 3 (.tmp t) (.tmp i) 3) (.tmp t) (.tmp i) (rI a) (rI b) (rl r) hc (by simp [Op.operands]) (by simp [Op.operands]) (fun ρ o β w ho hx hy=>⟨_,kG ho (bG hx) (bG hy) h,dU rfl⟩) hg
theorem rsub (t i:Tmp) (a b:Nat) (hle:b≤a) (ha:a≤9223372036854775807) (hg:Ok Tryz.prog f w00 Out (bJ Tryz.prog 1000 (c.give (rI ((a-b:Nat):Int)))))
 (hc:(c.op.map fun o=>o.op,c.okT (rI ((a-b:Nat):Int)),c.ev (.tmp t),c.ev (.tmp i))=(some (.binOp .sub 3 (.tmp t) (.tmp i) 3),true,(rI (a:Int)),(rI (b:Int))):=by kernel_rfl):Ok Tryz.prog f w00 Out c :=
 jZ (.binOp .sub 3 (.tmp t) (.tmp i) 3) (.tmp t) (.tmp i) (rI (a:Int)) (rI (b:Int)) (rI ((a-b:Nat):Int)) hc (by simp [Op.operands]) (by simp [Op.operands]) (fun ρ o β w ho hx hy=>⟨_,subn_run ho (bG hx) (bG hy) hle ha,dE⟩) hg
end
theorem sY {q:Rat} (h:q.den=1):bN q=aS (q.num.natAbs:Int):=by unfold bN;rw [if_pos h,dF]
theorem body_two {q:Rat} (h:q.den≠1):bN q=aS (q.num.natAbs:Int)++(⟨#[47]⟩++decB q.den):=by unfold bN;rw [if_neg h,dF]
theorem size47:(⟨#[47]⟩:ByteArray).size=1:=rfl
theorem size45:(⟨#[45]⟩:ByteArray).size=1:=rfl
theorem body_len (q:Rat):(bN q).size=(decB q.num.natAbs).size+if q.den=1 then 0 else 1+(decB q.den).size:=by
 by_cases h:q.den=1
 ·rw [sY h,dF,if_pos h];rfl
 ·rw [body_two h,if_neg h,ByteArray.size_append,ByteArray.size_append,dF,size47]
theorem body_head (q:Rat):∃ c:Nat,(∃ h:0<(bN q).size,((bN q)[0]'h).toNat=c)∧((c:Int)==45)=false:=by
 obtain ⟨c,r,e,hc⟩:=tZ q
 have h0:0<(bN q).size:=by
  have:(bN q).size=(bN q).data.toList.length:=rfl
  rw [this,e];simp
 have h1:=bY h0
 have h2:aC (bN q)=c::r:=e
 rw [h2] at h1
 simp at h1
 refine ⟨c.toNat,⟨h0,by rw [← h1]⟩,?_⟩
 simp;omega
theorem pP {q:Rat} (h:q.num<0):1≤(writeB q).size∧(∃ h:0<(writeB q).size,((writeB q)[0]'h).toNat=45)∧(writeB q).extract 1 (writeB q).size=bN q∧(bN q).size≤(writeB q).size∧(writeB q).size=(bN q).size+1:=by
 have e:writeB q=⟨#[45]⟩++bN q:=pJ h
 have hsz:(writeB q).size=(bN q).size+1:=by rw [e,ByteArray.size_append,size45];omega
 have h0:0<(writeB q).size:=by omega
 refine ⟨h0,⟨h0,?_⟩,?_,by omega,hsz⟩
 ·have h1:=bY h0
  have h2:aC (writeB q)=45::aC (bN q):=by rw [e];simp [aC]
  rw [h2] at h1
  simp at h1
  rw [← h1];rfl
 ·have h2:aC (writeB q)=45::aC (bN q):=by rw [e];simp [aC]
  have:aC ((writeB q).extract 1 (writeB q).size)=aC (bN q):=by
   rw [bC,List.take_of_length_le (by rw [aE];exact aR _),h2];rfl
  exact ba_ext this
theorem pow_lift {a k n:Nat} (h:a<10^k) (hk:k≤n):a<B9^n :=
 Nat.lt_of_lt_of_le h (Nat.le_trans (Nat.pow_le_pow_right (by omega) hk) (Nat.pow_le_pow_left (by unfold B9;omega) _))
theorem lA {a k:Nat} (h:a<10^k) (hk:k≤1099511627776):Bd a:=by
 obtain ⟨n,hn⟩:∃ n,n=1099511627776:=⟨_,rfl⟩
 unfold Bd
 rw [← hn] at hk ⊢
 exact pow_lift h hk
theorem uF {a k:Nat} (h:a<10^k) (hk:k≤100000000):a<B9^100000000:=by
 obtain ⟨n,hn⟩:∃ n,n=100000000:=⟨_,rfl⟩
 rw [← hn] at hk ⊢
 exact pow_lift h hk
theorem kK {z:Int} {k:Nat} (h:z.natAbs<10^(k+1)):(aS z).size≤k+2:=by
 have:=decB_size h
 unfold aS
 split
 ·rw [ByteArray.size_append,size45];omega
 ·omega
def Zs (k:Nat) (q:Rat):Prop:=q.num.natAbs<10^(k+1)∧q.den<10^(k+1)
theorem vG {n:Int} {d k:Nat} (hk:k≤1000000) (hn:n.natAbs<10^(k+1)) (hd:d<10^(k+1)) (h0:0<d):jF 46 [iz n,pz d] (rS (writeB (mkRat n d))):=by
 have h:=fractionF (n:=n) (d:=d) (lA hn (by omega)) (lA hd (by omega)) h0 (uF hn (by omega)) (uF hd (by omega))
  (by have:=kK (k:=k) (z:=iN (decide (n<0)) (n.natAbs/Nat.gcd n.natAbs d)) (by rw [nL];exact Nat.lt_of_le_of_lt (Nat.div_le_self _ _) hn);omega)
  (by have:=kK (k:=k) (z:=((d/Nat.gcd n.natAbs d:Nat):Int)) (by rw [Int.natAbs_natCast];exact Nat.lt_of_le_of_lt (Nat.div_le_self _ _) hd);omega)
 rw [kY n h0] at h
 exact h
theorem zs_size {k:Nat} {q:Rat} (h:Zs k q) (hk:k≤10000):(decB q.num.natAbs).size≤100000∧(decB q.den).size≤100000:=by
 have h1:=decB_size h.1
 have h2:=decB_size h.2
 omega
end Ab
section
open Go.RowKit Pl
theorem pR (b:ByteArray):(⟨#[]⟩:ByteArray)++b=b:=Ab.ba_ext (by simp)
set_option maxRecDepth 100000 in
theorem of_pos (a d:Nat) (w:World) (ha:a≤4000000000000000000) (hd:d≤4000000000000000000) (hd0:0<d) (p q g:Nat) (hg:g=Nat.gcd a d) (hp:p=a/g) (hq:q=d/g) :
 Calls Tryz.prog 13 #[.int .i64 (a:Int),.int .i64 (d:Int)] w fun e w'=>e = .returned (.string (if q=1 then Ab.decB p else Ab.decB p++⟨#[47]⟩++Ab.decB q))∧Below w.heap.size w w':=by
 have hg0:0<g:=by rw [hg];exact Nat.gcd_pos_of_pos_right _ hd0
 have hpa:p≤a:=by rw [hp];exact Nat.div_le_self _ _
 have hqd:q≤d:=by rw [hq];exact Nat.div_le_self _ _
 have hq0:0<q:=by rw [hq,hg];exact Nat.div_pos (Nat.gcd_le_right _ hd0) (Nat.gcd_pos_of_pos_right _ hd0)
 have cg:=aH (sQ a d w (by omega) (by omega))
 rw [← hg] at cg
 have c1:=aH (fun W=>iA p W (by omega))
 have c2:=aH (fun W=>iA q W (by omega))
 have s1:(Ab.decB p).size≤19:=Ab.decB_size (k:=18) (by omega)
 have s2:(Ab.decB q).size≤19:=Ab.decB_size (k:=18) (by omega)
 have T:=aH (show wrap64 ((a:Int)/(g:Int))=(p:Int)∧wrap64 ((d:Int)/(g:Int))=(q:Int) from by
  have e1:(a:Int)/(g:Int)=(p:Int):=by rw [hp];simp
  have e2:(d:Int)/(g:Int)=(q:Int):=by rw [hq];simp
  rw [e1,e2]
  exact ⟨IntWalk.wrap64_in _ ⟨by omega,by omega⟩,IntWalk.wrap64_in _ ⟨by omega,by omega⟩⟩)
 have hz0:((g:Int)==0)=false:=by simp;omega
 have hz1:¬ (g:Int)=0:=by omega
 have hz3:((g:Int) == -1)=false:=by simp
 have b1:(a:Int)≤4000000000000000000:=by omega
 have b2:(d:Int)≤4000000000000000000:=by omega
 have b3:(p:Int)≤4000000000000000000:=by omega
 have b4:(q:Int)≤4000000000000000000:=by omega
 have b5:(1:Int)≤d:=by omega
 have b6:(1:Int)≤q:=by omega
 have HQ:=aH (aI hq0 (aI s1 s2))
 obtain ⟨res,hqq⟩:∃ res,res=(if q=1 then Ab.decB p else Ab.decB p++⟨#[47]⟩++Ab.decB q):=⟨_,rfl⟩
 rw [← hqq]
 have HQQ:=aH hqq
 clear hqq
 clear hg hp hq hpa hqd hg0 hd0 ha hd hq0 s1 s2
 go_enter Tryz.func13,Tryz.ntmps13
 go_wp2_with fail
 rw [show max (a:Int) (-(a:Int))=(a:Int) by omega]
 refine (cg.out).mono ?_
 rintro e w1 ⟨rfl,hb⟩
 go_wp2
 go_quiet (fail)
 have hb2:=cG hb nq
 clear hb
 generalize w1.drewN nq=w2 at *
 rw [T.out.1,T.out.2]
 go_wp2_with fail
 rw [show max (p:Int) (-(p:Int))=(p:Int) by omega]
 refine (c1.out _).mono ?_
 rintro e w3 ⟨rfl,rfl⟩
 obtain ⟨h0,s1,s2⟩:=HQ.out
 by_cases hq1:q=1
 ·have k1:¬ (1:Int)<q:=by omega
  have hr:=aH (HQQ.out.trans (if_pos hq1))
  clear hq1 h0 HQQ
  go_wp2
  go_ret
  have E:(⟨#[]⟩:ByteArray)++Ab.decB p=res:=by rw [hr.out];rw [pR]
  exact ⟨congrArg (fun s=>Ending.returned (Value.string s)) E,hb2⟩
 ·have k1:(1:Int)<q:=by omega
  have hr:=aH (HQQ.out.trans (if_neg hq1))
  clear hq1 h0 HQQ
  go_wp2_with fail
  refine (c2.out _).mono ?_
  rintro e w4 ⟨rfl,rfl⟩
  go_wp2
  go_ret
  have E:(⟨#[]⟩:ByteArray)++Ab.decB p++⟨#[47]⟩++Ab.decB q=res:=by rw [hr.out];rw [pR]
  exact ⟨congrArg (fun s=>Ending.returned (Value.string s)) E,hb2⟩
set_option maxRecDepth 100000 in
theorem of_neg (a d:Nat) (w:World) (ha0:0<a) (ha:a≤4000000000000000000) (hd:d≤4000000000000000000) (hd0:0<d) (p q g:Nat) (hg:g=Nat.gcd a d) (hp:p=a/g) (hq:q=d/g) :
 Calls Tryz.prog 13 #[.int .i64 (-(a:Int)),.int .i64 (d:Int)] w fun e w'=>e = .returned (.string (if q=1 then (⟨#[45]⟩++Ab.decB p) else (⟨#[45]⟩++Ab.decB p)++⟨#[47]⟩++Ab.decB q))∧Below w.heap.size w w':=by
 have hg0:0<g:=by rw [hg];exact Nat.gcd_pos_of_pos_right _ hd0
 have hpa:p≤a:=by rw [hp];exact Nat.div_le_self _ _
 have hqd:q≤d:=by rw [hq];exact Nat.div_le_self _ _
 have hq0:0<q:=by rw [hq,hg];exact Nat.div_pos (Nat.gcd_le_right _ hd0) (Nat.gcd_pos_of_pos_right _ hd0)
 have hp0:0<p:=by rw [hp,hg];exact Nat.div_pos (Nat.gcd_le_left _ ha0) (Nat.gcd_pos_of_pos_left _ ha0)
 have cg:=aH (sQ a d w (by omega) (by omega))
 rw [← hg] at cg
 have c1:=aH (fun W=>iA p W (by omega))
 have c2:=aH (fun W=>iA q W (by omega))
 have s1:(Ab.decB p).size≤19:=Ab.decB_size (k:=18) (by omega)
 have s2:(Ab.decB q).size≤19:=Ab.decB_size (k:=18) (by omega)
 have T:=aH (show wrap64 (-((a:Int)/(g:Int)))=(-(p:Int))∧wrap64 ((d:Int)/(g:Int))=(q:Int) from by
  have e1:(a:Int)/(g:Int)=(p:Int):=by rw [hp];simp
  have e2:(d:Int)/(g:Int)=(q:Int):=by rw [hq];simp
  rw [e1,e2]
  exact ⟨IntWalk.wrap64_in _ ⟨by omega,by omega⟩,IntWalk.wrap64_in _ ⟨by omega,by omega⟩⟩)
 have hz0:((g:Int)==0)=false:=by simp;omega
 have hz1:¬ (g:Int)=0:=by omega
 have hz3:((g:Int) == -1)=false:=by simp
 have b1:(a:Int)≤4000000000000000000:=by omega
 have b2:(d:Int)≤4000000000000000000:=by omega
 have b3:(p:Int)≤4000000000000000000:=by omega
 have b4:(q:Int)≤4000000000000000000:=by omega
 have b5:(1:Int)≤d:=by omega
 have b6:(1:Int)≤q:=by omega
 have b7:(1:Int)≤a:=by omega
 have b8:(1:Int)≤p:=by omega
 have HQ:=aH (aI hq0 (aI s1 s2))
 obtain ⟨res,hqq⟩:∃ res,res=(if q=1 then (⟨#[45]⟩++Ab.decB p) else (⟨#[45]⟩++Ab.decB p)++⟨#[47]⟩++Ab.decB q):=⟨_,rfl⟩
 rw [← hqq]
 have HQQ:=aH hqq
 clear hqq
 clear hg hp hq hpa hqd hg0 hd0 ha hd hq0 s1 s2
 go_enter Tryz.func13,Tryz.ntmps13
 go_wp2_with fail
 rw [show max (-(a:Int)) (a:Int)=(a:Int) by omega]
 refine (cg.out).mono ?_
 rintro e w1 ⟨rfl,hb⟩
 go_wp2
 go_quiet (fail)
 have hb2:=cG hb nq
 clear hb
 generalize w1.drewN nq=w2 at *
 rw [T.out.1,T.out.2]
 go_wp2_with fail
 rw [show max (-(p:Int)) (p:Int)=(p:Int) by omega]
 refine (c1.out _).mono ?_
 rintro e w3 ⟨rfl,rfl⟩
 obtain ⟨h0,s1,s2⟩:=HQ.out
 by_cases hq1:q=1
 ·have k1:¬ (1:Int)<q:=by omega
  have hr:=aH (HQQ.out.trans (if_pos hq1))
  clear hq1 h0 HQQ
  go_wp2
  go_ret
  have E:(⟨#[45]⟩:ByteArray)++Ab.decB p=res:=by rw [hr.out]
  exact ⟨congrArg (fun s=>Ending.returned (Value.string s)) E,hb2⟩
 ·have k1:(1:Int)<q:=by omega
  have hr:=aH (HQQ.out.trans (if_neg hq1))
  clear hq1 h0 HQQ
  go_wp2_with fail
  refine (c2.out _).mono ?_
  rintro e w4 ⟨rfl,rfl⟩
  go_wp2
  go_ret
  have E:(⟨#[45]⟩:ByteArray)++Ab.decB p++⟨#[47]⟩++Ab.decB q=res:=by rw [hr.out]
  exact ⟨congrArg (fun s=>Ending.returned (Value.string s)) E,hb2⟩
end
namespace Ab
open Go.RowKit Pl
def zeroT:ByteArray:=⟨#[48]⟩
def oneT:ByteArray:=⟨#[49]⟩
def decF (s:ByteArray):Bool:=if s.size=0 then false else if 1<s.size∧(aC s).head?=some 48 then false else bK s
theorem iU {s:ByteArray} (h:decF s=true):s=decB (aO (aC s)):=by
 unfold decF at h
 split at h
 ·cases h
 ·split at h
  ·cases h
  ·rename_i h0 h1
   have hd:=bF.1 h
   refine ba_ext ?_
   rw [dI]
   refine (zS (aC s).length (aC s) rfl hd ?_ ?_).symm
   ·intro e;apply h0;rw [← aE,e];rfl
   ·by_cases hl:(aC s).length=1
    ·exact .inl hl
    ·right;intro e;apply h1
     refine ⟨?_,e⟩
     rw [aE] at hl
     omega
def cR (s:ByteArray):Bool:=(aC s).head?==some 45
def aN (s:ByteArray):ByteArray:=if cR s=true then s.extract 1 s.size else s
def dR (s:ByteArray):Int :=
 if decF ((aN s).extract 0 (aU (aN s)))=false∨(cR s=true∧(aN s).extract 0 (aU (aN s))=zeroT) then 1
 else if aU (aN s)<(aN s).size∧(decF ((aN s).extract (aU (aN s)+1) (aN s).size)=false∨(aN s).extract (aU (aN s)+1) (aN s).size=zeroT∨(aN s).extract (aU (aN s)+1) (aN s).size=oneT) then 1
 else if 600<aU (aN s)∨600<(aN s).size-aU (aN s)-1 then 4
 else if aU (aN s)<(aN s).size∧Nat.gcd (aO (aC ((aN s).extract 0 (aU (aN s))))) (aO (aC ((aN s).extract (aU (aN s)+1) (aN s).size)))≠1 then 1 else 0
theorem decB_inj {n m:Nat} (h:decB n=decB m):n=m:=by rw [← sX n,h,sX]
theorem ext_all (s:ByteArray):s.extract 0 s.size=s:=by
 refine ba_ext ?_
 show aC (s.extract 0 s.size)=aC s
 rw [bC,List.drop_zero,List.take_of_length_le (by rw [aE];exact aR _)]
theorem slash_split {s:ByteArray} (h:aU s<s.size):s=s.extract 0 (aU s)++(⟨#[47]⟩++s.extract (aU s+1) s.size):=by
 refine ba_ext ?_
 show aC s=aC _
 have e1:aC (s.extract 0 (aU s)++(⟨#[47]⟩++s.extract (aU s+1) s.size))=aC (s.extract 0 (aU s))++(47::aC (s.extract (aU s+1) s.size)):=by simp [aC]
 have e2:(aC s).take s.size=aC s:=List.take_of_length_le (by rw [aE];exact aR _)
 rw [e1,bC,bC,List.drop_zero,e2]
 have hl:aU s<(aC s).length:=by rw [aE];exact h
 have hk:(aC s)[aU s]'hl=47:=by
  have:=List.findIdx_getElem (xs:=aC s) (p:=fun c=>c==47) (w:=hl)
  exact eq_of_beq this
 conv=>lhs;rw [← List.take_append_drop (aU s) (aC s),List.drop_eq_getElem_cons hl,hk]
theorem neg_split {s:ByteArray} (h:cR s=true):s=⟨#[45]⟩++aN s:=by
 have hh:(aC s).head?=some 45:=eq_of_beq h
 refine ba_ext ?_
 show aC s=aC _
 unfold aN
 rw [if_pos h]
 have e1:aC (⟨#[45]⟩++s.extract 1 s.size)=45::aC (s.extract 1 s.size):=by simp [aC]
 rw [e1,bC,List.take_of_length_le (by rw [aE];exact aR _)]
 generalize aC s=l at hh ⊢
 cases l with
 | nil=>cases hh
 | cons c r =>
   injection hh with hh
   rw [hh];rfl
theorem strip_write (q:Rat):cR (writeB q)=decide (q.num<0)∧aN (writeB q)=bN q:=by
 by_cases hn:q.num<0
 ·obtain ⟨f1,⟨h0,hc⟩,f3,f4,f5⟩:=pP hn
  have e:cR (writeB q)=true:=by
   unfold cR
   have h2:aC (writeB q)=45::aC (bN q):=by rw [pJ hn];simp [aC]
   rw [h2];rfl
  refine ⟨by rw [e,decide_eq_true hn],?_⟩
  unfold aN
  rw [if_pos e,f3]
 ·have e:cR (writeB q)=false:=by
   unfold cR
   obtain ⟨c,r,h1,h2⟩:=tZ q
   have h3:aC (bN q)=c::r:=h1
   rw [iL hn,h3]
   show (some c==some 45)=false
   rw [beq_eq_false_iff_ne]
   intro h
   injection h with h
   rw [h] at h2
   exact absurd h2 (by decide)
  refine ⟨by rw [e,decide_eq_false hn],?_⟩
  unfold aN
  rw [if_neg (by rw [e];exact Bool.false_ne_true),iL hn]
theorem yE {s:ByteArray} (h:dR s=0):∃ q:Rat,s=writeB q∧(decB q.num.natAbs).size≤600∧(decB q.den).size≤600:=by
 unfold dR at h
 split at h
 ·exact absurd h (by decide)
 rename_i g1
 split at h
 ·exact absurd h (by decide)
 rename_i g2
 split at h
 ·exact absurd h (by decide)
 rename_i g3
 split at h
 ·exact absurd h (by decide)
 rename_i g4
 clear h
 obtain ⟨t,ht⟩:∃ t,t=aN s:=⟨_,rfl⟩
 rw [← ht] at g1 g2 g3 g4
 obtain ⟨k,hk⟩:∃ k,k=aU t:=⟨_,rfl⟩
 rw [← hk] at g1 g2 g3 g4
 have ha:decF (t.extract 0 k)=true:=by
  cases e:decF (t.extract 0 k) with
  | true=>rfl
  | false=>exact absurd (.inl e) g1
 have hz:cR s=true→t.extract 0 k≠zeroT:=fun e1 e2=>g1 (.inr ⟨e1,e2⟩)
 have hae:=iU ha
 obtain ⟨n,hn⟩:∃ n,n=aO (aC (t.extract 0 k)):=⟨_,rfl⟩
 rw [← hn] at hae g4
 have hkl:k≤t.size:=by rw [hk];exact mO t
 have hasz:(decB n).size=k:=by rw [← hae,ByteArray.size_extract];omega
 have hn0:cR s=true→n≠0:=by
  intro e1 e2
  apply hz e1
  rw [hae,e2,dec0];rfl
 obtain ⟨z,hz1,hz2⟩:∃ z:Int,z.natAbs=n∧decide (z<0)=cR s:=by
  cases e:cR s with
  | true=>exact ⟨-(n:Int),by simp,by have:=hn0 e;rw [decide_eq_true_iff];omega⟩
  | false=>exact ⟨(n:Int),by simp,by rw [decide_eq_false_iff_not];omega⟩
 have fin:∀ q:Rat,q.num=z→bN q=t→s=writeB q:=by
  intro q e1 e2
  by_cases hneg:cR s=true
  ·have:q.num<0:=by rw [e1];exact of_decide_eq_true (hz2.trans hneg)
   rw [pJ this,e2,ht]
   exact neg_split hneg
  ·have h0:cR s=false:=by cases e:cR s with
    | true=>exact absurd e hneg
    | false=>rfl
   have:¬ q.num<0:=by rw [e1];exact of_decide_eq_false (hz2.trans h0)
   rw [iL this,e2,ht]
   unfold aN
   rw [if_neg hneg]
 by_cases hlt:k<t.size
 ·have hd:decF (t.extract (k+1) t.size)=true:=by
   cases e:decF (t.extract (k+1) t.size) with
   | true=>rfl
   | false=>exact absurd ⟨hlt,.inl e⟩ g2
  have hde:=iU hd
  obtain ⟨m,hm⟩:∃ m,m=aO (aC (t.extract (k+1) t.size)):=⟨_,rfl⟩
  rw [← hm] at hde g4
  have hm0:m≠0:=by
   intro e
   exact g2 ⟨hlt,.inr (.inl (by rw [hde,e,dec0];rfl))⟩
  have hm1:m≠1:=by
   intro e
   exact g2 ⟨hlt,.inr (.inr (by rw [hde,e,dec1];rfl))⟩
  have hg:Nat.gcd n m=1:=by
   by_cases e:Nat.gcd n m=1
   ·exact e
   ·exact absurd ⟨hlt,e⟩ g4
  obtain ⟨p1,p2⟩:=mk_parts z hm0
  rw [hz1,hg] at p1 p2
  have q1:(mkRat z m).num=z:=by rw [p1];simp
  have q2:(mkRat z m).den=m:=by rw [p2];simp
  refine ⟨mkRat z m,fin _ q1 ?_,by rw [q1,hz1,hasz];omega,?_⟩
  ·rw [body_two (by rw [q2];exact hm1),dF,q1,hz1,q2,← hae,← hde,hk]
   exact (slash_split (hk▸hlt)).symm
  ·rw [q2,← hde,ByteArray.size_extract];omega
 ·have hkt:k=t.size:=by omega
  have q1:((z:Int):Rat).num=z:=rfl
  have q2:((z:Int):Rat).den=1:=rfl
  refine ⟨(z:Rat),fin _ q1 ?_,by rw [q1,hz1,hasz];omega,by rw [q2,dec1];decide⟩
  rw [sY q2,dF,q1,hz1,← hae,hkt,ext_all]
theorem dec_lt {n k:Nat} (h:(decB n).size≤k):n<10^k:=by
 have:=eV (sW n)
 rw [sX,aE] at this
 exact Nat.lt_of_lt_of_le this (Nat.pow_le_pow_right (by omega) h)
theorem ofF {n:Int} {d:Nat} (hn:n.natAbs≤4000000000000000000) (hd:d≤4000000000000000000) (h0:0<d):jF 13 [rI n,rI (d:Int)] (rS (writeB (mkRat n d))):=by
 intro β w vs hv
 obtain ⟨v,u,rfl,h1,h2⟩:=dQ hv
 rw [bG h1,bG h2]
 have hw:=kY n h0
 by_cases hneg:n<0
 ·have e:n = -(n.natAbs:Int):=by omega
  have h:=of_neg n.natAbs d w (by omega) hn hd h0 _ _ _ rfl rfl rfl
  have hp0:0<n.natAbs/Nat.gcd n.natAbs d:=Nat.div_pos (Nat.gcd_le_left _ (by omega)) (Nat.gcd_pos_of_pos_right _ h0)
  have et:aS (iN (decide (n<0)) (n.natAbs/Nat.gcd n.natAbs d))=⟨#[45]⟩++decB (n.natAbs/Nat.gcd n.natAbs d):=by
   rw [decide_eq_true hneg]
   generalize n.natAbs/Nat.gcd n.natAbs d=m at hp0
   show aS (-(m:Int))=_
   unfold aS
   rw [if_pos (by omega)]
   simp
  rw [et,dF] at hw
  rw [← e,hw] at h
  exact h.mono fun e w' ⟨e1,e2⟩=>⟨_,e1,e2,dE⟩
 ·have e:n=(n.natAbs:Int):=by omega
  have h:=of_pos n.natAbs d w hn hd h0 _ _ _ rfl rfl rfl
  have et:aS (iN (decide (n<0)) (n.natAbs/Nat.gcd n.natAbs d))=decB (n.natAbs/Nat.gcd n.natAbs d):=by
   rw [decide_eq_false hneg]
   exact dF _
  rw [et,dF] at hw
  rw [← e,hw] at h
  exact h.mono fun e w' ⟨e1,e2⟩=>⟨_,e1,e2,dE⟩
theorem sZ {o:Oper} {ρ:Operand→Value} {w:World} {x y:Operand} {a:Nat} (ho:o.op = .binOp .sub 3 x y 3) (hx:ρ x = .int .i64 (a:Int)) (hy:ρ y = .int .i64 1) (ha:a≤9223372036854775807) :
 (execOp ρ o).run Tryz.prog w = .ok (.value (.int .i64 ((a:Int)-1))) w:=by
 simp only [execOp,ho,hx,hy]
 refine bM ?_
 have e:IntKind.i64.wrap ((a:Int)-1)=(a:Int)-1:=by
  rw [IntWalk.i64_left,IntWalk.wrap64_in _ ⟨by omega,by omega⟩]
 simp [go_sem,e]
theorem pS {o:Oper} {ρ:Operand→Value} {w:World} {x y:Operand} {a b:Int} {r:Bool} (ho:o.op = .binOp .neq 3 x y 3) (hx:ρ x = .int .i64 a) (hy:ρ y = .int .i64 b) (h:(a != b)=r) :
 (execOp ρ o).run Tryz.prog w = .ok (.value (.bool r)) w:=by
 simp only [execOp,ho,hx,hy]
 refine bM ?_
 rw [← h]
 exact bX (by kernel_rfl) w
section
variable {s t a d:ByteArray} {c k n m g:Nat}
theorem check_empty (h0:decide ((0:Int)<(s.size:Nat))=false) (hsl:jF 29 [rS s] (rI (0:Int))) (ha:s.extract 0 0=a) (fa:jF 30 [rS a] (rl false)):jF 8 [rS s] (.fv (.sc (.lit (.int .i64 1)))):=by
 refine jT Tryz.func8 fun w00=>?_
 refine aY 9 9 Tryz.underlying9 s ?_
 refine iD 10 0 (s.size:Nat) false h0 ?_
 refine jB 29 [rS s] hsl ?_
 refine jL (.slice 9 (.tmp 21) none (some (.tmp 22)) none) (.tmp 21) (.tmp 22) (rS s) (rI (0:Int)) (rS a) (fun ρ o β w ho hx hy=>?_) ?_
 ·have:=fU (k:=0) (w:=w) ho Tryz.underlying9 (bG hx) (bG hy) (Nat.zero_le _)
  rw [ha] at this
  exact ⟨_,this,dE⟩
 refine jB 30 [rS a] fa ?_
 exact jS Tryz.func8
end
end Ab
section
open Go.RowKit Pl
theorem decForm_any (s:ByteArray) (w:World) (hs:s.size≤9223372036854775807):Calls Tryz.prog 30 #[.string s] w fun e w'=>e = .returned (.bool (Ab.decF s))∧w'=w:=by
 have cd:=aH (fun W=>rG s W hs)
 by_cases h0:s.size=0
 ·have hr:Ab.decF s=false:=by unfold Ab.decF;rw [if_pos h0]
  have k0:(s.size:Int)=0:=by omega
  rw [hr]
  clear hr h0 cd
  go_enter Tryz.func30,Tryz.ntmps30
  go_wp2
  go_ret
  exact ⟨rfl,rfl⟩
 ·have hp:0<s.size:=by omega
  obtain ⟨c,hc⟩:∃ c:Nat,(s[0]'hp).toNat=c:=⟨_,rfl⟩
  have hh:(aC s).head?=some 48↔c=48:=by
   have h1:=bY hp
   rw [List.head?_eq_getElem?,h1,← hc]
   constructor
   ·intro h;injection h with h;rw [h];rfl
   ·intro h;congr 1;exact UInt8.toNat_inj.1 h
  have k0:((s.size:Int)==0)=false:=by rw [beq_eq_false_iff_ne];omega
  have p0:(0:Int)<s.size:=by omega
  obtain ⟨r,hr⟩:∃ r,r=Ab.decF s:=⟨_,rfl⟩
  rw [← hr]
  unfold Ab.decF at hr
  rw [if_neg h0] at hr
  by_cases h1:1<s.size
  ·have k1:(1:Int)<s.size:=by omega
   by_cases h48:c=48
   ·rw [if_pos ⟨h1,hh.2 h48⟩] at hr
    subst h48
    have HR:=aH hr
    clear hr hh h1 h0 cd
    go_enter Tryz.func30,Tryz.ntmps30
    go_wp2
    go_ret
    exact ⟨by rw [HR.out];rfl,rfl⟩
   ·rw [if_neg (fun h=>h48 (hh.1 h.2))] at hr
    have k2:((c:Int)==48)=false:=by simp;omega
    have k3:¬ (c:Int)=48:=by omega
    have HR:=aH hr
    clear hr hh h1 h0 h48
    go_enter Tryz.func30,Tryz.ntmps30
    go_wp2_with fail
    refine (cd.out _).mono ?_
    rintro e w' ⟨rfl,rfl⟩
    go_wp2
    go_ret
    exact ⟨by rw [HR.out];rfl,rfl⟩
  ·rw [if_neg (fun h=>h1 h.1)] at hr
   have k1:¬ (1:Int)<s.size:=by omega
   have HR:=aH hr
   clear hr hh h1 h0
   go_enter Tryz.func30,Tryz.ntmps30
   go_wp2_with fail
   refine (cd.out _).mono ?_
   rintro e w' ⟨rfl,rfl⟩
   go_wp2
   go_ret
   exact ⟨by rw [HR.out];rfl,rfl⟩
end
namespace Ab
open Go.RowKit Pl
theorem oS {s:ByteArray} (hs:s.size≤9223372036854775807):jF 30 [rS s] (rl (decF s)):=by
 intro β w vs hv
 obtain ⟨v,rfl,h1⟩:=cL hv
 rw [bG h1]
 exact (decForm_any s w hs).mono fun e w' ⟨e1,e2⟩=>⟨_,e1,by rw [e2];exact aB _ _,dU rfl⟩
theorem lit_I {z:Int} (β:List Nat) (v:Value) (w:World) (h:(AV.fv (.sc (.lit (.int .i64 z))):AV Kr).holds β v w):(rI z).holds β v w:=h.1
theorem eH {a b:ByteArray} (h:a≠b):(a.toList==b.toList)=false:=by
 rw [beq_eq_false_iff_ne]
 intro e
 apply h
 rw [Go.ByteArray.toList_eq,Go.ByteArray.toList_eq] at e
 exact ba_ext e
theorem jA {s:ByteArray} (h:cR s=true):∃ h:0<s.size,(s[0]'h).toNat=45:=by
 have hh:(aC s).head?=some 45:=eq_of_beq h
 have hp:0<s.size:=by
  rcases Nat.eq_zero_or_pos s.size with e|e
  ·rw [← aE] at e
   rw [List.eq_nil_of_length_eq_zero e] at hh
   cases hh
  ·exact e
 refine ⟨hp,?_⟩
 rw [List.head?_eq_getElem?,bY hp] at hh
 injection hh with hh
 rw [hh];rfl
theorem jD {s:ByteArray} (hp:0<s.size) (h:cR s=false):∃ c:Nat,(∃ h:0<s.size,(s[0]'h).toNat=c)∧((c:Int)==45)=false:=by
 refine ⟨_,⟨hp,rfl⟩,?_⟩
 have hh:¬ (aC s).head?=some 45:=by unfold cR at h;rw [beq_eq_false_iff_ne] at h;exact h
 rw [beq_eq_false_iff_ne]
 intro e
 apply hh
 rw [List.head?_eq_getElem?,bY hp]
 congr 1
 apply UInt8.toNat_inj.1
 show (s[0]'hp).toNat=45
 omega
theorem partsT {t:ByteArray} {k n m:Nat} (hts:t.size≤1000000000) (hk:aU t=k) (hlt:k<t.size) (ha:t.extract 0 k=decB n) (hd:t.extract (k+1) t.size=decB m) (hn:(decB n).size≤100000) (hm:(decB m).size≤100000) :
 jF 31 [rS t] (.tup [.ag [.lit (.bool false),.sp (yZ n)],.ag [.lit (.bool false),.sp (yZ m)]]):=by
 have hsl:=rJ (s:=t) (by omega)
 rw [hk] at hsl
 refine jT Tryz.func31 fun w00=>?_
 refine jB 29 [rS t] hsl ?_
 refine jL (.call ⟨.builtin .len,#[.tmp 10],#[9]⟩) (.tmp 10) (.tmp 10) (rS t) (rS t) (rI t.size) (fun ρ o β w ho hx _=>⟨_,rlen_run ho Tryz.underlying9 (bG hx),dE⟩) ?_
 refine jL (.binOp .eql 3 (.tmp 9) (.tmp 11) 3) (.tmp 9) (.tmp 11) (rI (k:Int)) (rI t.size) (rl false) (fun ρ o β w ho hx hy=>⟨.bool false,fL ho (bG hx) (bG hy) (by simp;omega),dU rfl⟩) ?_
 refine jL (.slice 9 (.tmp 16) none (some (.tmp 17)) none) (.tmp 16) (.tmp 17) (rS t) (rI (k:Int)) (rS (decB n)) (fun ρ o β w ho hx hy=>?_) ?_
 ·have:=fU (w:=w) ho Tryz.underlying9 (bG hx) (bG hy) (by omega)
  rw [ha] at this
  exact ⟨_,this,dE⟩
 refine jB 41 [rS (decB n)] (parseDF hn) ?_
 refine jL (.binOp .add 3 (.tmp 21) (.const (.int .i64 1)) 3) (.tmp 21) (.const (.int .i64 1)) (rI (k:Int)) (.fv (.sc (.lit (.int .i64 1)))) (rI ((k+1:Nat):Int)) (fun ρ o β w ho hx hy=>⟨_,iC ho (bG hx) (bU hy) (by omega),dE⟩) ?_
 refine jL (.slice 9 (.tmp 20) (some (.tmp 22)) none none) (.tmp 20) (.tmp 22) (rS t) (rI ((k+1:Nat):Int)) (rS (decB m)) (fun ρ o β w ho hx hy=>?_) ?_
 ·have:=fV (w:=w) ho Tryz.underlying9 (bG hx) (bG hy) (by omega)
  rw [hd] at this
  exact ⟨_,this,dE⟩
 refine jB 41 [rS (decB m)] (parseDF hm) ?_
 exact jS Tryz.func31
theorem fG {f:FuncId} {w00:World} {c:Cfg Kr} {fn:Func} {z:Int} (hfn:Tryz.prog.funcs[f]?=some fn) (hc:c.res Tryz.prog fn=some (.fv (.sc (.lit (.int .i64 z))))):Ok Tryz.prog f w00 (fun v w=>(rI z).holds [] v w) c :=
 ⟨good_ret hfn _ hc fun _ _ _ h=>h.1⟩
theorem check_neg {s:ByteArray} {z:Int} (hs:s.size≤9223372036854775807) (hne:0<s.size) (hn:cR s=true) (hz:dR s=z):jF 8 [rS s] (rI z):=by
 have hc:=jA hn
 have h1:1≤s.size:=hne
 have hsp:aN s=s.extract 1 s.size:=if_pos hn
 unfold dR at hz
 rw [hn] at hz
 obtain ⟨t,hext⟩:∃ t,s.extract 1 s.size=t:=⟨_,rfl⟩
 rw [hsp,hext] at hz
 have hts:t.size<9223372036854775807:=by rw [← hext,ByteArray.size_extract];omega
 have hsl:=rJ (s:=t) (by omega)
 have hkl:=mO t
 have hks:aU t=aU t:=rfl
 generalize hk:aU t=k at hsl hkl hks hz
 obtain ⟨a,ha⟩:∃ a,t.extract 0 k=a:=⟨_,rfl⟩
 obtain ⟨d,hd⟩:∃ d,t.extract (k+1) t.size=d:=⟨_,rfl⟩
 have hasz:a.size=k:=by rw [← ha,ByteArray.size_extract];omega
 have hdsz:d.size=t.size-(k+1):=by rw [← hd,ByteArray.size_extract];omega
 rw [ha,hd] at hz
 have fa:=oS (s:=a) (by omega)
 have fd:=oS (s:=d) (by omega)
 refine jT Tryz.func8 fun w00=>?_
 refine aY 9 9 Tryz.underlying9 s ?_
 refine iD 10 0 (s.size:Nat) true (by rw [decide_eq_true_iff];omega) ?_
 refine ridn 13 s hc ?_
 refine rsl1 17 9 Tryz.underlying9 s t h1 hext ?_
 refine jB 29 [rS t] hsl ?_
 refine gK 21 22 9 Tryz.underlying9 t k a hkl ha ?_
 by_cases c1:decF a=false
 ·rw [if_pos (.inl c1)] at hz
  subst hz
  rw [c1] at fa
  refine jB 30 [rS a] fa ?_
  exact fG Tryz.func8 (by kernel_rfl)
 rw [Bool.not_eq_false] at c1
 rw [c1] at fa
 refine jB 30 [rS a] fa ?_
 refine ridnR 27 s hc ?_
 refine gK 31 32 9 Tryz.underlying9 t k a hkl ha ?_
 by_cases cz:a=zeroT
 ·rw [if_pos (.inr ⟨rfl,cz⟩)] at hz
  subst hz
  refine uE 33 9 a ⟨#[48]⟩ true (by rw [cz];exact beq_self_eq_true zeroT.toList) ?_
  exact fG Tryz.func8 (by kernel_rfl)
 refine uE 33 9 a ⟨#[48]⟩ false (eH cz) ?_
 rw [if_neg (by rintro (h|h);exact absurd (h.symm.trans c1) (by decide);exact cz h.2)] at hz
 refine aY 38 9 Tryz.underlying9 t ?_
 by_cases hlt:k<t.size
 ·have fl:decide ((k:Int)<(t.size:Nat))=true:=by rw [decide_eq_true_iff];omega
  refine cJ 37 39 (k:Int) (t.size:Nat) true fl ?_
  refine fE 43 k (by omega) ?_
  refine kZ 42 44 9 Tryz.underlying9 t (k+1) d (by omega) hd ?_
  by_cases d1:decF d=false
  ·rw [if_pos ⟨hlt,.inl d1⟩] at hz
   subst hz
   rw [d1] at fd
   refine jB 30 [rS d] fd ?_
   exact fG Tryz.func8 (by kernel_rfl)
  rw [Bool.not_eq_false] at d1
  rw [d1] at fd
  refine jB 30 [rS d] fd ?_
  refine fE 50 k (by omega) ?_
  refine kZ 49 51 9 Tryz.underlying9 t (k+1) d (by omega) hd ?_
  by_cases d0:d=zeroT
  ·rw [if_pos ⟨hlt,.inr (.inl d0)⟩] at hz
   subst hz
   refine uE 52 9 d ⟨#[48]⟩ true (by rw [d0];exact beq_self_eq_true zeroT.toList) ?_
   exact fG Tryz.func8 (by kernel_rfl)
  refine uE 52 9 d ⟨#[48]⟩ false (eH d0) ?_
  refine fE 57 k (by omega) ?_
  refine kZ 56 58 9 Tryz.underlying9 t (k+1) d (by omega) hd ?_
  by_cases d2:d=oneT
  ·rw [if_pos ⟨hlt,.inr (.inr d2)⟩] at hz
   subst hz
   refine uE 59 9 d ⟨#[49]⟩ true (by rw [d2];exact beq_self_eq_true oneT.toList) ?_
   exact fG Tryz.func8 (by kernel_rfl)
  refine uE 59 9 d ⟨#[49]⟩ false (eH d2) ?_
  rw [if_neg (by rintro ⟨_,h|h|h⟩;exact absurd (h.symm.trans d1) (by decide);exact d0 h;exact d2 h)] at hz
  by_cases l1:600<k
  ·rw [if_pos (.inl l1)] at hz
   subst hz
   refine iD 63 600 (k:Int) true (by rw [decide_eq_true_iff];omega) ?_
   exact fG Tryz.func8 (by kernel_rfl)
  refine iD 63 600 (k:Int) false (by rw [decide_eq_false_iff_not];omega) ?_
  refine aY 66 9 Tryz.underlying9 t ?_
  refine rsub 67 68 t.size k hkl (by omega) ?_
  refine jL (.binOp .sub 3 (.tmp 69) (.const (.int .i64 1)) 3) (.tmp 69) (.const (.int .i64 1)) (rI ((t.size-k:Nat):Int)) (.fv (.sc (.lit (.int .i64 1)))) (rI (((t.size-k:Nat):Int)-1)) (fun ρ o β w ho hx hy=>⟨_,sZ ho (bG hx) (bU hy) (by omega),dE⟩) ?_
  by_cases l2:600<t.size-k-1
  ·rw [if_pos (.inr l2)] at hz
   subst hz
   refine iD 70 600 (((t.size-k:Nat):Int)-1) true (by rw [decide_eq_true_iff];omega) ?_
   exact fG Tryz.func8 (by kernel_rfl)
  refine iD 70 600 (((t.size-k:Nat):Int)-1) false (by rw [decide_eq_false_iff_not];omega) ?_
  rw [if_neg (by rintro (h|h) <;> omega)] at hz
  refine aY 74 9 Tryz.underlying9 t ?_
  refine cJ 73 75 (k:Int) (t.size:Nat) true fl ?_
  have hae:=iU c1
  have hde:=iU d1
  generalize aO (aC a)=n at hae hz
  generalize aO (aC d)=m at hde hz
  have hp:=partsT (t:=t) (by omega) hk hlt (ha.trans hae) (hd.trans hde) (by rw [← hae];omega) (by rw [← hde];omega)
  have hm0:0<m:=Nat.pos_of_ne_zero fun e=>d0 (by rw [hde,e,dec0];rfl)
  have hg0:0<Nat.gcd n m:=Nat.gcd_pos_of_pos_right _ hm0
  have hg:=iB (a:=n) (b:=m) (lA (dec_lt (n:=n) (k:=600) (by rw [← hae];omega)) (by omega)) (lA (dec_lt (n:=m) (k:=600) (by rw [← hde];omega)) (by omega))
  obtain ⟨g,hgg⟩:∃ g,Nat.gcd n m=g:=⟨_,rfl⟩
  rw [hgg] at hg hg0
  simp only [hgg] at hz
  refine jB 31 [rS t] hp ?_
  refine jB 32 [di n,di m] hg ?_
  rcases Nat.lt_or_ge g B9 with gb|gb
  ·refine jL (.call ⟨.builtin .len,#[.tmp 87],#[67]⟩) (.tmp 87) (.tmp 87) (di g) (di g) (.fv (.sc (.lit (.int .i64 1)))) (fun ρ o β w ho hx _=>?_) ?_
   ·obtain ⟨ad,c,e,_⟩:=fQ (bA.1 hx) hg0 gb
    exact ⟨_,gE ho e,dU rfl⟩
   refine jL (.indexAddr 67 (.tmp 91) (.const (.int .i64 0))) (.tmp 91) (.const (.int .i64 0)) (di g) (.fv (.sc (.lit (.int .i64 0)))) (rP g) (fun ρ o β w ho hx hy=>?_) ?_
   ·obtain ⟨ad,c,e,hc⟩:=fQ (bA.1 hx) hg0 gb
    exact ⟨_,iZ ho e (bU hy) (by omega),⟨ad,rfl,hc⟩⟩
   refine jL (.load 3 (.tmp 92)) (.tmp 92) (.tmp 92) (rP g) (rP g) (rI (g:Int)) (fun ρ o β w ho hx _=>?_) ?_
   ·obtain ⟨ad,e,hc⟩:=hx
    injection e with e
    exact ⟨_,oR ho e hc,dE⟩
   have hne:(((g:Int) != 1) = !decide (g=1)):=by rw [Bool.eq_iff_iff];simp;omega
   by_cases g1:g=1
   ·rw [if_neg (by rintro ⟨_,h⟩;exact h g1)] at hz
    subst hz
    refine jL (.binOp .neq 3 (.tmp 93) (.const (.int .i64 1)) 3) (.tmp 93) (.const (.int .i64 1)) (rI (g:Int)) (.fv (.sc (.lit (.int .i64 1)))) (rl false) (fun ρ o β w ho hx hy=>⟨.bool false,pS ho (bG hx) (bU hy) (by rw [hne];simp [g1]),dU rfl⟩) ?_
    exact fG Tryz.func8 (by kernel_rfl)
   ·rw [if_pos ⟨hlt,g1⟩] at hz
    subst hz
    refine jL (.binOp .neq 3 (.tmp 93) (.const (.int .i64 1)) 3) (.tmp 93) (.const (.int .i64 1)) (rI (g:Int)) (.fv (.sc (.lit (.int .i64 1)))) (rl true) (fun ρ o β w ho hx hy=>⟨.bool true,pS ho (bG hx) (bU hy) (by rw [hne];simp [g1]),dU rfl⟩) ?_
    exact fG Tryz.func8 (by kernel_rfl)
  ·rw [if_pos ⟨hlt,by have:=dM;omega⟩] at hz
   subst hz
   refine jL (.call ⟨.builtin .len,#[.tmp 87],#[67]⟩) (.tmp 87) (.tmp 87) (di g) (di g) rNe (fun ρ o β w ho hx _=>?_) ?_
   ·obtain ⟨A,m,c,e,hm⟩:=sV (bA.1 hx) gb
    exact ⟨_,gE ho e,⟨(m:Int),rfl,by omega⟩⟩
   refine jL (.binOp .neq 3 (.tmp 88) (.const (.int .i64 1)) 3) (.tmp 88) (.const (.int .i64 1)) rNe (.fv (.sc (.lit (.int .i64 1)))) (rl true) (fun ρ o β w ho hx hy=>?_) ?_
   ·obtain ⟨x,e,hm⟩:=hx
    injection e with e
    exact ⟨.bool true,pS ho e (bU hy) (by simpa using hm),dU rfl⟩
   exact fG Tryz.func8 (by kernel_rfl)
 ·have fl:decide ((k:Int)<(t.size:Nat))=false:=by rw [decide_eq_false_iff_not];omega
  refine cJ 37 39 (k:Int) (t.size:Nat) false fl ?_
  rw [if_neg (fun h=>hlt h.1)] at hz
  by_cases l1:600<k
  ·rw [if_pos (.inl l1)] at hz
   subst hz
   refine iD 63 600 (k:Int) true (by rw [decide_eq_true_iff];omega) ?_
   exact fG Tryz.func8 (by kernel_rfl)
  rw [if_neg (by rintro (h|h) <;> omega),if_neg (fun h=>hlt h.1)] at hz
  subst hz
  refine iD 63 600 (k:Int) false (by rw [decide_eq_false_iff_not];omega) ?_
  refine aY 66 9 Tryz.underlying9 t ?_
  refine rsub 67 68 t.size k hkl (by omega) ?_
  refine jL (.binOp .sub 3 (.tmp 69) (.const (.int .i64 1)) 3) (.tmp 69) (.const (.int .i64 1)) (rI ((t.size-k:Nat):Int)) (.fv (.sc (.lit (.int .i64 1)))) (rI (((t.size-k:Nat):Int)-1)) (fun ρ o β w ho hx hy=>⟨_,sZ ho (bG hx) (bU hy) (by omega),dE⟩) ?_
  refine iD 70 600 (((t.size-k:Nat):Int)-1) false (by rw [decide_eq_false_iff_not];omega) ?_
  refine aY 74 9 Tryz.underlying9 t ?_
  refine cJ 73 75 (k:Int) (t.size:Nat) false fl ?_
  exact fG Tryz.func8 (by kernel_rfl)
theorem check_pos {s:ByteArray} {z:Int} (hs:s.size≤9223372036854775807) (hne:0<s.size) (hn:cR s=false) (hz:dR s=z):jF 8 [rS s] (rI z):=by
 obtain ⟨c,hc,hc45⟩:=jD hne hn
 have hsp:aN s=s:=if_neg (by rw [hn];exact Bool.false_ne_true)
 unfold dR at hz
 rw [hn,hsp] at hz
 have hts:=hs
 have hsl:=rJ (s:=s) (by omega)
 have hkl:=mO s
 have hks:aU s=aU s:=rfl
 generalize hk:aU s=k at hsl hkl hks hz
 obtain ⟨a,ha⟩:∃ a,s.extract 0 k=a:=⟨_,rfl⟩
 obtain ⟨d,hd⟩:∃ d,s.extract (k+1) s.size=d:=⟨_,rfl⟩
 have hasz:a.size=k:=by rw [← ha,ByteArray.size_extract];omega
 have hdsz:d.size=s.size-(k+1):=by rw [← hd,ByteArray.size_extract];omega
 rw [ha,hd] at hz
 have fa:=oS (s:=a) (by omega)
 have fd:=oS (s:=d) (by omega)
 refine jT Tryz.func8 fun w00=>?_
 refine aY 9 9 Tryz.underlying9 s ?_
 refine iD 10 0 (s.size:Nat) true (by rw [decide_eq_true_iff];omega) ?_
 refine ridp 13 s c hc ?_
 refine zA 14 c hc45 ?_
 refine jB 29 [rS s] hsl ?_
 refine gK 21 22 9 Tryz.underlying9 s k a hkl ha ?_
 by_cases c1:decF a=false
 ·rw [if_pos (.inl c1)] at hz
  subst hz
  rw [c1] at fa
  refine jB 30 [rS a] fa ?_
  exact fG Tryz.func8 (by kernel_rfl)
 rw [Bool.not_eq_false] at c1
 rw [c1] at fa
 refine jB 30 [rS a] fa ?_
 refine ridpR 27 s c hc ?_
 refine zA 28 c hc45 ?_
 rw [if_neg (by rintro (h|h);exact absurd (h.symm.trans c1) (by decide);exact absurd h.1 (by decide))] at hz
 refine aY 38 9 Tryz.underlying9 s ?_
 by_cases hlt:k<s.size
 ·have fl:decide ((k:Int)<(s.size:Nat))=true:=by rw [decide_eq_true_iff];omega
  refine cJ 37 39 (k:Int) (s.size:Nat) true fl ?_
  refine fE 43 k (by omega) ?_
  refine kZ 42 44 9 Tryz.underlying9 s (k+1) d (by omega) hd ?_
  by_cases d1:decF d=false
  ·rw [if_pos ⟨hlt,.inl d1⟩] at hz
   subst hz
   rw [d1] at fd
   refine jB 30 [rS d] fd ?_
   exact fG Tryz.func8 (by kernel_rfl)
  rw [Bool.not_eq_false] at d1
  rw [d1] at fd
  refine jB 30 [rS d] fd ?_
  refine fE 50 k (by omega) ?_
  refine kZ 49 51 9 Tryz.underlying9 s (k+1) d (by omega) hd ?_
  by_cases d0:d=zeroT
  ·rw [if_pos ⟨hlt,.inr (.inl d0)⟩] at hz
   subst hz
   refine uE 52 9 d ⟨#[48]⟩ true (by rw [d0];exact beq_self_eq_true zeroT.toList) ?_
   exact fG Tryz.func8 (by kernel_rfl)
  refine uE 52 9 d ⟨#[48]⟩ false (eH d0) ?_
  refine fE 57 k (by omega) ?_
  refine kZ 56 58 9 Tryz.underlying9 s (k+1) d (by omega) hd ?_
  by_cases d2:d=oneT
  ·rw [if_pos ⟨hlt,.inr (.inr d2)⟩] at hz
   subst hz
   refine uE 59 9 d ⟨#[49]⟩ true (by rw [d2];exact beq_self_eq_true oneT.toList) ?_
   exact fG Tryz.func8 (by kernel_rfl)
  refine uE 59 9 d ⟨#[49]⟩ false (eH d2) ?_
  rw [if_neg (by rintro ⟨_,h|h|h⟩;exact absurd (h.symm.trans d1) (by decide);exact d0 h;exact d2 h)] at hz
  by_cases l1:600<k
  ·rw [if_pos (.inl l1)] at hz
   subst hz
   refine iD 63 600 (k:Int) true (by rw [decide_eq_true_iff];omega) ?_
   exact fG Tryz.func8 (by kernel_rfl)
  refine iD 63 600 (k:Int) false (by rw [decide_eq_false_iff_not];omega) ?_
  refine aY 66 9 Tryz.underlying9 s ?_
  refine rsub 67 68 s.size k hkl (by omega) ?_
  refine jL (.binOp .sub 3 (.tmp 69) (.const (.int .i64 1)) 3) (.tmp 69) (.const (.int .i64 1)) (rI ((s.size-k:Nat):Int)) (.fv (.sc (.lit (.int .i64 1)))) (rI (((s.size-k:Nat):Int)-1)) (fun ρ o β w ho hx hy=>⟨_,sZ ho (bG hx) (bU hy) (by omega),dE⟩) ?_
  by_cases l2:600<s.size-k-1
  ·rw [if_pos (.inr l2)] at hz
   subst hz
   refine iD 70 600 (((s.size-k:Nat):Int)-1) true (by rw [decide_eq_true_iff];omega) ?_
   exact fG Tryz.func8 (by kernel_rfl)
  refine iD 70 600 (((s.size-k:Nat):Int)-1) false (by rw [decide_eq_false_iff_not];omega) ?_
  rw [if_neg (by rintro (h|h) <;> omega)] at hz
  refine aY 74 9 Tryz.underlying9 s ?_
  refine cJ 73 75 (k:Int) (s.size:Nat) true fl ?_
  have hae:=iU c1
  have hde:=iU d1
  generalize aO (aC a)=n at hae hz
  generalize aO (aC d)=m at hde hz
  have hp:=partsT (t:=s) (by omega) hk hlt (ha.trans hae) (hd.trans hde) (by rw [← hae];omega) (by rw [← hde];omega)
  have hm0:0<m:=Nat.pos_of_ne_zero fun e=>d0 (by rw [hde,e,dec0];rfl)
  have hg0:0<Nat.gcd n m:=Nat.gcd_pos_of_pos_right _ hm0
  have hg:=iB (a:=n) (b:=m) (lA (dec_lt (n:=n) (k:=600) (by rw [← hae];omega)) (by omega)) (lA (dec_lt (n:=m) (k:=600) (by rw [← hde];omega)) (by omega))
  obtain ⟨g,hgg⟩:∃ g,Nat.gcd n m=g:=⟨_,rfl⟩
  rw [hgg] at hg hg0
  simp only [hgg] at hz
  refine jB 31 [rS s] hp ?_
  refine jB 32 [di n,di m] hg ?_
  rcases Nat.lt_or_ge g B9 with gb|gb
  ·refine jL (.call ⟨.builtin .len,#[.tmp 87],#[67]⟩) (.tmp 87) (.tmp 87) (di g) (di g) (.fv (.sc (.lit (.int .i64 1)))) (fun ρ o β w ho hx _=>?_) ?_
   ·obtain ⟨ad,c,e,_⟩:=fQ (bA.1 hx) hg0 gb
    exact ⟨_,gE ho e,dU rfl⟩
   refine jL (.indexAddr 67 (.tmp 91) (.const (.int .i64 0))) (.tmp 91) (.const (.int .i64 0)) (di g) (.fv (.sc (.lit (.int .i64 0)))) (rP g) (fun ρ o β w ho hx hy=>?_) ?_
   ·obtain ⟨ad,c,e,hc⟩:=fQ (bA.1 hx) hg0 gb
    exact ⟨_,iZ ho e (bU hy) (by omega),⟨ad,rfl,hc⟩⟩
   refine jL (.load 3 (.tmp 92)) (.tmp 92) (.tmp 92) (rP g) (rP g) (rI (g:Int)) (fun ρ o β w ho hx _=>?_) ?_
   ·obtain ⟨ad,e,hc⟩:=hx
    injection e with e
    exact ⟨_,oR ho e hc,dE⟩
   have hne:(((g:Int) != 1) = !decide (g=1)):=by rw [Bool.eq_iff_iff];simp;omega
   by_cases g1:g=1
   ·rw [if_neg (by rintro ⟨_,h⟩;exact h g1)] at hz
    subst hz
    refine jL (.binOp .neq 3 (.tmp 93) (.const (.int .i64 1)) 3) (.tmp 93) (.const (.int .i64 1)) (rI (g:Int)) (.fv (.sc (.lit (.int .i64 1)))) (rl false) (fun ρ o β w ho hx hy=>⟨.bool false,pS ho (bG hx) (bU hy) (by rw [hne];simp [g1]),dU rfl⟩) ?_
    exact fG Tryz.func8 (by kernel_rfl)
   ·rw [if_pos ⟨hlt,g1⟩] at hz
    subst hz
    refine jL (.binOp .neq 3 (.tmp 93) (.const (.int .i64 1)) 3) (.tmp 93) (.const (.int .i64 1)) (rI (g:Int)) (.fv (.sc (.lit (.int .i64 1)))) (rl true) (fun ρ o β w ho hx hy=>⟨.bool true,pS ho (bG hx) (bU hy) (by rw [hne];simp [g1]),dU rfl⟩) ?_
    exact fG Tryz.func8 (by kernel_rfl)
  ·rw [if_pos ⟨hlt,by have:=dM;omega⟩] at hz
   subst hz
   refine jL (.call ⟨.builtin .len,#[.tmp 87],#[67]⟩) (.tmp 87) (.tmp 87) (di g) (di g) rNe (fun ρ o β w ho hx _=>?_) ?_
   ·obtain ⟨A,m,c,e,hm⟩:=sV (bA.1 hx) gb
    exact ⟨_,gE ho e,⟨(m:Int),rfl,by omega⟩⟩
   refine jL (.binOp .neq 3 (.tmp 88) (.const (.int .i64 1)) 3) (.tmp 88) (.const (.int .i64 1)) rNe (.fv (.sc (.lit (.int .i64 1)))) (rl true) (fun ρ o β w ho hx hy=>?_) ?_
   ·obtain ⟨x,e,hm⟩:=hx
    injection e with e
    exact ⟨.bool true,pS ho e (bU hy) (by simpa using hm),dU rfl⟩
   exact fG Tryz.func8 (by kernel_rfl)
 ·have fl:decide ((k:Int)<(s.size:Nat))=false:=by rw [decide_eq_false_iff_not];omega
  refine cJ 37 39 (k:Int) (s.size:Nat) false fl ?_
  rw [if_neg (fun h=>hlt h.1)] at hz
  by_cases l1:600<k
  ·rw [if_pos (.inl l1)] at hz
   subst hz
   refine iD 63 600 (k:Int) true (by rw [decide_eq_true_iff];omega) ?_
   exact fG Tryz.func8 (by kernel_rfl)
  rw [if_neg (by rintro (h|h) <;> omega),if_neg (fun h=>hlt h.1)] at hz
  subst hz
  refine iD 63 600 (k:Int) false (by rw [decide_eq_false_iff_not];omega) ?_
  refine aY 66 9 Tryz.underlying9 s ?_
  refine rsub 67 68 s.size k hkl (by omega) ?_
  refine jL (.binOp .sub 3 (.tmp 69) (.const (.int .i64 1)) 3) (.tmp 69) (.const (.int .i64 1)) (rI ((s.size-k:Nat):Int)) (.fv (.sc (.lit (.int .i64 1)))) (rI (((s.size-k:Nat):Int)-1)) (fun ρ o β w ho hx hy=>⟨_,sZ ho (bG hx) (bU hy) (by omega),dE⟩) ?_
  refine iD 70 600 (((s.size-k:Nat):Int)-1) false (by rw [decide_eq_false_iff_not];omega) ?_
  refine aY 74 9 Tryz.underlying9 s ?_
  refine cJ 73 75 (k:Int) (s.size:Nat) false fl ?_
  exact fG Tryz.func8 (by kernel_rfl)
theorem checkAnyF {s:ByteArray} (hs:s.size≤9223372036854775807):jF 8 [rS s] (rI (dR s)):=by
 rcases Nat.eq_zero_or_pos s.size with h0|h0
 ·have hbs:aC s = []:=List.eq_nil_of_length_eq_zero (by rw [aE];exact h0)
  have hn:cR s=false:=by unfold cR;rw [hbs];rfl
  have hst:aN s=s:=if_neg (by rw [hn];exact Bool.false_ne_true)
  have hsl:aU s=0:=by unfold aU;rw [hbs];rfl
  have hd:decF (s.extract 0 0)=false:=by unfold decF;rw [if_pos (by rw [ByteArray.size_extract];omega)]
  have e:dR s=1:=by unfold dR;rw [hst,hsl,if_pos (.inl hd)]
  rw [e]
  have h1:=rJ (s:=s) (by omega)
  rw [hsl] at h1
  have h2:=oS (s:=s.extract 0 0) (by rw [ByteArray.size_extract];omega)
  rw [hd] at h2
  exact rres (check_empty (by rw [decide_eq_false_iff_not];omega) h1 rfl h2) lit_I
 ·cases e:cR s with
  | true=>exact check_neg hs h0 e rfl
  | false=>exact check_pos hs h0 e rfl
end Ab
namespace Ab
open Go.RowKit Pl
theorem isS_lit {β:List Nat} {cs:List Value} {w:World} {b:ByteArray}:(eJ b).holds β cs w↔(Seg.lit (.string b):Seg Kn).holds β cs w:=⟨fun h=>⟨h,rfl⟩,fun h=>h.1⟩
inductive LitL:List (Seg Kn)→List (Seg Kn)→Prop where
 | nil:LitL [] []
 | txt {b:ByteArray} {l m}:LitL l m→LitL (eJ b::l) (.lit (.string b)::m)
 | same {s:Seg Kn} {l m}:LitL l m→LitL (s::l) (s::m)
theorem LitL.to {β:List Nat} {w:World} {l m:List (Seg Kn)} (h:LitL l m):∀ {cs:List Value},holdsL β l cs w↔holdsL β m cs w:=by
 induction h with
 | nil=>intro cs;exact Iff.rfl
 | txt _ ih =>
   intro cs
   constructor
   ·rintro ⟨a,b,e,h1,h2⟩;exact ⟨a,b,e,isS_lit.1 h1,ih.1 h2⟩
   ·rintro ⟨a,b,e,h1,h2⟩;exact ⟨a,b,e,isS_lit.2 h1,ih.2 h2⟩
 | same _ ih =>
   intro cs
   constructor
   ·rintro ⟨a,b,e,h1,h2⟩;exact ⟨a,b,e,h1,ih.1 h2⟩
   ·rintro ⟨a,b,e,h1,h2⟩;exact ⟨a,b,e,h1,ih.2 h2⟩
theorem ag_lit {β:List Nat} {v:Value} {w:World} {l m:List (Seg Kn)} (h:LitL l m):(AV.fv (.ag l)).holds β v w↔(AV.fv (.ag m)).holds β v w:=by
 constructor
 ·rintro ⟨cs,e,k⟩;exact ⟨cs,e,h.to.1 k⟩
 ·rintro ⟨cs,e,k⟩;exact ⟨cs,e,h.to.2 k⟩
theorem sc_lit {β:List Nat} {v:Value} {w:World} {b:ByteArray}:(AV.fv (.sc (eJ b)):AV Kn).holds β v w↔(AV.fv (.sc (.lit (.string b))):AV Kn).holds β v w:=isS_lit (β:=β) (cs := [v])
theorem FitsW.args {P:Program} {I:World→Prop} {f:FuncId} {l l' : List (AV Kn)} {x:AV Kn} (h:FitsW P I f l x) (hl:∀ β vs w,holdsA β l' vs w→holdsA β l vs w):FitsW P I f l' x:=fun β w vs hI hv=>h β w vs hI (hl β vs w hv)
theorem FitsW.res {P:Program} {I:World→Prop} {f:FuncId} {l:List (AV Kn)} {x y:AV Kn} (h:FitsW P I f l x) (hx:∀ β v w,x.holds β v w→y.holds β v w):FitsW P I f l y:=fun β w vs hI hv =>
 (h β w vs hI hv).mono fun e w' ⟨v,e1,e2,e3⟩=>⟨v,e1,e2,hx β v w' e3⟩
theorem dec_two {n:Nat} (h1:10≤n) (h2:n<100):Lib.decDigits n = [UInt8.ofNat (48+n/10),UInt8.ofNat (48+n%10)]:=by
 rw [eY (by omega),cV (by omega)]
 rfl
theorem bV {n:Nat} (h:n<10):decB n=⟨#[UInt8.ofNat (48+n)]⟩:=by unfold decB;rw [cV h]
theorem mS {n:Nat} (h1:10≤n) (h2:n<100):decB n=⟨#[UInt8.ofNat (48+n/10),UInt8.ofNat (48+n%10)]⟩:=by unfold decB;rw [dec_two h1 h2]
theorem dJ {z:Int} {b:ByteArray} (hz:¬ z<0) (h:decB z.natAbs=b):writeB (z:Rat)=b:=by
 rw [← dO,aS,if_neg hz,h]
theorem fW {z:Int} {b:ByteArray} (hz:z<0) (h:decB z.natAbs=b):writeB (z:Rat)=⟨#[45]⟩++b:=by
 rw [← dO,aS,if_pos hz,h]
theorem w0:writeB ((0:Int):Rat)=⟨#[48]⟩:=dJ (by omega) (bV (n:=0) (by omega))
theorem w1:writeB ((1:Int):Rat)=⟨#[49]⟩:=dJ (by omega) (bV (n:=1) (by omega))
end Ab
section
open Go.RowKit Pl
def dig (c:Nat):Bool:=decide (48≤c)&&decide (c≤57)
theorem digitsB_all {s:ByteArray} (h:∀ (j:Nat) (hj:j<s.size),dig (s[j]'hj).toNat=true):bK s=true:=by
 unfold bK
 rw [List.all_eq_true]
 intro c hc
 obtain ⟨j,hj,e⟩:=List.mem_iff_getElem.1 hc
 have hj2:j<s.size:=by rw [← aE];exact hj
 have h1:=bY hj2
 rw [List.getElem?_eq_getElem hj,e] at h1
 injection h1 with h1
 rw [h1]
 exact h j hj2
theorem dig_bad {c:Nat} (h:dig c=false):c<48∨57<c:=by
 simp only [dig,Bool.and_eq_false_iff,decide_eq_false_iff_not] at h
 omega
set_option maxRecDepth 100000 in
theorem isDigits_all (s:ByteArray) (w:World):Calls Tryz.prog 96 #[.string s] w fun e w'=>e = .returned (.bool (bK s&&decide (s.size≠0)))∧Below w.heap.size w w':=by
 have hne:(!(s.toList==(⟨#[]⟩:ByteArray).toList))=decide (s.size≠0):=by
  rw [Go.ByteArray.toList_eq,Go.ByteArray.toList_eq]
  have hl:=aE s
  unfold aC at hl
  cases hb:s.data.toList with
  | nil=>rw [hb] at hl;simp at hl;simp [← hl]
  | cons c l =>
    rw [hb] at hl
    simp at hl
    have:s.size≠0:=by omega
    simp [this]
 go_enter Tryz.func96,Tryz.ntmps96
 go_wp2
 go_loopw [4] (fun _ wr => ∃ pos:Nat,wr=w.iter s pos∧pos≤s.size∧∀ (j:Nat) (hj:j<s.size),j<pos→dig (s[j]'hj).toNat=true) (fun _ wr=>s.size-wr.iterPos w.heap.size)
 case atStart=>exact ⟨0,rfl,Nat.zero_le _,fun j _ h=>absurd h (Nat.not_lt_zero _)⟩
 case round =>
  obtain ⟨pos,rfl,hpos,hok⟩:=hrel
  by_cases hp:pos<s.size
  ·obtain ⟨c,k,hdc,hk,hgood⟩:∃ c k,Utf8.decode s pos=(c,k)∧1≤k∧(dig c=true→(∀ hj:pos<s.size,dig (s[pos]'hj).toNat=true)∧k=1)∧(dig c=false→∀ hj:pos<s.size,dig (s[pos]'hj).toNat=false):=by
    by_cases ha:(s[pos]'hp).toNat<128
    ·exact ⟨_,_,decode_ascii s pos hp ha,aR _,fun h=>⟨fun _=>h,rfl⟩,fun h _=>h⟩
    ·obtain ⟨h1,h2⟩:=decode_high s pos hp (by omega)
     refine ⟨(Utf8.decode s pos).1,(Utf8.decode s pos).2,rfl,h2,fun h=>?_,fun _ _=>?_⟩
     ·simp [dig] at h
      omega
     ·simp [dig]
      omega
   have hnx:∀ ty,(Instr.next (.pointer (some ⟨w.heap.size,0,none⟩)) true ty).run Tryz.prog (w.iter s pos) = .ok (.tuple #[.bool true,.int .i64 pos,.int .i32 (c:Int)]) (w.iter s (pos+k)):=fun ty=>by
    have:=run_next_any (P:=Tryz.prog) w s pos ty hp
    rw [hdc] at this
    exact this
   have HH:=aH (aI hp (aI hpos (aI hok (aI hk hgood))))
   clear hdc hp hpos hok hk hgood hne
   by_cases g1:48≤c
   ·by_cases g2:c≤57
    ·have k1:(48:Int)≤c:=by omega
     have k2:(c:Int)≤57:=by omega
     have G:=aH (show dig c=true by simp [dig,g1,g2])
     clear g1 g2
     go_wp2
     go_roundw
     case rel =>
      obtain ⟨hp,hpos,hok,hk,hg,_⟩:=HH.out
      obtain ⟨g1,rfl⟩:=hg G.out
      refine ⟨pos+1,rfl,hp,fun j hj hjp=>?_⟩
      by_cases hjj:j=pos
      ·subst hjj;exact g1 hj
      ·exact hok j hj (by omega)
     case measure =>
      have:=HH.out.1
      have:=HH.out.2.2.2.1
      simp
      omega
    ·have k1:(48:Int)≤c:=by omega
     have k2:(57:Int)<c:=by omega
     have G:=aH (show dig c=false by simp [dig];omega)
     clear g1 g2
     go_wp2
     go_ret
     obtain ⟨hp,_,_,_,_,hg⟩:=HH.out
     exact ⟨by rw [lN hp (dig_bad (hg G.out hp))];rfl,eE _ _ _⟩
   ·have k1:(c:Int)<48:=by omega
    have G:=aH (show dig c=false by simp [dig];omega)
    clear g1
    go_wp2
    go_ret
    obtain ⟨hp,_,_,_,_,hg⟩:=HH.out
    exact ⟨by rw [lN hp (dig_bad (hg G.out hp))];rfl,eE _ _ _⟩
  ·have hnx:∀ ty,(Instr.next (.pointer (some ⟨w.heap.size,0,none⟩)) true ty).run Tryz.prog (w.iter s pos)=_:=fun ty=>run_next_end w s pos ty hp
   have H2:=aH (show bK s=true from digitsB_all fun j hj=>hok j hj (by omega))
   have H3:=aH hne
   clear hok hp hpos hne
   obtain ⟨b,hb⟩:∃ b,b=(!(s.toList==(⟨#[]⟩:ByteArray).toList)):=⟨_,rfl⟩
   go_wp2
   go_ret
   refine ⟨?_,eE _ _ _⟩
   have e:=H3.out
   rw [H2.out,Bool.true_and,← e]
   simp
end
namespace Ab
open Go.RowKit Pl
theorem cA {s:ByteArray} {b:Bool} (h:(bK s&&decide (s.size≠0))=b):jF 96 [tx s] (bl b):=by
 intro β w vs hv
 obtain ⟨v,rfl,h1⟩:=cL hv
 rw [aJ h1]
 exact (isDigits_all s w).mono fun e w' ⟨e1,e2⟩=>⟨_,e1,e2,by rw [h];exact aV rfl⟩
theorem bI {s:ByteArray} {b:Bool} (h:decF s=b):jF 90 [tx s] (bl b):=by
 by_cases h0:(bK s&&decide (s.size≠0))=false
 ·have:b=false:=by
   rw [← h]
   unfold decF
   split
   ·rfl
   ·rename_i hz
    split
    ·rfl
    ·rw [decide_eq_true hz,Bool.and_true] at h0
     exact h0
  subst this
  refine jG Tryz.func90 fun w00=>?_
  refine jC 96 [tx s] (cA h0) ?_
  exact jR Tryz.func90
 rw [Bool.not_eq_false] at h0
 obtain ⟨h1,h2⟩:=Bool.and_eq_true_iff.1 h0
 have h2:s.size≠0:=of_decide_eq_true h2
 have hp:0<s.size:=by omega
 obtain ⟨c,hc⟩:∃ c,s[0]?=some c:=⟨_,getElem?_pos s 0 hp⟩
 have hh:(aC s).head?=some c:=by
  rw [List.head?_eq_getElem?,bY hp,← hc,getElem?_pos s 0 hp]
 unfold decF at h
 rw [if_neg h2,hh,h1] at h
 by_cases e:c=48
 ·have q1:(((c.toNat:Nat):Int) != 48)=false:=by rw [e];rfl
  have q2:(((s.size:Nat):Int)==1)=b:=by
   rw [← h,e]
   by_cases g:1<s.size
   ·rw [if_pos ⟨g,rfl⟩,beq_eq_false_iff_ne];omega
   ·rw [if_neg (fun k=>g k.1),beq_iff_eq];omega
  refine jG Tryz.func90 fun w00=>?_
  refine jC 96 [tx s] (cA h0) ?_
  refine jK (.index 9 (.tmp 6) (.const (.int .i64 0))) (.tmp 6) (.const (.int .i64 0)) (tx s) (it 0) (.fv (.sc (isB c.toNat))) (fun ρ o β w ho hx hy=>⟨_,fA (i:=0) ho Tryz.underlying9 (aJ hx) (aK hy) hc,aQ⟩) ?_
  refine jK (.binOp .neq 5 (.tmp 7) (.const (.int .u8 48)) 5) (.tmp 7) (.const (.int .u8 48)) (.fv (.sc (isB c.toNat))) (.fv (.sc (.lit (.int .u8 48)))) (bl false) (fun ρ o β w ho hx hy=>⟨_,nH ho (aJ hx) (aK hy) q1,aV rfl⟩) ?_
  refine jO 10 s ?_
  refine jK (.binOp .eql 3 (.tmp 11) (.const (.int .i64 1)) 3) (.tmp 11) (.const (.int .i64 1)) (.fv (.sc (eC s.size))) (it 1) (bl b) (fun ρ o β w ho hx hy=>⟨_,intEq_run ho (aJ hx) (aK hy) q2,aV rfl⟩) ?_
  exact jR Tryz.func90
 ·have q1:(((c.toNat:Nat):Int) != 48)=true:=by
   rw [bne_iff_ne]
   intro k
   exact e (UInt8.toNat_inj.1 (by have:(48:UInt8).toNat=48:=rfl;omega))
  rw [if_neg (fun k=>e (by injection k.2))] at h
  subst h
  refine jG Tryz.func90 fun w00=>?_
  refine jC 96 [tx s] (cA h0) ?_
  refine jK (.index 9 (.tmp 6) (.const (.int .i64 0))) (.tmp 6) (.const (.int .i64 0)) (tx s) (it 0) (.fv (.sc (isB c.toNat))) (fun ρ o β w ho hx hy=>⟨_,fA (i:=0) ho Tryz.underlying9 (aJ hx) (aK hy) hc,aQ⟩) ?_
  refine jK (.binOp .neq 5 (.tmp 7) (.const (.int .u8 48)) 5) (.tmp 7) (.const (.int .u8 48)) (.fv (.sc (isB c.toNat))) (.fv (.sc (.lit (.int .u8 48)))) (bl true) (fun ρ o β w ho hx hy=>⟨_,nH ho (aJ hx) (aK hy) q1,aV rfl⟩) ?_
  exact jR Tryz.func90
end Ab
namespace Ab
open Go.RowKit Pl
theorem cutPrefixNo {s:ByteArray} (h:Lib.hasPrefix s.data.toList [45]=false):jF 33 [tx s,lt ⟨#[45]⟩] (.tup [.sc (eJ s),.sc (.lit (.bool false))]):=by
 intro β w vs hv
 obtain ⟨v,u,rfl,h1,h2⟩:=dQ hv
 rw [aJ h1,aK h2]
 have es:(⟨(Lib.trimPrefix s.data.toList [45]).toArray⟩:ByteArray)=s:=ba_ext (by unfold Lib.trimPrefix;rw [h];simp)
 refine (Tryz.strings_CutPrefix s ⟨#[45]⟩ w).mono fun e w' ⟨e1,e2⟩=>⟨_,e1,by rw [e2];exact aB _ _,?_⟩
 rw [show (⟨#[45]⟩:ByteArray).data.toList = [45] from rfl,es,h]
 exact ⟨[.string s,.bool false],rfl,_,_,rfl,aQ (β:=β),_,_,rfl,⟨rfl,rfl⟩,rfl⟩
theorem ascii_two:∀ (j:Nat) (b:UInt8),(⟨#[47,46]⟩:ByteArray).data.toList[j]?=some b→b.toNat<128:=by
 intro j b h
 have:=List.mem_of_getElem? h
 simp at this
 rcases this with rfl|rfl <;> decide
theorem indexAnyF {s:ByteArray} {k:Int} (hs:s.size<4294967281) (ha:∀ (j:Nat) (b:UInt8),s.data.toList[j]?=some b→b.toNat<128) (h:Lib.indexAny s.data.toList [47,46]=k):jF 95 [tx s,lt ⟨#[47,46]⟩] (.fv (.sc (eC k))):=by
 intro β w vs hv
 obtain ⟨v,u,rfl,h1,h2⟩:=dQ hv
 rw [aJ h1,aK h2]
 refine (Tryz.strings_IndexAny_laid s ⟨#[47,46]⟩ w hs (by decide) ha ascii_two).mono fun e w' ⟨e1,e2⟩=>⟨_,e1,e2,?_⟩
 rw [show (⟨#[47,46]⟩:ByteArray).data.toList = [47,46] from rfl,h]
 exact aQ
theorem repeatF {c:Nat} {z:ByteArray} (h2:2≤c) (hc:c≤100000) (hz:(⟨(Lib.repeatL [48] c).toArray⟩:ByteArray)=z):jF 97 [lt ⟨#[48]⟩,.fv (.sc (eC c))] (tx z):=by
 intro β w vs hv
 obtain ⟨v,u,rfl,h1,h3⟩:=dQ hv
 rw [aK h1,aJ h3]
 have hsz:(⟨#[48]⟩:ByteArray).size=1:=rfl
 refine (Tryz.strings_Repeat_main ⟨#[48]⟩ c w h2 (by omega) (by rw [hsz];omega) (by rw [hsz];omega)).mono fun e w' ⟨e1,e2⟩=>⟨_,e1,e2,?_⟩
 rw [show (⟨#[48]⟩:ByteArray).data.toList = [48] from rfl,hz]
 exact aQ
section
variable {s a b z:ByteArray} {k:Nat}
theorem partsDot (hi:jF 95 [tx s,lt ⟨#[47,46]⟩] (.fv (.sc (eC k)))) (hk:k<s.size) (hs:s.size≤10000) (ha:s.extract 0 k=a) (hb:s.extract (k+1) s.size=b) (da:AllDig (aC a)) (da0:0<a.size) (db:AllDig (aC b)) (db0:0<b.size)
 (hdot:s[k]?=some 46) (hr:jF 97 [lt ⟨#[48]⟩,.fv (.sc (eC b.size))] (tx z)) (hz:z.size≤10000):jF 34 [tx s] (.tup [.sc (eJ (a++b)),.sc (eJ (⟨#[49]⟩++z)),.sc z0]):=by
 have hasz:a.size≤s.size:=by rw [← ha,ByteArray.size_extract];omega
 have hbsz:b.size≤s.size:=by rw [← hb,ByteArray.size_extract];omega
 refine jG Tryz.func34 fun w00=>?_
 refine jC 95 [tx s,lt ⟨#[47,46]⟩] (hi) ?_
 refine jK (.binOp .lss 3 (.tmp 10) (.const (.int .i64 0)) 3) (.tmp 10) (.const (.int .i64 0)) (.fv (.sc (eC k))) (it 0) (bl false) (fun ρ o β w ho hx hy=>⟨_,kG ho (aJ hx) (aK hy) (by rw [decide_eq_false_iff_not];omega),aV rfl⟩) ?_
 refine jK (.slice 9 (.tmp 16) none (some (.tmp 17)) none) (.tmp 16) (.tmp 17) (tx s) (.fv (.sc (eC k))) (tx a) (fun ρ o β w ho hx hy=>?_) ?_
 ·have:=fU (w:=w) ho Tryz.underlying9 (aJ hx) (aJ hy) (by omega)
  rw [ha] at this
  exact ⟨_,this,aQ⟩
 refine jK (.binOp .add 3 (.tmp 20) (.const (.int .i64 1)) 3) (.tmp 20) (.const (.int .i64 1)) (.fv (.sc (eC k))) (it 1) (.fv (.sc (eC ((k+1:Nat):Int)))) (fun ρ o β w ho hx hy=>⟨_,iC ho (aJ hx) (aK hy) (by omega),aQ⟩) ?_
 refine jK (.slice 9 (.tmp 19) (some (.tmp 21)) none none) (.tmp 19) (.tmp 21) (tx s) (.fv (.sc (eC ((k+1:Nat):Int)))) (tx b) (fun ρ o β w ho hx hy=>?_) ?_
 ·have:=fV (w:=w) ho Tryz.underlying9 (aJ hx) (aJ hy) (by omega)
  rw [hb] at this
  exact ⟨_,this,aQ⟩
 refine jC 96 [tx a] (pI da da0) ?_
 refine jC 96 [tx b] (pI db db0) ?_
 refine jK (.index 9 (.tmp 33) (.tmp 34)) (.tmp 33) (.tmp 34) (tx s) (.fv (.sc (eC k))) (.fv (.sc (.lit (.int .u8 46)))) (fun ρ o β w ho hx hy=>⟨_,fA ho Tryz.underlying9 (aJ hx) (aJ hy) hdot,aV rfl⟩) ?_
 refine jK (.binOp .add 9 (.tmp 37) (.tmp 38) 9) (.tmp 37) (.tmp 38) (tx a) (tx b) (tx (a++b)) (fun ρ o β w ho hx hy=>⟨_,dN ho (aJ hx) (aJ hy) (by omega),aQ⟩) ?_
 refine jO 40 b ?_
 refine jC 97 [lt ⟨#[48]⟩,.fv (.sc (eC b.size))] (hr) ?_
 refine jK (.binOp .add 9 (.const (.string ⟨#[49]⟩)) (.tmp 42) 9) (.const (.string ⟨#[49]⟩)) (.tmp 42) (lt ⟨#[49]⟩) (tx z) (tx (⟨#[49]⟩++z)) (fun ρ o β w ho hx hy=>⟨_,dN ho (aK hx) (aJ hy) (by have:(⟨#[49]⟩:ByteArray).size=1:=rfl;omega),aQ⟩) ?_
 exact jR Tryz.func34
theorem parseF' {n d:Nat} (hs:s.size≤4096) (hp:Lib.hasPrefix s.data.toList [45]=false) (hpt:jF 34 [tx s] (.tup [.sc (eJ (decB n)),.sc (eJ (decB d)),.sc z0])) (hn:(decB n).size≤100000) (hd:(decB d).size≤100000) (ln:Lv 40 n) (ld:Lv 40 d) (d0:0<d)
 (lq:Lf 20 (mkRat (sg false n) d)) (w1:(decB (mkRat (sg false n) d).num.natAbs).size≤600) (w2:(decB (mkRat (sg false n) d).den).size≤600):jX 9 [tx s] (.tup [.sc (eJ (writeB (mkRat (sg false n) d))),.sc z0]):=by
 refine jY Tryz.func9 fun w00 hI=>?_
 refine jO 9 s ?_
 refine jM 10 s.size 4096 false (by rw [decide_eq_false_iff_not];omega) ?_
 refine jC 33 [tx s,lt ⟨#[45]⟩] (cutPrefixNo hp) ?_
 refine jC 34 [tx s] (hpt) ?_
 refine jC 36 [tx (decB n)] (bZ hn) ?_
 refine jC 36 [tx (decB d)] (bZ hd) ?_
 refine jC 35 [bl false,nt n,nt d] (lW ln ld d0) ?_
 refine jC 37 [fra (mkRat (sg false n) d)] (gV) ?_
 refine jW hI 38 [num (mkRat (sg false n) d)] (oO lq w1 w2) ?_
 exact jR Tryz.func9
end
end Ab
section
open Go.RowKit Pl
theorem enc_two {r:Nat} (h:128≤r) (h2:r<2048):Utf8.encode (r:Int)=⟨#[UInt8.ofNat (192+r/64),UInt8.ofNat (128+r%64)]⟩:=by
 have hv:Utf8.valid (r:Int)=true:=by simp [Utf8.valid];omega
 unfold Utf8.encode
 simp only [hv,if_true]
 rw [show (r:Int).toNat=r from rfl,if_neg (by omega),if_pos (by omega)]
theorem enc_more {r:Nat} (h:2048≤r):3≤(Utf8.encode (r:Int)).size∧(Utf8.encode (r:Int)).size≤4:=by
 have hc:2048≤(if Utf8.valid (r:Int)=true then (r:Int).toNat else Utf8.runeError):=by
  split
  ·exact h
  ·show 2048≤65533
   omega
 unfold Utf8.encode
 simp only
 generalize (if Utf8.valid (r:Int)=true then (r:Int).toNat else Utf8.runeError)=c at hc
 rw [if_neg (by omega),if_neg (by omega)]
 split
 ·exact ⟨aR 3,(by decide:3≤4)⟩
 ·exact ⟨(by decide:3≤4),aR 4⟩
set_option maxRecDepth 1000000 in
theorem zB (cs:ByteArray) (w:World) (hc:∀ (i:Nat) (hi:i<cs.size),∃ x:Nat,(cs[i]'hi).toNat=x∧x<128):Calls Tryz.prog 154 #[.string cs,.int .i32 65533] w fun e w'=>e = .returned (.int .i64 (-1))∧Below w.heap.size w w':=by
 go_enter Tryz.func154,Tryz.ntmps154
 have HC:=aH hc
 clear hc
 go_wp2
 go_loopg [5,6] cs.size (fun g _ _ wx => ∃ i:Nat,i+g=cs.size∧wx=w.iter cs i)
 case atStart=>exact ⟨0,by omega,rfl⟩
 case round =>
  obtain ⟨i,hig,rfl⟩:=hrel
  cases gk with
  | zero =>
    obtain rfl:i=cs.size:=by omega
    have hnx:=fun ty=>run_next_end (P:=Tryz.prog) w cs cs.size ty (Nat.lt_irrefl _)
    go_wp2
    go_ret
    exact ⟨rfl,eE _ _ _⟩
  | succ g =>
    have hi:i<cs.size:=by omega
    obtain ⟨x,hx,hl⟩:=HC.out i hi
    have hnx:=fun ty=>run_next_ascii (P:=Tryz.prog) w cs i ty hi (by rw [hx];exact hl)
    rw [hx] at hnx
    have kx:((x:Int)==65533)=false:=by simp;omega
    clear hx hl
    go_wp2
    go_roundg g
    case measure=>omega
    case rel=>exact ⟨i+1,by omega,rfl⟩
theorem conv_rune (r:Int) (w:World):(convert 21 9 (.int .i32 r)).run Tryz.prog w = .ok (.string (Utf8.encode r)) w:=run_convert_int_string w _ _ .i32 r (by kernel_rfl) (by kernel_rfl)
theorem at_one (a b:UInt8) (w:World):(Instr.index 9 (.string ⟨#[a,b]⟩) (.int .i64 1)).run Tryz.prog w = .ok (.int .u8 b.toNat) w:=by
 simp [Instr.index,asIntOf,Sem.run_bind,run_underlying Tryz.underlying9,Result.andThen]
 rfl
theorem tail_two (a b:UInt8) (w:World):(Instr.slice 9 (.string ⟨#[a,b]⟩) (some (.int .i64 2)) none none).run Tryz.prog w = .ok (.string ⟨#[]⟩) w:=by
 have hsz:(⟨#[a,b]⟩:ByteArray).size=2:=rfl
 simp [Instr.slice,run_underlying Tryz.underlying9,Instr.sliceBounds,run_sliceBound,hsz]
 rfl
section
variable {r:Nat} {w:World} (h:128≤r) (hm:r≤2147483647) (he:r≠65533) (hb:Lib.validRune (r:Int)=true)
include h hm he hb
set_option maxRecDepth 1000000 in
theorem zC {x y:UInt8} (hen:Utf8.encode (r:Int)=⟨#[x,y]⟩) (hy2:128≤y.toNat):Calls Tryz.prog 154 #[.string ⟨#[47,46]⟩,.int .i32 (r:Int)] w fun e w'=>e = .returned (.int .i64 (-1))∧Below w.heap.size w w':=by
 have k1:(0:Int)≤r:=by omega
 have k2:¬ (r:Int)<128:=by omega
 have k3:((r:Int)==65533)=false:=by simp;omega
 have ky:((46:Int)==(y.toNat:Int))=false:=by simp;omega
 have hcv:=conv_rune r
 rw [hen] at hcv
 have f1:=at_one 47 46
 have f2:=at_one x y
 have f3:=tail_two 47 46
 have kn:Lib.indexByte ([]:List UInt8) y<0:=by show (-1:Int)<0;decide
 have HH:=aH (aI hm (aI he (aI hen hy2)))
 clear hm he hen hy2 h
 go_enter Tryz.func154,Tryz.ntmps154
 go_wp2_with fail
 refine (Tryz.utf8_ValidRune _ _).mono ?_
 rintro e w' ⟨rfl,rfl⟩
 rw [hb]
 go_wp2
 go_step3
 go_wp2
 refine wp_loop_rounds 1 ?_
 rw [rounds_succ]
 go_wp2
 go_step3
 go_wp2
 go_region
 go_wp2
 go_region_with (go_at_call 198;refine (Tryz.strings_IndexByte _ _ _).mono ?_;rintro e w' ⟨rfl,hw⟩;rw [hw])
 go_wp2
 all_goals
  rw [Exit.noGoto_ret]
  simp only [Exit.inBlock,Exit.then]
  rw [Exit.noGoto_ret]
  go_ret
  exact ⟨rfl,(aB _ _).drew.drew⟩
set_option maxRecDepth 1000000 in
theorem yF (h2:2048≤r):Calls Tryz.prog 154 #[.string ⟨#[47,46]⟩,.int .i32 (r:Int)] w fun e w'=>e = .returned (.int .i64 (-1))∧Below w.heap.size w w':=by
 have k1:(0:Int)≤r:=by omega
 have k2:¬ (r:Int)<128:=by omega
 have k3:((r:Int)==65533)=false:=by simp;omega
 have hcv:=conv_rune r
 obtain ⟨en,hen⟩:∃ en:ByteArray,Utf8.encode (r:Int)=en:=⟨_,rfl⟩
 obtain ⟨h3,h4⟩:3≤en.size∧en.size≤4:=by rw [← hen];exact enc_more (by omega)
 rw [hen] at hcv
 obtain ⟨m,hm2⟩:∃ m:Nat,m+1=en.size:=⟨en.size-1,by omega⟩
 have kw:wrap64 ((en.size:Int)-1)=(m:Int):=by rw [← hm2,wrap64];omega
 have kl:¬ (m:Int)<2:=by omega
 have HH:=aH (aI hm (aI he (aI hen (aI h3 (aI h4 (aI h2 hm2))))))
 clear hm he hen h3 h4 h2 hm2 h
 go_enter Tryz.func154,Tryz.ntmps154
 go_wp2_with fail
 refine (Tryz.utf8_ValidRune _ _).mono ?_
 rintro e w' ⟨rfl,rfl⟩
 rw [hb]
 go_wp2
 go_step3
 go_wp2
 refine wp_loop_rounds 1 ?_
 rw [rounds_succ]
 go_wp2
 rw [Exit.noGoto_ret]
 go_ret
 exact ⟨rfl,aB _ _⟩
end
set_option maxRecDepth 1000000 in
theorem zD {r:Nat} {w:World} (h:128≤r) (he:r≠65533) (hb:Lib.validRune (r:Int)=false):Calls Tryz.prog 154 #[.string ⟨#[47,46]⟩,.int .i32 (r:Int)] w fun e w'=>e = .returned (.int .i64 (-1))∧Below w.heap.size w w':=by
 have k1:(0:Int)≤r:=by omega
 have k2:¬ (r:Int)<128:=by omega
 have k3:((r:Int)==65533)=false:=by simp;omega
 clear he h
 go_enter Tryz.func154,Tryz.ntmps154
 go_wp2_with fail
 refine (Tryz.utf8_ValidRune _ _).mono ?_
 rintro e w' ⟨rfl,rfl⟩
 rw [hb]
 go_wp2
 go_ret
 exact ⟨rfl,aB _ _⟩
theorem chars_small (i:Nat) (hi:i<(⟨#[47,46]⟩:ByteArray).size):∃ x:Nat,((⟨#[47,46]⟩:ByteArray)[i]'hi).toNat=x∧x<128:=by
 have:i=0∨i=1:=by have:i<2:=hi;omega
 rcases this with rfl|rfl
 ·exact ⟨47,rfl,by omega⟩
 ·exact ⟨46,rfl,by omega⟩
theorem yG (r:Nat) (w:World) (h:128≤r) (hm:r≤2147483647):Calls Tryz.prog 154 #[.string ⟨#[47,46]⟩,.int .i32 (r:Int)] w fun e w'=>e = .returned (.int .i64 (-1))∧Below w.heap.size w w':=by
 by_cases he:r=65533
 ·subst he
  exact zB _ w chars_small
 cases hb:Lib.validRune (r:Int) with
 | false=>exact zD h he hb
 | true =>
   by_cases h2:r<2048
   ·refine zC h hm he hb (enc_two h h2) ?_
    simp
    omega
   ·exact yF h hm he hb (by omega)
theorem decode_cont (s:ByteArray) (pos d:Nat) (h1:0<d) (h2:d<(Utf8.decode s pos).2):pos+d<s.size∧128≤(s.get! (pos+d)).toNat:=by
 simp only [Utf8.decode] at h2
 repeat' split at h2
 all_goals first
  | (simp at h2;omega)
  | (have hd:d=1∨d=2∨d=3:=by simp at h2;omega
     rcases hd with rfl|rfl|rfl <;> simp_all <;> omega)
def World.at' (w:World) (k:Nat) (s:ByteArray) (p:Nat):World := { w with heap:=w.heap.setIfInBounds k (.stringIter s p) }
theorem next_at {P:Program} {w:World} {s:ByteArray} {pos k:Nat} (ty:TypeId) (hk:w.heap[k]?=some (.stringIter s pos)) (h:pos<s.size) :
 (Instr.next (.pointer (some ⟨k,0,none⟩)) true ty).run P w = .ok (.tuple #[.bool true,.int .i64 pos,.int .i32 (Utf8.decode s pos).1]) (World.at' w k s (pos+(Utf8.decode s pos).2)):=by
 simp only [Instr.next,getObj,setObj,Sem.run_bind,Sem.run,hk,Result.andThen,h,if_true]
 simp [goInt,World.at']
theorem next_no {P:Program} {w:World} {s:ByteArray} {pos k:Nat} (ty:TypeId) (hk:w.heap[k]?=some (.stringIter s pos)) (h:¬ pos<s.size) :
 (Instr.next (.pointer (some ⟨k,0,none⟩)) true ty).run P w = .ok (.tuple #[.bool false]) w:=by
 simp [Instr.next,getObj,Sem.run,hk,h]
theorem at_heap {w:World} {k:Nat} {s:ByteArray} {p:Nat} (h:k<w.heap.size):(World.at' w k s p).heap[k]?=some (.stringIter s p):=by
 simp [World.at',h]
theorem at_below {w w0:World} {k:Nat} {s:ByteArray} {p:Nat} (h:Below k w0 w):Below k w0 (World.at' w k s p) :=
 ⟨h.os,h.tape,h.output,by simp [World.at'];exact h.size,fun i hi=>by rw [← h.block i hi];simp [World.at',Array.getElem?_setIfInBounds];omega⟩
theorem far {b:UInt8} (h:128≤b.toNat):([47,46]:List UInt8).contains b=false:=by
 rw [Bool.eq_false_iff]
 intro e
 have:b=47∨b=46:=by simpa using e
 rcases this with rfl|rfl <;> exact absurd h (by decide)
theorem high_step {s:ByteArray} {pos c k:Nat} (hp:pos<s.size) (hc:(Utf8.decode s pos).1=c) (hd:(Utf8.decode s pos).2=k) (hi:¬ c<128) (hno:Lib.NoAny s.data.toList [47,46] pos) :
 pos+k≤s.size∧1≤k∧Lib.NoAny s.data.toList [47,46] (pos+k):=by
 have hb:128≤(s[pos]'hp).toNat:=by
  by_cases h:(s[pos]'hp).toNat<128
  ·rw [decode_ascii s pos hp h] at hc
   simp at hc
   omega
  ·omega
 have hk:1≤k:=by rw [← hd];exact (decode_high s pos hp hb).2
 have hcont:=fun d h1 h2=>decode_cont s pos d h1 (by rw [hd];exact h2)
 refine ⟨?_,hk,fun j b hj hjb=>?_⟩
 ·by_cases h1:k=1
  ·omega
  ·have:=(hcont (k-1) (by omega) (by omega)).1
   omega
 ·by_cases h1:j<pos
  ·exact hno j b h1 hjb
  ·have hjs:j<s.size:=by
    by_cases h2:j=pos
    ·omega
    ·have:=(hcont (j-pos) (by omega) (by omega)).1
     omega
   have e:=Lib.data_getElem? s j hjs
   rw [hjb] at e
   injection e with e
   apply far
   rw [e]
   by_cases h2:j=pos
   ·subst h2;exact hb
   ·have:=(hcont (j-pos) (by omega) (by omega)).2
    rw [show pos+(j-pos)=j by omega,show j=j+0 from rfl,get_at s j hjs] at this
    exact this
theorem low_step {s:ByteArray} {pos c k:Nat} (hp:pos<s.size) (hc:(Utf8.decode s pos).1=c) (hd:(Utf8.decode s pos).2=k) (hi:c<128) :
 ∃ x:UInt8,s.data.toList[pos]?=some x∧c=x.toNat∧k=1:=by
 have h:(s[pos]'hp).toNat<128:=by
  by_cases h:(s[pos]'hp).toNat<128
  ·exact h
  ·have:=(decode_high s pos hp (by omega)).1
   omega
 rw [decode_ascii s pos hp h] at hc hd
 exact ⟨_,Lib.data_getElem? s pos hp,hc.symm,hd.symm⟩
theorem yH (s:ByteArray) (w:World) (h8:s.size≤8):Calls Tryz.prog 95 #[.string s,.string ⟨#[47,46]⟩] w fun e w'=>e = .returned (.int .i64 (Lib.indexAny s.data.toList [47,46]))∧Below w.heap.size w w':=by
 have h8z:decide ((8:Int)<(s.size:Int))=false:=decide_eq_false (by omega)
 have hcs:(⟨#[47,46]⟩:ByteArray).size=2:=rfl
 go_enter Tryz.func95,Tryz.ntmps95
 go_wp2_with fail
 refine (Tryz.strings_shouldUseASCIISet _ _).mono ?_
 rintro e w' ⟨rfl,hw⟩
 rw [hw,h8z]
 clear hw w'
 go_wp2
 have HC:=aH (aI h8 hcs)
 clear h8 h8z hcs
 go_loopw [9,10] (fun _ _ wr => ∃ pos:Nat,wr.heap[w.heap.size]?=some (.stringIter s pos)∧Below w.heap.size w wr∧Hid (w.heap.size<wr.heap.size∧pos≤s.size∧Lib.NoAny s.data.toList [47,46] pos)) (fun _ _ wr=>s.size-wr.iterPos w.heap.size)
 case atStart=>exact ⟨0,World.iter_heap _ _ _,eE _ _ _,by show w.heap.size<(w.heap.push _).size;rw [Array.size_push];omega,Nat.zero_le _,Lib.NoAny.zero _ _⟩
 case round =>
  obtain ⟨pos,hk,hB,hH⟩:=hrel
  by_cases hp:pos<s.size
  ·have hnx:=fun ty=>next_at (P:=Tryz.prog) ty hk hp
   obtain ⟨c,hc⟩:∃ c:Nat,(Utf8.decode s pos).1=c:=⟨_,rfl⟩
   obtain ⟨k,hd⟩:∃ k:Nat,(Utf8.decode s pos).2=k:=⟨_,rfl⟩
   rw [hc,hd] at hnx
   obtain ⟨w1,hw1⟩:∃ w1:World,World.at' wr w.heap.size s (pos+k)=w1:=⟨_,rfl⟩
   rw [hw1] at hnx
   have hk1:w1.heap[w.heap.size]?=some (.stringIter s (pos+k)):=by rw [← hw1];exact at_heap hH.out.1
   have hB1:Below w.heap.size w w1:=by rw [← hw1];exact at_below hB
   have hs1:w.heap.size<w1.heap.size:=by rw [← hw1];simp [World.at'];exact hH.out.1
   have HA:=aH (aI hp (aI hc (aI hd (aI hk1 (aI hB1 (aI hs1 hH))))))
   have HK:=aH hk
   clear hp hc hd hk1 hB1 hs1 hH hk hB hw1
   by_cases hi:c<128
   ·obtain ⟨x,hx,rfl,rfl⟩:=low_step HA.out.1 HA.out.2.1 HA.out.2.2.1 hi
    have Hx:=aH hx
    clear hx
    have hcon:=Lib.contains_iff_indexByte [47,46] x
    have hback:((x.toNat:Int)).toNat.toUInt8=x:=by simp
    cases hin:([47,46]:List UInt8).contains x with
    | false =>
      rw [hin] at hcon
      have hlt:¬ ((0:Int)≤Lib.indexByte [47,46] x):=of_decide_eq_false hcon.symm
      have Hin:=aH hin
      clear hcon hin
      go_wp2_with fail
      refine (Tryz.strings_IndexRune_ascii _ _ _ (by omega) (by omega)).mono ?_
      rintro e w2 ⟨rfl,rfl⟩
      rw [hback]
      go_wp2
      go_roundw
      case rel =>
       obtain ⟨hp,_,_,hk1,hB1,hs1,_,_,hno⟩:=HA.out
       exact ⟨pos+1,hk1,hB1,hs1,by omega,hno.succ Hx.out Hin.out⟩
      case measure =>
       have:=HA.out.1
       have e1:=HA.out.2.2.2.1
       simp only [World.iterPos,e1,HK.out]
       omega
    | true =>
      rw [hin] at hcon
      have hge:(0:Int)≤Lib.indexByte [47,46] x:=of_decide_eq_true hcon.symm
      have Hin:=aH hin
      clear hcon hin
      go_wp2_with fail
      refine (Tryz.strings_IndexRune_ascii _ _ _ (by omega) (by omega)).mono ?_
      rintro e w2 ⟨rfl,rfl⟩
      rw [hback]
      go_wp2
      go_ret
      obtain ⟨hp,_,_,hk1,hB1,hs1,_,_,hno⟩:=HA.out
      exact ⟨by rw [Lib.indexAny_hit hno Hx.out Hin.out];rfl,hB1⟩
   ·go_wp2_with fail
    refine (yG _ _ (by omega) (by rw [← HA.out.2.1];exact decode_le _ _)).mono ?_
    rintro e w2 ⟨rfl,hb2⟩
    have HB:=aH hb2
    clear hb2
    go_wp2
    go_roundw
    case rel =>
     obtain ⟨hp,hc,hd,hk1,hB1,hs1,_,_,hno⟩:=HA.out
     obtain ⟨h1,_,h3⟩:=high_step hp hc hd hi hno
     have hb2:=HB.out
     exact ⟨pos+k,by rw [hb2.block _ hs1];exact hk1,hB1.trans (hb2.mono (Nat.le_of_lt hs1)),Nat.lt_of_lt_of_le hs1 hb2.size,h1,h3⟩
    case measure =>
     obtain ⟨hp,hc,hd,hk1,hB1,hs1,_,_,hno⟩:=HA.out
     obtain ⟨h1,h2,h3⟩:=high_step hp hc hd hi hno
     have e1:=HB.out.block _ hs1
     rw [hk1] at e1
     simp only [World.iterPos,e1,HK.out]
     omega
  ·have hnx:=fun ty=>next_no (P:=Tryz.prog) ty hk hp
   have HA:=aH (aI hk (aI hB (aI hp hH)))
   clear hk hB hp hH
   go_wp2
   go_ret
   obtain ⟨hk,hB,hp,_,hle,hno⟩:=HA.out
   obtain rfl:pos=s.size:=by omega
   exact ⟨by rw [Lib.indexAny_none (by rw [← Lib.size_eq];exact hno)];rfl,hB⟩
end
section
open Go.RowKit Pl
def bD (s:ByteArray):Nat:=(aC s).findIdx (fun c=>c==47 || c==46)
theorem vH:∀ l:List UInt8,Lib.indexAny l [47,46]=if l.findIdx (fun c=>c==47 || c==46)<l.length then ((l.findIdx (fun c=>c==47 || c==46):Nat):Int) else -1
 | []=>rfl
 | b :: l=>by
   have e:([47,46]:List UInt8).contains b=(b==47 || b==46):=by simp only [List.contains_cons,List.contains_nil,Bool.or_false]
   unfold Lib.indexAny
   rw [vH l,List.findIdx_cons,e]
   cases hb:(b==47 || b==46) with
   | true=>simp
   | false =>
     simp only [Bool.false_eq_true,if_false,cond_false,List.length_cons]
     by_cases hl:l.findIdx (fun c=>c==47 || c==46)<l.length
     ·have:(((l.findIdx (fun c=>c==47 || c==46):Nat):Int) == -1)=false:=by rw [beq_eq_false_iff_ne];omega
      rw [if_pos hl,if_pos (show l.findIdx (fun c=>c==47 || c==46)+1<l.length+1 from Nat.succ_lt_succ hl),this]
      simp
     ·rw [if_neg hl,if_neg (show ¬ l.findIdx (fun c=>c==47 || c==46)+1<l.length+1 from fun h=>hl (Nat.lt_of_succ_lt_succ h))]
      rfl
theorem cM (s:ByteArray):bD s≤s.size:=by unfold bD;rw [← aE];exact List.findIdx_le_length
theorem pointB_at {s:ByteArray} {pos:Nat} (hp:pos<s.size) (h:(s[pos]'hp)=47∨(s[pos]'hp)=46) (hb:∀ (j:Nat) (hj:j<s.size),j<pos→(s[j]'hj)≠47∧(s[j]'hj)≠46):bD s=pos:=by
 unfold bD
 refine (List.findIdx_eq (by rw [aE];exact hp)).2 ⟨?_,fun j hj=>?_⟩
 ·have:=bY hp
  rw [List.getElem?_eq_getElem (by rw [aE];exact hp)] at this
  injection this with this
  rw [this]
  rcases h with h|h <;> rw [h] <;> rfl
 ·have hj2:j<s.size:=Nat.lt_trans hj hp
  have:=bY hj2
  rw [List.getElem?_eq_getElem (by rw [aE];exact hj2)] at this
  injection this with this
  rw [this]
  simpa using hb j hj2 hj
theorem pointB_none {s:ByteArray} (hb:∀ (j:Nat) (hj:j<s.size),(s[j]'hj)≠47∧(s[j]'hj)≠46):bD s=s.size:=by
 unfold bD
 rw [← aE,List.findIdx_eq_length]
 intro c hc
 obtain ⟨j,hj,e⟩:=List.mem_iff_getElem.1 hc
 have hj2:j<s.size:=by rw [← aE];exact hj
 have h1:=bY hj2
 rw [List.getElem?_eq_getElem hj,e] at h1
 injection h1 with h1
 rw [h1]
 simpa using hb j hj2
theorem pointB_get {s:ByteArray} (h:bD s<s.size):(s[bD s]'h)=47∨(s[bD s]'h)=46:=by
 have h2:bD s<(aC s).length:=by rw [aE];exact h
 have e:((aC s)[bD s]'h2==47 || (aC s)[bD s]'h2==46)=true:=List.findIdx_getElem (w:=h2)
 obtain ⟨_,e3⟩:=List.getElem?_eq_some_iff.1 (bY h)
 rw [e3] at e
 simpa using e
theorem point_any (s:ByteArray) (w:World) (hs:s.size≤9223372036854775807):Calls Tryz.prog 39 #[.string s] w fun e w'=>e = .returned (.int .i64 (bD s:Nat))∧w'=w:=by
 go_enter Tryz.func39,Tryz.ntmps39
 go_wp2
 go_loop [3] (fun v => ∃ pos:Nat,v = .int .i64 (pos:Int)∧pos≤s.size∧Hid (∀ (j:Nat) (hj:j<s.size),j<pos→(s[j]'hj)≠47∧(s[j]'hj)≠46)) (fun v=>s.size-(intOf v).toNat)
 case atStart=>exact ⟨0,rfl,Nat.zero_le _,fun j _ h=>absurd h (Nat.not_lt_zero _)⟩
 case round =>
  obtain ⟨pos,rfl,hpos,hok⟩:=hrel
  by_cases hp:pos<s.size
  ·have p1 : ((pos:Nat):Int)<s.size:=by omega
   obtain ⟨c,hc⟩:∃ c:Nat,(s[pos]'hp).toNat=c:=⟨_,rfl⟩
   by_cases h47:c=47
   ·have hres:bD s=pos:=pointB_at hp (.inl (by rw [h47] at hc;exact UInt8.toNat_inj.1 hc)) (fun j hj hlt=>hok.out j hj hlt)
    have HR:=aH hres
    have k1:((c:Int)==47)=true:=by rw [h47];rfl
    clear hres hok h47
    go_wp2
    go_ret
    exact ⟨by rw [HR.out];rfl,rfl⟩
   ·by_cases h46:c=46
    ·have hres:bD s=pos:=pointB_at hp (.inr (by rw [h46] at hc;exact UInt8.toNat_inj.1 hc)) (fun j hj hlt=>hok.out j hj hlt)
     have HR:=aH hres
     have k1:((c:Int)==47)=false:=by simp;omega
     have k2:((c:Int)==46)=true:=by rw [h46];rfl
     clear hres hok h47 h46
     go_wp2
     go_ret
     exact ⟨by rw [HR.out];rfl,rfl⟩
    ·have k1:((c:Int)==47)=false:=by simp;omega
     have k2:((c:Int)==46)=false:=by simp;omega
     have HR:=aH (show ∀ (j:Nat) (hj:j<s.size),j<pos+1→(s[j]'hj)≠47∧(s[j]'hj)≠46 from fun j hj hlt=>by
      by_cases hjj:j=pos
      ·subst hjj
       exact ⟨fun e=>by rw [e] at hc;exact h47 hc.symm,fun e=>by rw [e] at hc;exact h46 hc.symm⟩
      ·exact hok.out j hj (by omega))
     clear hok h47 h46
     have HP:=aH hp
     go_wp2
     first
      | (go_round;(case rel=>exact ⟨pos+1,by go_num,HP.out,HR.out⟩);(case measure=>(simp [intOf];omega)))
      | exact ⟨⟨pos+1,by simp,HP.out,HR.out⟩,by have:=HP.out;simp [intOf];omega⟩
  ·have hres:bD s=s.size:=pointB_none fun j hj=>hok.out j hj (by omega)
   have HR:=aH hres
   have p1:¬ (pos:Int)<s.size:=by omega
   clear hres hok
   go_wp2
   go_ret
   exact ⟨by rw [HR.out];rfl,rfl⟩
end
namespace Ab
open Go.RowKit Pl
theorem fH {s:ByteArray} {k:Int} (hs:s.size<4294967281) (h:Lib.indexAny s.data.toList [47,46]=k):jF 95 [tx s,lt ⟨#[47,46]⟩] (.fv (.sc (eC k))):=by
 intro β w vs hv
 obtain ⟨v,u,rfl,h1,h2⟩:=dQ hv
 rw [aJ h1,aK h2]
 by_cases h8:s.size≤8
 ·refine (yH s w h8).mono fun e w' ⟨e1,e2⟩=>⟨_,e1,e2,?_⟩
  rw [h]
  exact aQ
 ·refine (Tryz.strings_IndexAny_long (zero_of_info (n:=256) (by kernel_rfl)).1 s ⟨#[47,46]⟩ w (by decide) (by omega) hs (by decide) ascii_two).mono fun e w' ⟨e1,e2⟩=>⟨_,e1,?_,?_⟩
  ·rw [e2]
   exact ((aB _ _).alloc (aR _) _).alloc (by show w.heap.size≤(w.heap.push _).size;rw [Array.size_push];omega) _
  ·rw [show (⟨#[47,46]⟩:ByteArray).data.toList = [47,46] from rfl,h]
   exact aQ
theorem gF (s:ByteArray):Lib.indexAny s.data.toList [47,46]=if bD s<s.size then ((bD s:Nat):Int) else -1:=by
 rw [vH,Lib.size_eq]
 rfl
theorem gG {s:ByteArray} (hs:s.size≤9223372036854775807):jF 39 [rS s] (rI (bD s:Nat)):=by
 intro β w vs hv
 obtain ⟨v,rfl,h1⟩:=cL hv
 rw [bG h1]
 exact (point_any s w hs).mono fun e w' ⟨e1,e2⟩=>⟨_,e1,by rw [e2];exact aB _ _,dE⟩
end Ab
namespace Ab
open Go.RowKit Pl
theorem lP (q:Rat):aU (writeB q)=(aS q.num).size:=by
 by_cases h:q.den=1
 ·rw [mQ h,slash_one]
 ·rw [gJ h,slash_two]
theorem num_cut (q:Rat):(writeB q).extract 0 (aU (writeB q))=aS q.num:=by
 rw [lP]
 by_cases h:q.den=1
 ·rw [mQ h,ext_all]
 ·rw [gJ h,ext_lo]
theorem den_cut {q:Rat} (h:q.den≠1):(writeB q).extract (aU (writeB q)+1) (writeB q).size=decB q.den:=by
 rw [lP,gJ h]
 exact ext_hi _ _
theorem pU (q:Rat):(writeB q).size=(aS q.num).size+if q.den=1 then 0 else 1+(decB q.den).size:=by
 by_cases h:q.den=1
 ·rw [mQ h,if_pos h];rfl
 ·rw [gJ h,if_neg h,ByteArray.size_append,ByteArray.size_append,size47]
theorem numF {q:Rat} (hs:(writeB q).size≤1000000000):jF 120 [rS (writeB q)] (rS (aS q.num)):=by
 have hc:=num_cut q
 generalize writeB q=s at *
 refine jT Tryz.func120 fun w00=>?_
 refine jB 29 [rS s] (rJ (by omega)) ?_
 refine gK 3 5 26 Tryz.underlying26 s (aU s) (aS q.num) (mO _) hc ?_
 exact jS Tryz.func120
theorem denF1 {q:Rat} (hs:(writeB q).size≤1000000000) (h:q.den=1):jF 121 [rS (writeB q)] (rS (decB q.den)):=by
 have hl:=pU q
 have hk:=lP q
 rw [if_pos h] at hl
 have e:decB q.den=⟨#[49]⟩:=by rw [h,dec1]
 rw [e]
 generalize writeB q=s at *
 have key:jF 121 [rS s] (.fv (.sc (.lit (.string ⟨#[49]⟩)))):=by
  refine jT Tryz.func121 fun w00=>?_
  refine jB 29 [rS s] (rJ (by omega)) ?_
  refine aY 7 26 Tryz.underlying26 s ?_
  refine jL (.binOp .eql 3 (.tmp 6) (.tmp 8) 3) (.tmp 6) (.tmp 8) (rI (aU s:Nat)) (rI (s.size:Nat)) (rl true) (fun ρ o β w ho hx hy=>⟨.bool true,fL ho (bG hx) (bG hy) (by simp;omega),dU rfl⟩) ?_
  exact jS Tryz.func121
 exact rres key fun β v w h=>h.1
theorem denF2 {q:Rat} (hs:(writeB q).size≤1000000000) (h:q.den≠1):jF 121 [rS (writeB q)] (rS (decB q.den)):=by
 have hl:=pU q
 have hk:=lP q
 rw [if_neg h] at hl
 have hc:=den_cut h
 generalize decB q.den=d at *
 generalize writeB q=s at *
 refine jT Tryz.func121 fun w00=>?_
 refine jB 29 [rS s] (rJ (by omega)) ?_
 refine aY 7 26 Tryz.underlying26 s ?_
 refine jL (.binOp .eql 3 (.tmp 6) (.tmp 8) 3) (.tmp 6) (.tmp 8) (rI (aU s:Nat)) (rI (s.size:Nat)) (rl false) (fun ρ o β w ho hx hy=>⟨.bool false,fL ho (bG hx) (bG hy) (by simp;omega),dU rfl⟩) ?_
 refine fE 11 (aU s) (by omega) ?_
 refine kZ 10 12 26 Tryz.underlying26 s (aU s+1) d (by omega) hc ?_
 exact jS Tryz.func121
theorem denOfF {q:Rat} (hs:(writeB q).size≤1000000000):jF 121 [rS (writeB q)] (rS (decB q.den)):=by
 by_cases h:q.den=1
 ·exact denF1 hs h
 ·exact denF2 hs h
theorem dec0_ne {n:Nat} (h:n≠0):decB n≠zeroT:=fun e=>h (decB_inj (e.trans dec0.symm))
theorem body_ne_zero {q:Rat} (h:q.num≠0):bN q≠zeroT:=by
 by_cases hd:q.den=1
 ·rw [sY hd,dF]
  exact dec0_ne (by omega)
 ·intro e
  have hl:=body_len q
  rw [if_neg hd,e] at hl
  have:zeroT.size=1:=rfl
  have:=decB_pos q.num.natAbs
  omega
theorem qN {q:Rat} (h:q.num≠0):writeB q≠zeroT:=by
 by_cases hn:q.num<0
 ·obtain ⟨f1,⟨h0,hc⟩,f3,f4,f5⟩:=pP hn
  intro e
  have h1:=(strip_write q).1
  rw [e,decide_eq_true hn] at h1
  exact absurd h1 (by decide)
 ·rw [iL hn]
  exact body_ne_zero h
theorem signF0 {q:Rat} (h:q.num=0):jF 180 [rS (writeB q)] (.fv (.sc (.lit (.int .i64 0)))):=by
 have e:((writeB q).toList==(⟨#[48]⟩:ByteArray).toList)=true:=by
  have hd:q.den=1:=by have:=q.reduced;rw [h] at this;simpa using this
  rw [mQ hd,h]
  have:aS 0=zeroT:=by unfold aS;rw [if_neg (by omega)];exact dec0
  rw [this]
  exact beq_self_eq_true zeroT.toList
 generalize writeB q=s at *
 refine jT Tryz.func180 fun w00=>?_
 refine uE 3 26 s ⟨#[48]⟩ true e ?_
 exact jS Tryz.func180
theorem signFn {q:Rat} (h:q.num<0):jF 180 [rS (writeB q)] (.fv (.sc (.lit (.int .i64 (-1))))):=by
 have e:=eH (qN (q:=q) (by omega))
 obtain ⟨f1,hc,f3,f4,f5⟩:=pP h
 have h0:decide ((0:Int)<((writeB q).size:Nat))=true:=by rw [decide_eq_true_iff];omega
 generalize writeB q=s at *
 refine jT Tryz.func180 fun w00=>?_
 refine uE 3 26 s ⟨#[48]⟩ false e ?_
 refine aY 5 26 Tryz.underlying26 s ?_
 refine iD 6 0 (s.size:Nat) true h0 ?_
 refine ridnR 9 s hc ?_
 exact jS Tryz.func180
theorem signFp {q:Rat} (h:0<q.num):jF 180 [rS (writeB q)] (.fv (.sc (.lit (.int .i64 1)))):=by
 have e:=eH (qN (q:=q) (by omega))
 obtain ⟨c,hc,hc45⟩:=body_head q
 rw [← iL (by omega)] at hc
 have h0:decide ((0:Int)<((writeB q).size:Nat))=true:=by rw [decide_eq_true_iff];have:=hc.1;omega
 generalize writeB q=s at *
 refine jT Tryz.func180 fun w00=>?_
 refine uE 3 26 s ⟨#[48]⟩ false e ?_
 refine aY 5 26 Tryz.underlying26 s ?_
 refine iD 6 0 (s.size:Nat) true h0 ?_
 refine ridpR 9 s c hc ?_
 refine zA 10 c hc45 ?_
 exact jS Tryz.func180
theorem absFn {q:Rat} (h:q.num<0) (hs:(writeB q).size≤1000000000):jF 119 [rS (writeB q)] (rS (bN q)):=by
 have hg:=signFn h
 obtain ⟨f1,hc,f3,f4,f5⟩:=pP h
 generalize bN q=u at *
 generalize writeB q=s at *
 refine jT Tryz.func119 fun w00=>?_
 refine jB 180 [rS s] hg ?_
 refine rsl1 6 26 Tryz.underlying26 s u f1 f3 ?_
 exact jS Tryz.func119
theorem absFp {q:Rat} (h:¬ q.num<0):jF 119 [rS (writeB q)] (rS (bN q)):=by
 rw [← iL h]
 by_cases h0:q.num=0
 ·have hg:=signF0 h0
  generalize writeB q=s at *
  refine jT Tryz.func119 fun w00=>?_
  refine jB 180 [rS s] hg ?_
  exact jS Tryz.func119
 ·have hg:=signFp (q:=q) (by omega)
  generalize writeB q=s at *
  refine jT Tryz.func119 fun w00=>?_
  refine jB 180 [rS s] hg ?_
  exact jS Tryz.func119
theorem absOfF {q:Rat} (hs:(writeB q).size≤1000000000):jF 119 [rS (writeB q)] (rS (bN q)):=by
 by_cases h:q.num<0
 ·exact absFn h hs
 ·exact absFp h
theorem absTF {z:Int} (hs:(aS z).size≤1000000000):jF 119 [rS (aS z)] (rS (decB z.natAbs)):=by
 have h:=absOfF (q:=(z:Rat)) (by rw [← dO];exact hs)
 have e:bN (z:Rat)=decB z.natAbs:=by rw [sY rfl,dF];rfl
 rw [← dO,e] at h
 exact h
theorem tA (z:Int):(aS z).size≤(decB z.natAbs).size+1:=by
 unfold aS
 split
 ·rw [ByteArray.size_append,size45];omega
 ·omega
abbrev t3 (a b c:ByteArray):AV Kn := .fv (.ag [eJ a,eJ b,eJ c])
theorem zs_len {k:Nat} {q:Rat} (h:Zs k q):(writeB q).size≤2*k+4:=by
 have h1:=sL h.1
 have h2:=sL h.2
 have:=pU q
 have:=tA q.num
 split at * <;> omega
end Ab
section
open Go.RowKit Pl
end
namespace Ab
open Go.RowKit Pl
end Ab
namespace Fr
open Go.RowKit Go.Shelf
attribute [local go_sem] Oper.semAt_some
def axV (x1 x2 x3 y1 y2 y3 z1 z2 z3:ByteArray):Fin 3→Value
 | 0 => .agg #[.string x1,.string x2,.string x3]
 | 1 => .agg #[.string y1,.string y2,.string y3]
 | 2 => .agg #[.string z1,.string z2,.string z3]
def axE (x1 x2 x3 y1 y2 y3 z1 z2 z3:ByteArray) (i:Fin 3):Array Value := #[.int .i64 ((i.val:Nat):Int),axV x1 x2 x3 y1 y2 y3 z1 z2 z3 i]
theorem ix0 (w:World) (x1 x2 x3 y1 y2 y3 z1 z2 z3:ByteArray):(Sem.run Tryz.prog (Instr.index 227 (.agg #[.string x1,.string x2,.string x3,.string y1,.string y2,.string y3,.string z1,.string z2,.string z3]) (.int .i64 0)) w) = .ok (.agg #[.string x1,.string x2,.string x3]) w:=by
 kernel_rfl
theorem ix1 (w:World) (x1 x2 x3 y1 y2 y3 z1 z2 z3:ByteArray):(Sem.run Tryz.prog (Instr.index 227 (.agg #[.string x1,.string x2,.string x3,.string y1,.string y2,.string y3,.string z1,.string z2,.string z3]) (.int .i64 1)) w) = .ok (.agg #[.string y1,.string y2,.string y3]) w:=by
 kernel_rfl
theorem ix2 (w:World) (x1 x2 x3 y1 y2 y3 z1 z2 z3:ByteArray):(Sem.run Tryz.prog (Instr.index 227 (.agg #[.string x1,.string x2,.string x3,.string y1,.string y2,.string y3,.string z1,.string z2,.string z3]) (.int .i64 2)) w) = .ok (.agg #[.string z1,.string z2,.string z3]) w:=by
 kernel_rfl
set_option maxRecDepth 100000 in
theorem axes1_in (F:Fence) (n:Nat) (h8:F.fn 185) (hro:F.round=none) (hn:1≤n) (l Bf n₀:Nat) (o1 o2 o3 x1 x2 x3 y1 y2 y3 z1 z2 z3:ByteArray) (J Jx:List (Fin 3)→World→Prop)
 (hY:∀ pre x W,J pre W→pre.length<3→YieldAt F (n-1) Tryz.prog l (axE x1 x2 x3 y1 y2 y3 z1 z2 z3 x) W fun e W' =>
  (e = .returned (.bool true)∧J (pre ++ [x]) W'∧Below n₀ W W')∨(e = .returned (.bool false)∧Jx (pre ++ [x]) W'))
 (W:World) (hJ:AbidesFrom W.heap.size J) (hn0:n₀≤W.heap.size) (hB:W.heap[Bf]?=some (.cells #[.string o1,.string o2,.string o3,.string x1,.string x2,.string x3,.string y1,.string y2,.string y3,.string z1,.string z2,.string z3] 50 (0,0))) (h0:J [] W) :
 CallsIn F n Tryz.prog 185 #[.func (.yield l) #[] #[],.pointer (some ⟨Bf,0,none⟩)] W fun e W'=>(∃ v,e = .returned v) ∧
  ((∃ ys,ys = [0,1,2]∧J ys W')∨(∃ pre,True∧Jx pre W')):=by
 refine callsIn_of_wp Tryz.func185 rfl h8 ?_ hro
 simp only [Tryz.ntmps185,List.size_toArray,List.length_cons,List.length_nil,Nat.reduceAdd,Nat.reduceSub,Array.replicate_succ,Array.replicate_zero,List.push_toArray,List.append_toArray,List.nil_append,List.cons_append]
 have c3:W.cell? ⟨Bf,3,none⟩=some (.string x1):=by simp [World.cell?,hB]
 have c4:W.cell? ⟨Bf,4,none⟩=some (.string x2):=by simp [World.cell?,hB]
 have c5:W.cell? ⟨Bf,5,none⟩=some (.string x3):=by simp [World.cell?,hB]
 have c6:W.cell? ⟨Bf,6,none⟩=some (.string y1):=by simp [World.cell?,hB]
 have c7:W.cell? ⟨Bf,7,none⟩=some (.string y2):=by simp [World.cell?,hB]
 have c8:W.cell? ⟨Bf,8,none⟩=some (.string y3):=by simp [World.cell?,hB]
 have c9:W.cell? ⟨Bf,9,none⟩=some (.string z1):=by simp [World.cell?,hB]
 have c10:W.cell? ⟨Bf,10,none⟩=some (.string z2):=by simp [World.cell?,hB]
 have c11:W.cell? ⟨Bf,11,none⟩=some (.string z3):=by simp [World.cell?,hB]
 clear hB
 gi_wp2
 gi_loopw [12] (fun i wr=>(i = .int .i64 0∧J [] wr∨i = .int .i64 1∧J [0] wr∨i = .int .i64 2∧J [0,1] wr∨i = .int .i64 3∧J [0,1,2] wr)∧n₀≤wr.heap.size) (fun i _=>3-(intOf i).toNat)
 case atStart=>exact ⟨.inl ⟨rfl,h0⟩,hn0⟩
 case round =>
  obtain ⟨hc,hnr⟩:=hrel
  rcases hc with ⟨rfl,hJs⟩|⟨rfl,hJs⟩|⟨rfl,hJs⟩|⟨rfl,hJs⟩
  ·have hix:=ix0 wr x1 x2 x3 y1 y2 y3 z1 z2 z3
   have hJa:=hJ [] wr (wr.alloc (.cells #[.string x1,.string x2,.string x3] 38)) none hJs (World.grownBy_alloc _ _ none) (fun r e=>by cases e)
   obtain ⟨fn,tmps,assign,body,hy,hR⟩:=hY [] 0 _ hJa (by simp)
   change (Sem.run Tryz.prog (Instr.yield l #[.int .i64 0,.agg #[.string x1,.string x2,.string x3]]) _)=_ at hy
   gi_wp2
   refine hR.mono ?_
   rintro e W3 (⟨rfl,hJ3,hk3⟩|⟨rfl,hJx3⟩)
   ·have hs3:n₀≤W3.heap.size:=by have:=hk3.size;simp at this;omega
    gi_wp2
    go_roundw
    case rel=>exact ⟨.inr (.inl ⟨rfl,hJ3⟩),hs3⟩
    case measure=>simp [intOf]
   ·gi_wp2
    refine bodyPost_ret (results_none rfl _ _ _) rfl ?_
    exact ⟨⟨_,rfl⟩,.inr ⟨_,trivial,hJx3⟩⟩
  ·have hix:=ix1 wr x1 x2 x3 y1 y2 y3 z1 z2 z3
   have hJa:=hJ [0] wr (wr.alloc (.cells #[.string y1,.string y2,.string y3] 38)) none hJs (World.grownBy_alloc _ _ none) (fun r e=>by cases e)
   obtain ⟨fn,tmps,assign,body,hy,hR⟩:=hY [0] 1 _ hJa (by simp)
   change (Sem.run Tryz.prog (Instr.yield l #[.int .i64 1,.agg #[.string y1,.string y2,.string y3]]) _)=_ at hy
   gi_wp2
   refine hR.mono ?_
   rintro e W3 (⟨rfl,hJ3,hk3⟩|⟨rfl,hJx3⟩)
   ·have hs3:n₀≤W3.heap.size:=by have:=hk3.size;simp at this;omega
    gi_wp2
    go_roundw
    case rel=>exact ⟨.inr (.inr (.inl ⟨rfl,hJ3⟩)),hs3⟩
    case measure=>simp [intOf]
   ·gi_wp2
    refine bodyPost_ret (results_none rfl _ _ _) rfl ?_
    exact ⟨⟨_,rfl⟩,.inr ⟨_,trivial,hJx3⟩⟩
  ·have hix:=ix2 wr x1 x2 x3 y1 y2 y3 z1 z2 z3
   have hJa:=hJ [0,1] wr (wr.alloc (.cells #[.string z1,.string z2,.string z3] 38)) none hJs (World.grownBy_alloc _ _ none) (fun r e=>by cases e)
   obtain ⟨fn,tmps,assign,body,hy,hR⟩:=hY [0,1] 2 _ hJa (by simp)
   change (Sem.run Tryz.prog (Instr.yield l #[.int .i64 2,.agg #[.string z1,.string z2,.string z3]]) _)=_ at hy
   gi_wp2
   refine hR.mono ?_
   rintro e W3 (⟨rfl,hJ3,hk3⟩|⟨rfl,hJx3⟩)
   ·have hs3:n₀≤W3.heap.size:=by have:=hk3.size;simp at this;omega
    gi_wp2
    go_roundw
    case rel=>exact ⟨.inr (.inr (.inr ⟨rfl,hJ3⟩)),hs3⟩
    case measure=>simp [intOf]
   ·gi_wp2
    refine bodyPost_ret (results_none rfl _ _ _) rfl ?_
    exact ⟨⟨_,rfl⟩,.inr ⟨_,trivial,hJx3⟩⟩
  ·gi_wp2
   go_end0
   exact ⟨⟨_,rfl⟩,.inl ⟨_,rfl,hJs⟩⟩
theorem axes_stops (F:Fence) (n:Nat) (h8:F.fn 185) (hro:F.round=none) (hn:1≤n) (Bf n₀:Nat) (o1 o2 o3 x1 x2 x3 y1 y2 y3 z1 z2 z3:ByteArray) (w:World) (hn0:n₀≤w.heap.size)
 (hB:w.heap[Bf]?=some (.cells #[.string o1,.string o2,.string o3,.string x1,.string x2,.string x3,.string y1,.string y2,.string y3,.string z1,.string z2,.string z3] 50 (0,0))) :
 SeqStopsK F n Tryz.prog 185 #[.pointer (some ⟨Bf,0,none⟩)] (axE x1 x2 x3 y1 y2 y3 z1 z2 z3) (Below n₀) (fun ys=>ys = [0,1,2]) (fun _=>True) 3 w:=fun l J Jx W hW hJ _ hY h0 =>
 axes1_in F n h8 hro hn l Bf n₀ o1 o2 o3 x1 x2 x3 y1 y2 y3 z1 z2 z3 J Jx hY W hJ (Nat.le_trans hn0 hW.size) ((hW.block Bf (by rcases Nat.lt_or_ge Bf w.heap.size with h|h;exact h;rw [Array.getElem?_eq_none h] at hB;cases hB)).trans hB) h0
theorem axes_any (o1 o2 o3 x1 x2 x3 y1 y2 y3 z1 z2 z3:ByteArray) (w:World):Calls Tryz.prog 133 #[.agg #[.string o1,.string o2,.string o3,.string x1,.string x2,.string x3,.string y1,.string y2,.string y3,.string z1,.string z2,.string z3]] w fun e w' =>
 e = .returned (.func (.func 185) #[] #[.pointer (some ⟨w.heap.size,0,none⟩)])∧w'=w.alloc (.cells #[.string o1,.string o2,.string o3,.string x1,.string x2,.string x3,.string y1,.string y2,.string y3,.string z1,.string z2,.string z3] 50 (0,0)):=by
 refine (callsIn_wide (n:=3)).1 ?_
 refine callsIn_of_wp Tryz.func133 rfl trivial ?_ rfl
 simp only [Tryz.ntmps133,List.size_toArray,List.length_cons,List.length_nil,Nat.reduceAdd,Nat.reduceSub,Array.replicate_succ,Array.replicate_zero,List.push_toArray,List.append_toArray,List.nil_append,List.cons_append]
 gi_wp2
 refine bodyPost_ret (results_tmp rfl _ _ _) rfl ?_
 exact ⟨rfl,rfl⟩
end Fr
namespace Fr
open Go.RowKit Go.Shelf Ab Pl
structure C9 where
 n1:Int
 d1:Int
 p1:Option Addr
 n2:Int
 d2:Int
 p2:Option Addr
 n3:Int
 d3:Int
 p3:Option Addr
def C9.cells (k:C9):List Value := [.int .i64 k.n1,.int .i64 k.d1,.pointer k.p1,.int .i64 k.n2,.int .i64 k.d2,.pointer k.p2,.int .i64 k.n3,.int .i64 k.d3,.pointer k.p3]
def C9.val (k:C9):Value := .agg #[.int .i64 k.n1,.int .i64 k.d1,.pointer k.p1,.int .i64 k.n2,.int .i64 k.d2,.pointer k.p2,.int .i64 k.n3,.int .i64 k.d3,.pointer k.p3]
def C9.zero:C9:=⟨0,0,none,0,0,none,0,0,none⟩
theorem vc9 {w:World} {v:Value} {a b c:Rat} (h:Vc w v a b c):∃ k:C9,v=k.val∧Vc w k.val a b c:=by
 obtain ⟨n1,d1,p1,n2,d2,p2,n3,d3,p3,rfl,h1,h2,h3⟩:=h
 exact ⟨⟨n1,d1,p1,n2,d2,p2,n3,d3,p3⟩,rfl,n1,d1,p1,n2,d2,p2,n3,d3,p3,rfl,h1,h2,h3⟩
theorem tB {β:List Nat} {w:World} {k:C9} {a b c:Rat} (h:Vc w k.val a b c):holdsL β [nb a,nb b,nb c] k.cells w:=by
 obtain ⟨cs,e,hl⟩:=(xM (β:=β)).2 h
 injection e with e
 have e:=congrArg Array.toList e
 have e:k.cells=cs:=e
 rw [e]
 exact hl
def fX (o x y z:C9):List Value:=o.cells++x.cells++y.cells++z.cells
theorem lR {a b c:Rat} (h:pK a b c) (w:World) (hG:Gl w):Calls Tryz.prog 53 #[.agg #[.string (writeB a),.string (writeB b),.string (writeB c)]] w fun e w' => ∃ k:C9,e = .returned (.tuple #[k.val,.int .i64 0])∧Vc w' k.val a b c∧Below w.heap.size w w':=by
 refine (gW h [] w [.agg #[.string (writeB a),.string (writeB b),.string (writeB c)]] hG ⟨_,_,rfl,⟨[.string (writeB a),.string (writeB b),.string (writeB c)],rfl,[.string (writeB a)],_,rfl,rfl,[.string (writeB b)],_,rfl,rfl,[.string (writeB c)],_,rfl,rfl,rfl⟩,rfl⟩).mono ?_
 rintro e w' ⟨v,e1,e2,vs,rfl,u,r,rfl,h1,u2,r2,rfl,h2,h3⟩
 obtain ⟨k,rfl,h4⟩:=vc9 (xM.1 h1)
 have h5:[u2] = [.int .i64 0]:=h2.1
 injection h5 with h5
 rw [show r2 = [] from h3,h5] at e1
 exact ⟨k,e1,h4,e2⟩
section
variable {o1 o2 o3 x1 x2 x3 y1 y2 y3 z1 z2 z3:Rat}
theorem fr_holds {β:List Nat} {w:World} {o x y z:C9} (ho:Vc w o.val o1 o2 o3) (hx:Vc w x.val x1 x2 x3) (hy:Vc w y.val y1 y2 y3) (hz:Vc w z.val z1 z2 z3) :
 (qZ o1 o2 o3 x1 x2 x3 y1 y2 y3 z1 z2 z3).holds β (.agg (fX o x y z).toArray) w :=
 ⟨fX o x y z,rfl,(((tB ho).append (tB hx)).append (tB hy)).append (tB hz)⟩
theorem check_any {w:World} {o x y z:C9} (ho:Vc w o.val o1 o2 o3) (hx:Vc w x.val x1 x2 x3) (hy:Vc w y.val y1 y2 y3) (hz:Vc w z.val z1 z2 z3) (l:Lm 25 x1 x2 x3 y1 y2 y3 z1 z2 z3) (h:Ax x1 x2 x3 y1 y2 y3 z1 z2 z3) :
 Calls Tryz.prog 134 #[.agg (fX o x y z).toArray] w fun e w'=>e = .returned (.int .i64 0)∧Below w.heap.size w w':=by
 refine (checkF (o1:=o1) (o2:=o2) (o3:=o3) l h [] w [.agg (fX o x y z).toArray] ⟨_,_,rfl,fr_holds ho hx hy hz,rfl⟩).mono ?_
 rintro e w' ⟨v,e1,e2,h1⟩
 have h5:[v] = [.int .i64 0]:=h1.1
 injection h5 with h5
 exact ⟨by rw [e1,h5],e2⟩
end
attribute [local go_sem] Oper.semAt_some
theorem zE {P:Program} {ops:Array Oper} {rest:List Oper} {o:Oper} {a:Act} {w:World} {Q:Exit→Act→World→Prop} (hg:o.guard=none) (t:TypeId) (parts:Array (Nat×Operand)) (ho:o.op = .build t parts) (cs:Array Value)
 (hb:P.built t (parts.map fun (i,x)=>(i,a.eval x)).toList=some cs) (h:wpList P ops Q rest (a.put o.dst (.agg cs)) w):wpList P ops Q (o::rest) a w :=
 wpList_build hg t parts ho (by rw [hb];rfl) (by rw [hb];exact h)
theorem store_new3 {P:Program} {ops:Array Oper} {rest:List Oper} {o:Oper} {a:Act} {Q:Exit→Act→World→Prop} (hgd:o.guard=none) (ty:TypeId) (x y:Operand) (ho:o.op = .store ty x y) (w1:World) (A B:Obj) (old cells:Array Value)
 (hx:a.eval x = .pointer (some ⟨w1.heap.size+1+1,0,none⟩)) (hy:a.eval y = .agg cells) (hi:(P.info? ty).map (·.size)=some cells.size) (hold:old.size=cells.size) (h1:cells.all (·.oneCell')=true)
 (h:∀ W3:World,W3.heap.size=w1.heap.size+3→Below w1.heap.size w1 W3→W3.heap[w1.heap.size]?=some A→W3.heap[w1.heap.size+1]?=some B→W3.heap[w1.heap.size+2]?=some (.cells cells ty (0,0))→wpList P ops Q rest (a.put o.dst undef) W3) :
 wpList P ops Q (o::rest) a (((w1.alloc A).alloc B).alloc (.cells old ty (0,0))):=by
 have hg:(((w1.alloc A).alloc B).alloc (.cells old ty (0,0))).heap[w1.heap.size+1+1]?=some (.cells old ty (0,0)):=by
  have:=World.alloc_heap_new ((w1.alloc A).alloc B) (.cells old ty (0,0))
  rwa [World.size_alloc,World.size_alloc] at this
 refine wpList_store_row hgd ty x y ho (w1.heap.size+1+1) cells hx hy ty old hg hi hold h1 (h _ (by rw [setRow_size];simp) ?_ ?_ ?_ (setRow_heap _ _ _ _ _ _ hg))
 ·exact below_setRow ((((aB _ w1).alloc (aR _) _).alloc (by simp) _).alloc (by simp;omega) _) (by omega) _
 ·rw [setRow_other _ _ _ _ (by omega)]
  exact (Below.heap_alloc _ _ _ (by simp;omega)).trans ((Below.heap_alloc _ _ _ (by simp)).trans (World.alloc_heap_new w1 A))
 ·rw [setRow_other _ _ _ _ (by omega)]
  refine (Below.heap_alloc _ _ _ (by simp)).trans ?_
  have:=World.alloc_heap_new (w1.alloc A) B
  rwa [World.size_alloc] at this
structure Stopped (p:Prop):Prop where
 out:p
theorem stop_store {P:Program} {ops:Array Oper} {rest:List Oper} {o:Oper} {a:Act} {w:World} {Q:Exit→Act→World→Prop} (ty:TypeId) (x y:Operand) (ho:o.op = .store ty x y) (h:Stopped (wpList P ops Q (o::rest) a w)):wpList P ops Q (o::rest) a w:=h.out
theorem uG {W W' : World} {row:Option Nat} (hg:W.grownBy W' row) (hrow:∀ r,row=some r→∃ o:Obj,W.heap[r]?=some o∧o.isCells=false):Go.Proofs.YtnhafhpmocabiaaGreatDoor.Ext Kn W W':=by
 refine ⟨hg.size,fun g o h ho=>?_⟩
 have hc:o.isCells=true:=by cases o <;> first|rfl|(simp [Go.Proofs.YtnhafhpmocabiaaGreatDoor.hotObj] at ho)
 exact (grownBy_keeps_cells hg hrow h hc).trans h
theorem Vc.kext {w w' : World} {v:Value} {a b c:Rat} (h:Vc w v a b c) (hx:Go.Proofs.YtnhafhpmocabiaaGreatDoor.Ext Kn w w'):Vc w' v a b c:=h.ext (fun _=>rfl) (fun _=>rfl) hx
theorem load_all {P:Program} {ρ:Operand→Value} {o:Oper} {w:World} {T T' : TypeId} {x:Operand} {g:Nat} {cs:List Value} {d:TypeDesc} (ho:o.op = .load T x) (hx:ρ x = .pointer (some ⟨g,0,none⟩)) (hg:w.heap[g]?=some (.cells cs.toArray T' (0,0)))
 (hd:P.underlying T=some d) (hr:d.isRow=true) (hi:(P.info? T).map (·.size)=some cs.length):(execOp ρ o).run P w = .ok (.value (.agg cs.toArray)) w:=by
 have h:=run_loadVar_mid w g 0 T ((cs.drop 0).take cs.length) d (rT hg 0 cs.length) hd hr (by rw [hi,List.drop_zero,List.take_length])
 rw [List.drop_zero,List.take_length] at h
 simp only [execOp,ho,Instr.loadAt,hx,Instr.sureAddr]
 exact bM (by simpa [Sem.run_bind] using h)
theorem frL_one (o x y z:C9):∀ c∈fX o x y z,c.oneCell'=true:=by
 have h:(fX o x y z).all (·.oneCell')=true:=rfl
 exact fun c hc=>List.all_eq_true.1 h c hc
theorem fin3:∀ x:Fin 3,x=0∨x=1∨x=2:=by decide
theorem tC {w:World} {b i:Nat} {v:Value} (hlt:b<w.heap.size) (h:w.cell? ⟨b,i,none⟩=some v) (o:Obj):(w.alloc o).cell? ⟨b,i,none⟩=some v :=
 (((aB _ w).alloc (aR _) o).cell (p:=⟨b,i,none⟩) hlt).trans h
theorem iE {w:World} {b i:Nat} {cs:Array Value} {t:TypeId} (hlt:b<w.heap.size) (h:w.heap[b]?=some (.cells cs t (0,0))) (o:Obj):(w.alloc o).frozen? ⟨b,i,none⟩=false :=
 bE ((((aB _ w).alloc (aR _) o).block b hlt).trans h) i
theorem tD {n g:Nat} {o:Obj} {A X Y:World} (hb:Below n A X) (h:Turned g o X Y) (hn:n≤g):Below n A Y :=
 ⟨h.os.trans hb.os,h.tape.trans hb.tape,h.output.trans hb.output,by rw [h.size];exact hb.size,fun k hk=>(h.block k (by omega)).trans (hb.block k hk)⟩
theorem tE {g S:Nat} {o o0:Obj} {X Y:World} (h:Turned g o X Y) (h0:X.heap[g]?=some o0) (hc:o0.isCells=true):KeepsFrom S X Y:=by
 refine ⟨by rw [h.size];exact aR _,fun k o' _ hk ho=>?_⟩
 have:k≠g:=by
  rintro rfl
  rw [h0] at hk
  injection hk with hk
  rw [hk,ho] at hc
  cases hc
 exact (h.block k this).trans hk
theorem fY {S:Nat} {W W' : World} (h:Below W.heap.size W W'):KeepsFrom S W W':=⟨h.size,fun k o _ hk _=>(h.block k (Array.getElem?_eq_some_iff.1 hk).1).trans hk⟩
section
variable {w:World} {k:C9} {B E R:Nat} {o1 o2 o3 x1 x2 x3 y1 y2 y3 z1 z2 z3:Rat}
theorem mT (o x y z:C9) (T:TypeId):Go.Proofs.YtnhafhpmocabiaaGreatDoor.hotObj Kn (.cells (fX o x y z).toArray T (0,0))=false:=by simp [Go.Proofs.YtnhafhpmocabiaaGreatDoor.hotObj,fX,C9.cells,Kn]
theorem turn9 {w:World} {B:Nat} {T:TypeId} {cs cs' : Array Value} (off:Nat) (h:w.heap[B]?=some (.cells cs T (0,0))) (u0 u1 u2 u3 u4 u5 u6 u7 u8:Value)
 (e:((((((((cs.setIfInBounds off u0).setIfInBounds (off+1) u1).setIfInBounds (off+2) u2).setIfInBounds (off+3) u3).setIfInBounds (off+4) u4).setIfInBounds (off+5) u5).setIfInBounds (off+6) u6).setIfInBounds (off+7) u7).setIfInBounds (off+8) u8=cs') :
 Turned B (.cells cs' T (0,0)) w (((((((((w.setCell ⟨B,off,none⟩ u0).setCell ⟨B,off+1,none⟩ u1).setCell ⟨B,off+2,none⟩ u2).setCell ⟨B,off+3,none⟩ u3).setCell ⟨B,off+4,none⟩ u4).setCell ⟨B,off+5,none⟩ u5).setCell ⟨B,off+6,none⟩ u6).setCell ⟨B,off+7,none⟩ u7).setCell ⟨B,off+8,none⟩ u8):=by
 subst e
 have t0:=dD (i:=off) h u0
 have t1:=t0.trans (dD (i:=off+1) t0.at_ u1)
 have t2:=t1.trans (dD (i:=off+2) t1.at_ u2)
 have t3:=t2.trans (dD (i:=off+3) t2.at_ u3)
 have t4:=t3.trans (dD (i:=off+4) t3.at_ u4)
 have t5:=t4.trans (dD (i:=off+5) t4.at_ u5)
 have t6:=t5.trans (dD (i:=off+6) t5.at_ u6)
 have t7:=t6.trans (dD (i:=off+7) t6.at_ u7)
 exact t7.trans (dD (i:=off+8) t7.at_ u8)
end
end Fr
namespace Ab
open Go.RowKit Pl
theorem index47:∀ l:List UInt8,Lib.index l [47]=if l.findIdx (fun c=>c==47)<l.length then ((l.findIdx (fun c=>c==47):Nat):Int) else -1
 | []=>rfl
 | c :: l=>by
   by_cases hc:c=47
   ·subst hc
    unfold Lib.index
    simp [List.isPrefixOf,List.findIdx_cons]
   ·have h2:([47]:List UInt8).isPrefixOf (c::l)=false:=by
     simp [List.isPrefixOf]
     exact fun e=>hc e.symm
    have h3:(c==47)=false:=by rw [beq_eq_false_iff_ne];exact hc
    unfold Lib.index
    rw [h2,index47 l,List.findIdx_cons,h3]
    simp only [cond_false,List.length_cons]
    by_cases hl:l.findIdx (fun c=>c==47)<l.length
    ·have:(((l.findIdx (fun c=>c==47):Nat):Int) == -1)=false:=by rw [beq_eq_false_iff_ne];omega
     rw [if_pos hl,if_pos (show l.findIdx (fun c=>c==47)+1<l.length+1 by omega),this]
     simp
    ·rw [if_neg hl,if_neg (show ¬ l.findIdx (fun c=>c==47)+1<l.length+1 by omega)]
     rfl
theorem cut_slash {t:ByteArray} (h:aU t<t.size):Lib.cut t.data.toList [47]=((t.extract 0 (aU t)).data.toList,(t.extract (aU t+1) t.size).data.toList,true):=by
 have e:Lib.index t.data.toList [47]=((aU t:Nat):Int):=by
  have:=index47 (aC t)
  rw [if_pos (show (aC t).findIdx (fun c=>c==47)<(aC t).length by rw [aE];exact h)] at this
  exact this
 have e1:(t.extract 0 (aU t)).data.toList=t.data.toList.take (aU t):=by
  show aC (t.extract 0 (aU t))=_
  rw [bC,List.drop_zero]
  rfl
 have e2:(t.extract (aU t+1) t.size).data.toList=t.data.toList.drop (aU t+1):=by
  show aC (t.extract (aU t+1) t.size)=_
  rw [bC,List.take_of_length_le (by rw [aE];exact aR _)]
  rfl
 rw [e1,e2]
 unfold Lib.cut
 rw [e,if_pos (by omega)]
 simp
theorem cut_none {t:ByteArray} (h:¬ aU t<t.size):Lib.cut t.data.toList [47]=(t.data.toList,(⟨#[]⟩:ByteArray).data.toList,false):=by
 have e:Lib.index t.data.toList [47] = -1:=by
  have:=index47 (aC t)
  rw [if_neg (show ¬ (aC t).findIdx (fun c=>c==47)<(aC t).length by rw [aE];exact h)] at this
  exact this
 unfold Lib.cut
 rw [e]
 rfl
theorem bT {s t:ByteArray} {b:Bool} (ht:aN s=t) (hb:cR s=b):jF 33 [tx s,lt ⟨#[45]⟩] (.tup [.sc (eJ t),.sc (.lit (.bool b))]):=by
 intro β w vs hv
 obtain ⟨v,u,rfl,h1,h2⟩:=dQ hv
 rw [aJ h1,aK h2]
 have key:(⟨(Lib.trimPrefix s.data.toList [45]).toArray⟩:ByteArray)=t∧Lib.hasPrefix s.data.toList [45]=b:=by
  have hp:Lib.hasPrefix s.data.toList [45]=cR s:=by
   show ([45]:List UInt8).isPrefixOf (aC s)=((aC s).head?==some 45)
   cases aC s with
   | nil=>rfl
   | cons c l =>
     rw [Bool.eq_iff_iff]
     simp [List.isPrefixOf]
     exact ⟨fun e=>e.symm,fun e=>e.symm⟩
  refine ⟨?_,by rw [hp,hb]⟩
  unfold Lib.trimPrefix
  rw [hp,← ht]
  unfold aN
  split
  ·refine ba_ext ?_
   show _=aC (s.extract 1 s.size)
   rw [bC,List.take_of_length_le (by rw [aE];exact aR _)]
   rfl
  ·exact ba_ext (by simp)
 refine (Tryz.strings_CutPrefix s ⟨#[45]⟩ w).mono fun e w' ⟨e1,e2⟩=>⟨_,e1,by rw [e2];exact aB _ _,?_⟩
 rw [show (⟨#[45]⟩:ByteArray).data.toList = [45] from rfl,key.1,key.2]
 exact ⟨[.string t,.bool b],rfl,_,_,rfl,aQ (β:=β),_,_,rfl,⟨rfl,rfl⟩,rfl⟩
theorem rK (s:ByteArray):(aN s).size≤s.size:=by
 unfold aN
 split
 ·rw [ByteArray.size_extract];omega
 ·exact aR _
abbrev badN (z:Int):AV Kn := .tup [.ag [.lit (.int .i64 0),.lit (.int .i64 0),.lit (.pointer none)],.sc (.lit (.int .i64 z))]
theorem gcdAnyF {n m:Nat} (h1:(decB n).size≤600) (h2:(decB m).size≤600) (hm:m≠0):jF 91 [nt n,nt m] (nt (Nat.gcd n m)) :=
 xO ((nJ (k:=5) (by omega)).mono (by decide)) ((nJ (k:=5) (by omega)).mono (by decide)) (.inr (Nat.pos_of_ne_zero hm))
section
variable {s t a d:ByteArray} {z:Int}
theorem zF {b:Bool} (hs:s.size<4294967281) (hz:dR s=z) (h0:z≠0) (ht:aN s=t) (hb:cR s=b) (hlt:aU t<t.size) (ha:t.extract 0 (aU t)=a) (hd:t.extract (aU t+1) t.size=d):jX 28 [tx s] (badN z):=by
 have hts:t.size<4294967281:=by have:=rK s;rw [ht] at this;omega
 have hcut:=cut_slash hlt
 have hsa:a.size=aU t:=by rw [← ha,ByteArray.size_extract];omega
 have hsd:d.size=t.size-a.size-1:=by rw [hsa,← hd,ByteArray.size_extract];omega
 rw [ha,hd] at hcut
 unfold dR at hz
 rw [ht,ha,hd,hb,← hsa,← hsd] at hz
 simp only [show a.size<t.size from by omega,true_and] at hz
 have c0:∀ x:ByteArray,decF x=true∨decF x=false:=fun x=>by cases decF x <;> simp
 cases b with
 | true =>
   rcases c0 a with c1|c1
   ·rw [c1] at hz
    by_cases a0:a=zeroT
    ·rw [if_pos (.inr ⟨rfl,a0⟩)] at hz
     subst hz
     refine jY Tryz.func28 fun w00 hI=>?_
     refine jC 33 [tx s,lt ⟨#[45]⟩] (bT ht hb) ?_
     refine jW hI 89 [tx t,lt ⟨#[47]⟩] (sN (a:=a) (b:=d) (r:=true) hts hcut) ?_
     refine jC 90 [tx a] (bI c1) ?_
     refine jQ 31 a ⟨#[48]⟩ true (by rw [a0];exact beq_self_eq_true _) ?_
     exact jR Tryz.func28
    rw [if_neg (by rintro (h|h);exact absurd h (by decide);exact a0 h.2)] at hz
    refine jY Tryz.func28 fun w00 hI=>?_
    refine jC 33 [tx s,lt ⟨#[45]⟩] (bT ht hb) ?_
    refine jW hI 89 [tx t,lt ⟨#[47]⟩] (sN (a:=a) (b:=d) (r:=true) hts hcut) ?_
    refine jC 90 [tx a] (bI c1) ?_
    refine jQ 31 a ⟨#[48]⟩ false (eH a0) ?_
    rcases c0 d with d1|d1
    ·rw [d1] at hz
     by_cases d0:d=zeroT
     ·rw [if_pos (.inr (.inl d0))] at hz
      subst hz
      refine jC 90 [tx d] (bI d1) ?_
      refine jQ 43 d ⟨#[48]⟩ true (by rw [d0];exact beq_self_eq_true _) ?_
      exact jR Tryz.func28
     by_cases d2:d=oneT
     ·rw [if_pos (.inr (.inr d2))] at hz
      subst hz
      refine jC 90 [tx d] (bI d1) ?_
      refine jQ 43 d ⟨#[48]⟩ false (eH d0) ?_
      refine jQ 47 d ⟨#[49]⟩ true (by rw [d2];exact beq_self_eq_true _) ?_
      exact jR Tryz.func28
     rw [if_neg (by rintro (h|h|h);exact absurd h (by decide);exact d0 h;exact d2 h)] at hz
     refine jC 90 [tx d] (bI d1) ?_
     refine jQ 43 d ⟨#[48]⟩ false (eH d0) ?_
     refine jQ 47 d ⟨#[49]⟩ false (eH d2) ?_
     refine jO 53 a ?_
     by_cases l1:600<a.size
     ·rw [if_pos (.inl l1)] at hz
      subst hz
      refine jM 54 a.size 600 true (by rw [decide_eq_true_iff];omega) ?_
      exact jR Tryz.func28
     refine jM 54 a.size 600 false (by rw [decide_eq_false_iff_not];omega) ?_
     refine jO 57 d ?_
     by_cases l2:600<d.size
     ·rw [if_pos (.inr l2)] at hz
      subst hz
      refine jM 58 d.size 600 true (by rw [decide_eq_true_iff];omega) ?_
      exact jR Tryz.func28
     refine jM 58 d.size 600 false (by rw [decide_eq_false_iff_not];omega) ?_
     rw [if_neg (by omega)] at hz
     have hae:=iU c1
     have hde:=iU d1
     generalize aO (aC a)=n at hae hz
     generalize aO (aC d)=m at hde hz
     subst hae
     subst hde
     have hm0:m≠0:=fun e=>d0 (by rw [e,dec0];rfl)
     by_cases hg:Nat.gcd n m=1
     ·rw [if_neg (fun h=>h hg)] at hz
      exact absurd hz.symm h0
     rw [if_pos hg] at hz
     subst hz
     refine jC 36 [tx (decB n)] (bZ (by omega)) ?_
     refine jC 36 [tx (decB m)] (bZ (by omega)) ?_
     refine jC 91 [nt n,nt m] (gcdAnyF (by omega) (by omega) hm0) ?_
     refine jC 92 [nt (Nat.gcd n m)] (isOneF (b:=false) (by rw [decide_eq_false_iff_not];exact hg)) ?_
     exact jR Tryz.func28
    ·rw [if_pos (.inl d1)] at hz
     subst hz
     refine jC 90 [tx d] (bI d1) ?_
     exact jR Tryz.func28
   ·rw [if_pos (.inl c1)] at hz
    subst hz
    refine jY Tryz.func28 fun w00 hI=>?_
    refine jC 33 [tx s,lt ⟨#[45]⟩] (bT ht hb) ?_
    refine jW hI 89 [tx t,lt ⟨#[47]⟩] (sN (a:=a) (b:=d) (r:=true) hts hcut) ?_
    refine jC 90 [tx a] (bI c1) ?_
    exact jR Tryz.func28
 | false =>
   rcases c0 a with c1|c1
   ·rw [c1] at hz
    rw [if_neg (by rintro (h|h);exact absurd h (by decide);exact absurd h.1 (by decide))] at hz
    refine jY Tryz.func28 fun w00 hI=>?_
    refine jC 33 [tx s,lt ⟨#[45]⟩] (bT ht hb) ?_
    refine jW hI 89 [tx t,lt ⟨#[47]⟩] (sN (a:=a) (b:=d) (r:=true) hts hcut) ?_
    refine jC 90 [tx a] (bI c1) ?_
    rcases c0 d with d1|d1
    ·rw [d1] at hz
     by_cases d0:d=zeroT
     ·rw [if_pos (.inr (.inl d0))] at hz
      subst hz
      refine jC 90 [tx d] (bI d1) ?_
      refine jQ 43 d ⟨#[48]⟩ true (by rw [d0];exact beq_self_eq_true _) ?_
      exact jR Tryz.func28
     by_cases d2:d=oneT
     ·rw [if_pos (.inr (.inr d2))] at hz
      subst hz
      refine jC 90 [tx d] (bI d1) ?_
      refine jQ 43 d ⟨#[48]⟩ false (eH d0) ?_
      refine jQ 47 d ⟨#[49]⟩ true (by rw [d2];exact beq_self_eq_true _) ?_
      exact jR Tryz.func28
     rw [if_neg (by rintro (h|h|h);exact absurd h (by decide);exact d0 h;exact d2 h)] at hz
     refine jC 90 [tx d] (bI d1) ?_
     refine jQ 43 d ⟨#[48]⟩ false (eH d0) ?_
     refine jQ 47 d ⟨#[49]⟩ false (eH d2) ?_
     refine jO 53 a ?_
     by_cases l1:600<a.size
     ·rw [if_pos (.inl l1)] at hz
      subst hz
      refine jM 54 a.size 600 true (by rw [decide_eq_true_iff];omega) ?_
      exact jR Tryz.func28
     refine jM 54 a.size 600 false (by rw [decide_eq_false_iff_not];omega) ?_
     refine jO 57 d ?_
     by_cases l2:600<d.size
     ·rw [if_pos (.inr l2)] at hz
      subst hz
      refine jM 58 d.size 600 true (by rw [decide_eq_true_iff];omega) ?_
      exact jR Tryz.func28
     refine jM 58 d.size 600 false (by rw [decide_eq_false_iff_not];omega) ?_
     rw [if_neg (by omega)] at hz
     have hae:=iU c1
     have hde:=iU d1
     generalize aO (aC a)=n at hae hz
     generalize aO (aC d)=m at hde hz
     subst hae
     subst hde
     have hm0:m≠0:=fun e=>d0 (by rw [e,dec0];rfl)
     by_cases hg:Nat.gcd n m=1
     ·rw [if_neg (fun h=>h hg)] at hz
      exact absurd hz.symm h0
     rw [if_pos hg] at hz
     subst hz
     refine jC 36 [tx (decB n)] (bZ (by omega)) ?_
     refine jC 36 [tx (decB m)] (bZ (by omega)) ?_
     refine jC 91 [nt n,nt m] (gcdAnyF (by omega) (by omega) hm0) ?_
     refine jC 92 [nt (Nat.gcd n m)] (isOneF (b:=false) (by rw [decide_eq_false_iff_not];exact hg)) ?_
     exact jR Tryz.func28
    ·rw [if_pos (.inl d1)] at hz
     subst hz
     refine jC 90 [tx d] (bI d1) ?_
     exact jR Tryz.func28
   ·rw [if_pos (.inl c1)] at hz
    subst hz
    refine jY Tryz.func28 fun w00 hI=>?_
    refine jC 33 [tx s,lt ⟨#[45]⟩] (bT ht hb) ?_
    refine jW hI 89 [tx t,lt ⟨#[47]⟩] (sN (a:=a) (b:=d) (r:=true) hts hcut) ?_
    refine jC 90 [tx a] (bI c1) ?_
    exact jR Tryz.func28
theorem zG {b:Bool} (hs:s.size<4294967281) (hz:dR s=z) (h0:z≠0) (ht:aN s=t) (hb:cR s=b) (hlt:¬ aU t<t.size):jX 28 [tx s] (badN z):=by
 have hts:t.size<4294967281:=by have:=rK s;rw [ht] at this;omega
 have hcut:=cut_none hlt
 have hk:aU t=t.size:=by have:=mO t;omega
 have g3:decide ((600:Int)<(((⟨#[49]⟩:ByteArray).size:Nat):Int))=false:=by decide
 unfold dR at hz
 rw [ht,hb,hk,ext_all] at hz
 simp only [Nat.lt_irrefl,false_and,if_false] at hz
 have c0:∀ x:ByteArray,decF x=true∨decF x=false:=fun x=>by cases decF x <;> simp
 cases b with
 | true =>
   rcases c0 t with c1|c1
   ·rw [c1] at hz
    by_cases a0:t=zeroT
    ·rw [if_pos (.inr ⟨rfl,a0⟩)] at hz
     subst hz
     refine jY Tryz.func28 fun w00 hI=>?_
     refine jC 33 [tx s,lt ⟨#[45]⟩] (bT ht hb) ?_
     refine jW hI 89 [tx t,lt ⟨#[47]⟩] (sN (a:=t) (b:=⟨#[]⟩) (r:=false) hts hcut) ?_
     refine jC 90 [tx t] (bI c1) ?_
     refine jQ 31 t ⟨#[48]⟩ true (by rw [a0];exact beq_self_eq_true _) ?_
     exact jR Tryz.func28
    rw [if_neg (by rintro (h|h);exact absurd h (by decide);exact a0 h.2)] at hz
    have hl:600<t.size:=by
     by_cases g:600<t.size
     ·exact g
     ·rw [if_neg (by omega)] at hz;exact absurd hz.symm h0
    rw [if_pos (.inl hl)] at hz
    subst hz
    refine jY Tryz.func28 fun w00 hI=>?_
    refine jC 33 [tx s,lt ⟨#[45]⟩] (bT ht hb) ?_
    refine jW hI 89 [tx t,lt ⟨#[47]⟩] (sN (a:=t) (b:=⟨#[]⟩) (r:=false) hts hcut) ?_
    refine jC 90 [tx t] (bI c1) ?_
    refine jQ 31 t ⟨#[48]⟩ false (eH a0) ?_
    refine jO 53 t ?_
    refine jM 54 t.size 600 true (by rw [decide_eq_true_iff];omega) ?_
    exact jR Tryz.func28
   ·rw [if_pos (.inl c1)] at hz
    subst hz
    refine jY Tryz.func28 fun w00 hI=>?_
    refine jC 33 [tx s,lt ⟨#[45]⟩] (bT ht hb) ?_
    refine jW hI 89 [tx t,lt ⟨#[47]⟩] (sN (a:=t) (b:=⟨#[]⟩) (r:=false) hts hcut) ?_
    refine jC 90 [tx t] (bI c1) ?_
    exact jR Tryz.func28
 | false =>
   rcases c0 t with c1|c1
   ·rw [c1] at hz
    rw [if_neg (by rintro (h|h);exact absurd h (by decide);exact absurd h.1 (by decide))] at hz
    have hl:600<t.size:=by
     by_cases g:600<t.size
     ·exact g
     ·rw [if_neg (by omega)] at hz;exact absurd hz.symm h0
    rw [if_pos (.inl hl)] at hz
    subst hz
    refine jY Tryz.func28 fun w00 hI=>?_
    refine jC 33 [tx s,lt ⟨#[45]⟩] (bT ht hb) ?_
    refine jW hI 89 [tx t,lt ⟨#[47]⟩] (sN (a:=t) (b:=⟨#[]⟩) (r:=false) hts hcut) ?_
    refine jC 90 [tx t] (bI c1) ?_
    refine jO 53 t ?_
    refine jM 54 t.size 600 true (by rw [decide_eq_true_iff];omega) ?_
    exact jR Tryz.func28
   ·rw [if_pos (.inl c1)] at hz
    subst hz
    refine jY Tryz.func28 fun w00 hI=>?_
    refine jC 33 [tx s,lt ⟨#[45]⟩] (bT ht hb) ?_
    refine jW hI 89 [tx t,lt ⟨#[47]⟩] (sN (a:=t) (b:=⟨#[]⟩) (r:=false) hts hcut) ?_
    refine jC 90 [tx t] (bI c1) ?_
    exact jR Tryz.func28
theorem readBadF (hs:s.size<4294967281) (hz:dR s=z) (h0:z≠0):jX 28 [tx s] (badN z):=by
 by_cases h:aU (aN s)<(aN s).size
 ·exact zF hs hz h0 rfl rfl h rfl rfl
 ·exact zG hs hz h0 rfl rfl h
end
noncomputable def valB (s:ByteArray):Rat:=if h:dR s=0 then Classical.choose (yE h) else 0
theorem valB_ok {s:ByteArray} (h:dR s=0):s=writeB (valB s)∧Wr (valB s):=by
 unfold valB
 rw [dif_pos h]
 have:=Classical.choose_spec (yE h)
 exact ⟨this.1,this.2.1,this.2.2⟩
theorem valB_bad {s:ByteArray} (h:dR s≠0):valB s=0:=dif_neg h
abbrev okN (q:Rat) (z:Int):AV Kn := .tup [.ag [nb q],.sc (.lit (.int .i64 z))]
theorem readAnyF {s:ByteArray} {z:Int} (hs:s.size<4294967281) (hz:dR s=z):jX 28 [tx s] (okN (valB s) z):=by
 by_cases h:z=0
 ·subst h
  obtain ⟨e,hw⟩:=valB_ok hz
  have:=xT hw
  rw [← e] at this
  exact this
 ·rw [valB_bad (by rw [hz];exact h)]
  refine FitsW.res (readBadF hs hz h) fun β v w hv=>?_
  obtain ⟨vs,rfl,x,r,rfl,hx,hr⟩:=hv
  exact ⟨_,rfl,x,r,rfl,zero_num hx,hr⟩
def f2 (x y:Int):Int:=if x=0 then y else x
def f3 (x y z:Int):Int:=f2 x (f2 y z)
abbrev Ev (z:Int):Prop:=z=0∨z=1∨z=4
theorem f2_ev {x y:Int} (hx:Ev x) (hy:Ev y):Ev (f2 x y):=by unfold f2;split <;> assumption
abbrev lz (z:Int):Seg Kn := .lit (.int .i64 z)
theorem first2Any {T:TypeId} {x y z:Int} (hx:Ev x) (hy:Ev y) (hz:f2 x y=z):jF 61 [.fv (.nsl 2 T [lz x,lz y])] (it z):=by
 rcases hx with rfl|rfl|rfl
 ·have hz:y=z:=hz
  subst hz
  rcases hy with rfl|rfl|rfl <;> (refine kgoS Tryz.func61 (by kernel_rfl) fun w00=>?_;exact kret Tryz.func61 (by kernel_rfl))
 ·have hz:1=z:=hz
  subst hz
  refine kgoS Tryz.func61 (by kernel_rfl) fun w00=>?_
  exact jR Tryz.func61
 ·have hz:4=z:=hz
  subst hz
  refine kgoS Tryz.func61 (by kernel_rfl) fun w00=>?_
  exact jR Tryz.func61
abbrev Rb (s:ByteArray):Prop:=s.size<4294967281
abbrev Rb3 (a b c:ByteArray):Prop:=Rb a∧Rb b∧Rb c
abbrev c3 (a b c:ByteArray):Int:=f3 (dR a) (dR b) (dR c)
section
variable {a b c x y u:ByteArray} {z:Int}
abbrev noS (z:Int):AV Kn := .tup [.sc (.lit (.string ⟨#[]⟩)),.sc (lz z)]
theorem apiCheckF (h:Rb a) (hz:dR a=z):jX 7 [tx a] (it z):=by
 refine jY Tryz.func7 fun w00 hI=>?_
 refine jW hI 28 [tx a] (readAnyF h hz) ?_
 exact jR Tryz.func7
end
end Ab
end Go.Proofs.YtnhafhpmocabiaaGreatDoor
