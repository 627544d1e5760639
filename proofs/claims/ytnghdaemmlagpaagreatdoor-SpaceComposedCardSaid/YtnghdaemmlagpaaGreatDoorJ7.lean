/- Parts of the proof, joined. -/
import Derived.Test.YtnghdaemmlagpaaGreatDoorJ6
import Derived.RangeFuncNested
import Derived.RangeFuncBound
import Derived.RangeFuncCalls
import Derived.RangeFuncLeaves
import Derived.Shelf.Abstract
import Derived.Shelf.RegionOpen
import Derived.WalkKit
import Derived.OwnWalkIn
import Derived.TacticsInMore
import Derived.LoopNIn
import Derived.LoopIn
import Derived.KernelRfl
import Derived.Test.YtnghdaemmlagpaaGreatDoorProg
import Derived.Test.YtnghdaemmlagpaaGreatDoorJ5
import Derived.Laws.Tables
import Derived.Laws.CopyOwn
set_option maxHeartbeats 4000000
set_option linter.unusedSimpArgs false
set_option linter.unusedVariables false
set_option linter.constructorNameAsVariable false
namespace Go.Proofs.YtnghdaemmlagpaaGreatDoor
namespace Ab
open Go.RowKit Pl
abbrev pz (d:Nat):AV Kr := .fv (.ag [.lit (.bool false),.sp (qS d)])
theorem mC {o:Oper} {ρ:Operand→Value} {w:World} {t:Tmp} {A:Option Addr} {n c:Nat} (ho:o.op = .call ⟨.builtin .len,#[.tmp t],#[154]⟩) (hx:ρ (.tmp t) = .slice A n c) :
 (execOp ρ o).run Tryz.prog w = .ok (.value (.int .i64 n)) w:=by
 have hm:(#[Operand.tmp t].map ρ) = #[.slice A n c]:=by simp [hx]
 simp only [execOp,ho,resolve,Sem.run_bind,Sem.run_pure,Result.andThen,hm,invoke,builtin,Builtin.len_]
 simp [Sem.run_bind,run_underlying Tryz.underlying154,Result.andThen,goInt,Builtin.lenOf]
theorem nC {o:Oper} {ρ:Operand→Value} {w:World} {t:Tmp} {ad:Addr} {n c:Nat} (ho:o.op = .indexAddr 154 (.tmp t) (.const (.int .i64 0))) (hx:ρ (.tmp t) = .slice (some ad) n c) (hy:ρ (.const (.int .i64 0)) = .int .i64 0) (hn:0<n) :
 (execOp ρ o).run Tryz.prog w = .ok (.value (.pointer (some ad))) w:=by
 simp only [execOp,ho,hx,hy]
 refine bQ ?_
 have h0:¬ n=0:=by omega
 simp [go_sem,run_underlying Tryz.underlying154,hn,h0]
 done
def csP (x:Nat):CS Kr where
 size:=1
 cold:=true
 pred cs w := ∃ ad:Addr,cs = [.pointer (some ad)]∧w.cell? ad=some (.int .i64 (x:Int))
 stable cs w w' h hx:=by obtain ⟨ad,e,h⟩:=h;exact ⟨ad,e,hx.cell h rfl⟩
 len cs w h:=by obtain ⟨v,e,_⟩:=h;rw [e];rfl
 one cs w h:=by obtain ⟨v,e,_⟩:=h;rw [e];intro d hd;rw [List.mem_singleton] at hd;rw [hd];rfl
 iscold _ cs w h:=by obtain ⟨v,e,_⟩:=h;rw [e];intro d hd;rw [List.mem_singleton] at hd;rw [hd];rfl
def csNe:CS Kr where
 size:=1
 cold:=false
 pred cs _ := ∃ n:Int,cs = [.int .i64 n]∧n≠1
 stable _ _ _ h _:=h
 len cs w h:=by obtain ⟨v,e,_⟩:=h;rw [e];rfl
 one cs w h:=by obtain ⟨v,e,_⟩:=h;rw [e];intro d hd;rw [List.mem_singleton] at hd;rw [hd];rfl
 iscold h:=by cases h
abbrev rP (x:Nat):AV Kr := .fv (.sc (.sp (csP x)))
abbrev rNe:AV Kr := .fv (.sc (.sp csNe))
theorem jV {w:World} {v:Value} {q:Nat} (h:Di w v q) (h0:0<q) (hq:q<B9):∃ ad c,v = .slice (some ad) 1 c∧w.cell? ad=some (.int .i64 (q:Int)):=by
 obtain ⟨A,n,c,xs,rfl,hr,hd,hn,rfl⟩:=h
 have hl:=aW dV hn (L:=1) (by rw [Nat.pow_one];exact hq)
 match xs,hl,hr with
 | [],_,_=>simp [val] at h0
 | [x],_,hr =>
   obtain rfl:n=1:=hr.len.symm
   obtain ⟨ad,y,rfl,_,hy,hc⟩:=hr.at_ (k:=0) (by omega)
   simp at hy
   subst hy
   exact ⟨ad,c,rfl,by simpa [val,Addr.add] using hc⟩
theorem xP {w:World} {v:Value} {q:Nat} (h:Di w v q) (hq:B9≤q):∃ A n c,v = .slice A n c∧n≠1:=by
 obtain ⟨A,n,c,xs,rfl,hr,hd,hn,rfl⟩:=h
 refine ⟨A,n,c,rfl,fun e=>?_⟩
 have h1:=cA hd
 rw [hr.len,e,Nat.pow_one] at h1
 omega
theorem vF {o:Oper} {ρ:Operand→Value} {w:World} {t:Tmp} {ad:Addr} {x:Int} (ho:o.op = .load 3 (.tmp t)) (hx:ρ (.tmp t) = .pointer (some ad)) (hc:w.cell? ad=some (.int .i64 x)) :
 (execOp ρ o).run Tryz.prog w = .ok (.value (.int .i64 x)) w:=by
 simp only [execOp,ho,hx]
 refine bQ ?_
 simp [go_sem,hc]
theorem iR {o:Oper} {ρ:Operand→Value} {w:World} {x y:Operand} {a b:Int} {r:Bool} (ho:o.op = .binOp .eql 3 x y 3) (hx:ρ x = .int .i64 a) (hy:ρ y = .int .i64 b) (h:(a==b)=r) :
 (execOp ρ o).run Tryz.prog w = .ok (.value (.bool r)) w:=by
 simp only [execOp,ho,hx,hy]
 refine bQ ?_
 rw [← h]
 exact bX (by kernel_rfl) w
theorem pP {a:Nat}:jF 176 [rl false,di a] (iz (a:Int)):=by
 intro β w vs hv
 obtain ⟨v,u,rfl,h1,h2⟩:=eB hv
 rw [cD h1]
 have := @fD false a β w [.bool false,u] ⟨_,_,rfl,cU,u,[],rfl,h2,rfl⟩
 simpa [iH] using this
section
variable {n:Int} {d:Nat}
theorem fractionF (hn:Bd n.natAbs) (hd:Bd d) (hd0:0<d) (hp:n.natAbs<B9^100000000) (hq:d<B9^100000000) (hs1:(aQ (iH (decide (n<0)) (n.natAbs/Nat.gcd n.natAbs d))).size≤1000000000) (hs2:(aQ ((d/Nat.gcd n.natAbs d:Nat):Int)).size≤1000000000) :
 jF 119 [iz n,pz d] (rS (if d/Nat.gcd n.natAbs d=1 then aQ (iH (decide (n<0)) (n.natAbs/Nat.gcd n.natAbs d)) else aQ (iH (decide (n<0)) (n.natAbs/Nat.gcd n.natAbs d))++⟨#[47]⟩++aQ ((d/Nat.gcd n.natAbs d:Nat):Int))):=by
 have hg:0<Nat.gcd n.natAbs d:=Nat.gcd_pos_of_pos_right _ hd0
 have hq0:0<d/Nat.gcd n.natAbs d:=Nat.div_pos (Nat.gcd_le_right _ hd0) hg
 have hq1:d/Nat.gcd n.natAbs d≤d:=Nat.div_le_self _ _
 have hp1:(iH (decide (n<0)) (n.natAbs/Nat.gcd n.natAbs d)).natAbs<B9^100000000:=by rw [tM];exact Nat.lt_of_le_of_lt (Nat.div_le_self _ _) hp
 have hq2:((d/Nat.gcd n.natAbs d:Nat):Int).natAbs<B9^100000000:=by rw [Int.natAbs_natCast];exact Nat.lt_of_le_of_lt hq1 hq
 generalize hG:Nat.gcd n.natAbs d=g at *
 generalize hP:iH (decide (n<0)) (n.natAbs/g)=p at *
 generalize hQ:d/g=q at *
 by_cases h1:q=1
 ·rw [if_pos h1]
  refine jT Tryz.func119 fun w00=>?_
  refine jB 116 [di n.natAbs,di d] (by have:=lS hn hd;rw [hG] at this;exact this) ?_
  refine jB 170 [di n.natAbs,di g] (wZ hn hg) ?_
  refine jB 170 [di d,di g] (by have:=wZ (a:=d) (b:=g) hd hg;rw [hQ] at this;exact this) ?_
  refine jB 176 [rb (decide (n<0)),di (n.natAbs/g)] (by have := @fD (decide (n<0)) (n.natAbs/g);rw [hP] at this;exact this) ?_
  refine jB 175 [iz p] (rJ hp1) ?_
  refine jL (.call ⟨.builtin .len,#[.tmp 41],#[154]⟩) (.tmp 41) (.tmp 41) (di q) (di q) (.fv (.sc (.lit (.int .i64 1)))) (fun ρ o β w ho hx _=>?_) ?_
  ·obtain ⟨ad,c,e,_⟩:=jV (bC.1 hx) hq0 (by rw [h1];exact dV)
   exact ⟨_,mC ho e,fE rfl⟩
  refine jL (.indexAddr 154 (.tmp 45) (.const (.int .i64 0))) (.tmp 45) (.const (.int .i64 0)) (di q) (.fv (.sc (.lit (.int .i64 0)))) (rP q) (fun ρ o β w ho hx hy=>?_) ?_
  ·obtain ⟨ad,c,e,hc⟩:=jV (bC.1 hx) hq0 (by rw [h1];exact dV)
   exact ⟨_,nC ho e (cD hy) (by omega),⟨ad,rfl,hc⟩⟩
  refine jL (.load 3 (.tmp 46)) (.tmp 46) (.tmp 46) (rP q) (rP q) (.fv (.sc (.lit (.int .i64 1)))) (fun ρ o β w ho hx _=>?_) ?_
  ·obtain ⟨ad,e,hc⟩:=hx
   injection e with e
   rw [h1] at hc
   exact ⟨_,vF ho e hc,fE rfl⟩
  exact jS Tryz.func119
 ·rw [if_neg h1]
  have hcat1:(aQ p).size+(⟨#[47]⟩:ByteArray).size≤9223372036854775807:=by
   have:(⟨#[47]⟩:ByteArray).size=1:=rfl
   omega
  have hcat2:(aQ p++⟨#[47]⟩:ByteArray).size+(aQ (q:Int)).size≤9223372036854775807:=by
   have:(⟨#[47]⟩:ByteArray).size=1:=rfl
   rw [ByteArray.size_append]
   omega
  by_cases h2:q<B9
  ·refine jT Tryz.func119 fun w00=>?_
   refine jB 116 [di n.natAbs,di d] (by have:=lS hn hd;rw [hG] at this;exact this) ?_
   refine jB 170 [di n.natAbs,di g] (wZ hn hg) ?_
   refine jB 170 [di d,di g] (by have:=wZ (a:=d) (b:=g) hd hg;rw [hQ] at this;exact this) ?_
   refine jB 176 [rb (decide (n<0)),di (n.natAbs/g)] (by have := @fD (decide (n<0)) (n.natAbs/g);rw [hP] at this;exact this) ?_
   refine jB 175 [iz p] (rJ hp1) ?_
   refine jL (.call ⟨.builtin .len,#[.tmp 41],#[154]⟩) (.tmp 41) (.tmp 41) (di q) (di q) (.fv (.sc (.lit (.int .i64 1)))) (fun ρ o β w ho hx _=>?_) ?_
   ·obtain ⟨ad,c,e,_⟩:=jV (bC.1 hx) hq0 h2
    exact ⟨_,mC ho e,fE rfl⟩
   refine jL (.indexAddr 154 (.tmp 45) (.const (.int .i64 0))) (.tmp 45) (.const (.int .i64 0)) (di q) (.fv (.sc (.lit (.int .i64 0)))) (rP q) (fun ρ o β w ho hx hy=>?_) ?_
   ·obtain ⟨ad,c,e,hc⟩:=jV (bC.1 hx) hq0 h2
    exact ⟨_,nC ho e (cD hy) (by omega),⟨ad,rfl,hc⟩⟩
   refine jL (.load 3 (.tmp 46)) (.tmp 46) (.tmp 46) (rP q) (rP q) (rI q) (fun ρ o β w ho hx _=>?_) ?_
   ·obtain ⟨ad,e,hc⟩:=hx
    injection e with e
    exact ⟨_,vF ho e hc,cU⟩
   refine jL (.binOp .eql 3 (.tmp 47) (.const (.int .i64 1)) 3) (.tmp 47) (.const (.int .i64 1)) (rI q) (.fv (.sc (.lit (.int .i64 1)))) (rl false) (fun ρ o β w ho hx hy=>⟨.bool false,iR ho (bB hx) (cD hy) (by simp;omega),fE rfl⟩) ?_
   refine jL (.binOp .add 9 (.tmp 51) (.const (.string ⟨#[47]⟩)) 9) (.tmp 51) (.const (.string ⟨#[47]⟩)) (rS (aQ p)) (.fv (.sc (.lit (.string ⟨#[47]⟩)))) (rS (aQ p++⟨#[47]⟩)) (fun ρ o β w ho hx hy=>⟨_,eZ ho (bB hx) (cD hy) hcat1,cU⟩) ?_
   refine jB 176 [rl false,di q] pP ?_
   refine jB 175 [iz (q:Int)] (rJ hq2) ?_
   refine jL (.binOp .add 9 (.tmp 52) (.tmp 55) 9) (.tmp 52) (.tmp 55) (rS (aQ p++⟨#[47]⟩)) (rS (aQ (q:Int))) (rS (aQ p++⟨#[47]⟩++aQ (q:Int))) (fun ρ o β w ho hx hy=>⟨_,eZ ho (bB hx) (bB hy) hcat2,cU⟩) ?_
   exact jS Tryz.func119
  ·refine jT Tryz.func119 fun w00=>?_
   refine jB 116 [di n.natAbs,di d] (by have:=lS hn hd;rw [hG] at this;exact this) ?_
   refine jB 170 [di n.natAbs,di g] (wZ hn hg) ?_
   refine jB 170 [di d,di g] (by have:=wZ (a:=d) (b:=g) hd hg;rw [hQ] at this;exact this) ?_
   refine jB 176 [rb (decide (n<0)),di (n.natAbs/g)] (by have := @fD (decide (n<0)) (n.natAbs/g);rw [hP] at this;exact this) ?_
   refine jB 175 [iz p] (rJ hp1) ?_
   refine jL (.call ⟨.builtin .len,#[.tmp 41],#[154]⟩) (.tmp 41) (.tmp 41) (di q) (di q) rNe (fun ρ o β w ho hx _=>?_) ?_
   ·obtain ⟨A,m,c,e,hm⟩:=xP (bC.1 hx) (Nat.le_of_not_lt h2)
    exact ⟨_,mC ho e,⟨(m:Int),rfl,by omega⟩⟩
   refine jL (.binOp .eql 3 (.tmp 42) (.const (.int .i64 1)) 3) (.tmp 42) (.const (.int .i64 1)) rNe (.fv (.sc (.lit (.int .i64 1)))) (rl false) (fun ρ o β w ho hx hy=>?_) ?_
   ·obtain ⟨m,e,hm⟩:=hx
    injection e with e
    exact ⟨.bool false,iR ho e (cD hy) (by simpa using hm),fE rfl⟩
   refine jL (.binOp .add 9 (.tmp 51) (.const (.string ⟨#[47]⟩)) 9) (.tmp 51) (.const (.string ⟨#[47]⟩)) (rS (aQ p)) (.fv (.sc (.lit (.string ⟨#[47]⟩)))) (rS (aQ p++⟨#[47]⟩)) (fun ρ o β w ho hx hy=>⟨_,eZ ho (bB hx) (cD hy) hcat1,cU⟩) ?_
   refine jB 176 [rl false,di q] pP ?_
   refine jB 175 [iz (q:Int)] (rJ hq2) ?_
   refine jL (.binOp .add 9 (.tmp 52) (.tmp 55) 9) (.tmp 52) (.tmp 55) (rS (aQ p++⟨#[47]⟩)) (rS (aQ (q:Int))) (rS (aQ p++⟨#[47]⟩++aQ (q:Int))) (fun ρ o β w ho hx hy=>⟨_,eZ ho (bB hx) (bB hy) hcat2,cU⟩) ?_
   exact jS Tryz.func119
end
end Ab
section
open Go.RowKit Pl
def ParseNext (w:World) (r r' : ByteArray) (ws:List Nat):Prop :=
 Dig B9 ws∧AllDig (aC r')∧aU (aC r)=val B9 ws+B9^ws.length*aU (aC r')∧r'.size+9*ws.length=r.size
def ParseAt (w:World) (r:ByteArray) (dv wv:Value) (wr:World):Prop :=
 ∃ (r' : ByteArray) (ws:List Nat),dv = .string r'∧wr.ownsRow (w.heap.size+1) 3 1 wv ws.length (ws.map eA)∧Dig B9 ws∧AllDig (aC r')∧aU (aC r)=val B9 ws+B9^ws.length*aU (aC r')∧r'.size+9*ws.length=r.size ∧
   Below w.heap.size w wr∧wr.heap[w.heap.size]?=some (.cells #[.bool false,.slice none 0 0] 156 (0,0))∧w.heap.size<wr.heap.size
set_option maxRecDepth 100000 in
theorem wM (r:ByteArray) (w:World) (hd:AllDig (aC r)) (h0:0<r.size) (hs:r.size≤100000):Calls Tryz.prog 168 #[.string r] w fun e w' => ∃ v,e = .returned v∧In w' v (iH false (aU (aC r)))∧Below w.heap.size w w':=by
 have HD:=aH (aI hd hs)
 have k0:(0:Int)<r.size:=by omega
 obtain ⟨c,hc⟩:∃ c:Nat,(r[0]'h0).toNat=c:=⟨_,rfl⟩
 have k45:((c:Int)==45)=false:=by
  have:=hd _ (List.mem_of_getElem? (cR h0))
  rw [hc] at this
  simp;omega
 clear hd hs
 go_enter Tryz.func168,Tryz.ntmps168
 go_wp2
 clear hc k45
 go_loopw [0,4] (fun dv wv wr=>ParseAt w r dv wv wr) (fun dv _ _=>nU dv)
 case atStart=>exact ⟨r,[],rfl,⟨rfl,.inl ⟨rfl,rfl⟩⟩,Dig.nil _,HD.out.1,by simp [val],by simp,(aB _ _).alloc (aR _) _,heap_alloc_new w _,by simp⟩
 case round =>
  obtain ⟨r',ws,rfl,hrow,hdw,hd',hval,hsz,hb,hh,hs⟩:=hrel
  have hr1:r'.size≤100000:=by have:=HD.out.2;omega
  have hw1:ws.length≤100000:=by have:=HD.out.2;omega
  by_cases h9:9<r'.size
  ·have k1:(9:Int)<r'.size:=by omega
   have k2:(r'.size:Int)≤100000:=by omega
   have hlt:aU (aC (r'.extract (r'.size-9) r'.size))<B9:=by
    have e1:aC (r'.extract (r'.size-9) r'.size)=(aC r').drop (r'.size-9):=by rw [aS,List.take_of_length_le (by rw [aE];exact aR _)]
    rw [e1]
    have h1:=gH (hd'.drop (r'.size-9))
    rw [List.length_drop,aE,show r'.size-(r'.size-9)=9 by omega] at h1
    exact h1
   have hnat:aU (aC r')=aU (aC (r'.extract 0 (r'.size-9)))*B9+aU (aC (r'.extract (r'.size-9) r'.size)):=by
    have e1:aC (r'.extract (r'.size-9) r'.size)=(aC r').drop (r'.size-9):=by rw [aS,List.take_of_length_le (by rw [aE];exact aR _)]
    have e2:aC (r'.extract 0 (r'.size-9))=(aC r').take (r'.size-9):=by rw [aS,List.drop_zero]
    rw [e1,e2]
    conv=>lhs;rw [← List.take_append_drop (r'.size-9) (aC r'),fJ]
    rw [List.length_drop,aE,show r'.size-(r'.size-9)=9 by omega]
    rfl
   have cv:=aH (fun W=>mY (r'.extract (r'.size-9) r'.size) W (by rw [aS];exact (hd'.take _).drop _) (by simp;omega))
   obtain ⟨x,hx⟩:∃ x,x=aU (aC (r'.extract (r'.size-9) r'.size)):=⟨_,rfl⟩
   rw [← hx] at cv hlt hnat
   have hnext:ParseNext w r (r'.extract 0 (r'.size-9)) (ws ++ [x]):=by
    refine ⟨hdw.app (Dig.cons hlt (Dig.nil _)),by rw [aS,List.drop_zero];exact hd'.take _,?_,?_⟩
    ·rw [cQ,List.length_append,List.length_singleton,Nat.pow_succ,hval,hnat]
     generalize aU (aC (r'.extract 0 (r'.size-9)))=m
     generalize B9^ws.length=P
     generalize B9=V
     grind
    ·rw [List.length_append,List.length_singleton];simp;omega
   have HE:=aH (aI hrow (aI hnext (aI hb (aI hh (aI hs (by omega:ws.length≤2199023255999))))))
   clear hrow hnext hb hh hs hdw hd' hval hsz hlt hnat hx hw1 hr1
   go_wp2_with fail
   refine (cv.out _).mono ?_
   rintro e w' ⟨rfl,rfl⟩
   go_wp2_with (at_builtin;refine fZ (r:=x) (B:=w.heap.size) rfl _ _ rfl rfl HE.out.1 rfl HE.out.2.2.2.2.2 HE.out.2.2.1 (Nat.le_succ _) HE.out.2.2.2.2.1 ?_)
   intro v' w3 hr3 hbw hg3
   have hr3' : w3.ownsRow (w.heap.size+1) 3 1 v' (ws ++ [x]).length ((ws ++ [x]).map eA):=by
    rw [List.length_append,List.length_singleton,List.map_append];exact hr3
   have hh3:w3.heap[w.heap.size]?=some (.cells #[.bool false,.slice none 0 0] 156 (0,0)):=by
    have h2:=(Below.heap_alloc w' (.cells #[.int .i64 (x:Int)] 3) _ HE.out.2.2.2.2.1).trans HE.out.2.2.2.1
    refine gC hg3 h2 ?_
    intro he
    have:=mZ HE.out.1 _ he.symm
    omega
   have hs3:w.heap.size<w3.heap.size:=by have:=hg3.size;have:=HE.out.2.2.2.2.1;simp at *;omega
   have HX:=aH (aI hr3' (aI hbw (aI hh3 hs3)))
   clear hr3 hr3' hbw hg3 hh3 hs3
   go_wp2
   go_roundw
   case rel =>
    obtain ⟨h1,h2,h3,h4⟩:=HE.out.2.1
    exact ⟨_,ws ++ [x],rfl,HX.out.1,h1,h2,h3,h4,HX.out.2.1,HX.out.2.2.1,HX.out.2.2.2⟩
   case measure =>
    clear HX HE
    simp [nU];omega
  ·have k1:¬ (9:Int)<r'.size:=by omega
   have cv:=aH (fun W=>mY r' W hd' (by omega))
   have hlt:aU (aC r')<B9:=by
    have h1:=gH hd'
    rw [aE] at h1
    refine Nat.lt_of_lt_of_le h1 ?_
    have:10^r'.size≤10^9:=Nat.pow_le_pow_right (by omega) (by omega)
    exact this
   obtain ⟨x,hx⟩:∃ x,x=aU (aC r'):=⟨_,rfl⟩
   rw [← hx] at cv hlt hval
   have hfin:iH false (val B9 (ws ++ [x]))=iH false (aU (aC r)):=by rw [cQ,hval]
   have HE:=aH (aI hrow (aI hfin (aI hb (aI hh (aI hs (aI (by omega:ws.length≤2199023255999) (hdw.app (Dig.cons hlt (Dig.nil _)))))))))
   clear hrow hfin hb hh hs hdw hd' hval hsz hlt hx hw1 hr1 h9
   go_wp2_with fail
   refine (cv.out _).mono ?_
   rintro e w' ⟨rfl,rfl⟩
   go_wp2_with (at_builtin;refine fZ (r:=x) (B:=w.heap.size) rfl _ _ rfl rfl HE.out.1 rfl HE.out.2.2.2.2.2.1 HE.out.2.2.1 (Nat.le_succ _) HE.out.2.2.2.2.1 ?_)
   intro v' w3 hr3 hbw hg3
   have hr3' : w3.ownsRow (w.heap.size+1) 3 1 v' (ws.length+1) ((ws ++ [x]).map eA):=by
    rw [List.map_append];exact hr3
   obtain ⟨A3,c3,rfl,hri⟩:=xN hr3'
   have hh3:w3.heap[w.heap.size]?=some (.cells #[.bool false,.slice none 0 0] 156 (0,0)):=by
    have h2:=(Below.heap_alloc w' (.cells #[.int .i64 (x:Int)] 3) _ HE.out.2.2.2.2.1).trans HE.out.2.2.2.1
    refine gC hg3 h2 ?_
    intro he
    have:=mZ HE.out.1 _ he.symm
    omega
   have hs3:w.heap.size<w3.heap.size:=by have:=hg3.size;have:=HE.out.2.2.2.2.1;simp at *;omega
   have HX:=aH (aI hri (aI hbw (aI hh3 hs3)))
   clear hr3 hr3' hbw hg3 hh3 hs3 hri
   go_wp2_with fail
   refine (lH false A3 _ c3 (ws ++ [x]) _ HX.out.1 HE.out.2.2.2.2.2.2).mono ?_
   rintro e w2 ⟨v,rfl,q,b⟩
   rw [HE.out.2.1] at q
   have hh2:w2.heap[w.heap.size]?=some (.cells #[.bool false,.slice none 0 0] 156 (0,0)):=(b.block _ HX.out.2.2.2).trans HX.out.2.2.1
   have hb2:Below w.heap.size w w2:=HX.out.2.1.trans (b.mono (Nat.le_of_lt HX.out.2.2.2))
   obtain ⟨A',n',c',xs',rfl,q'⟩:=id q
   have Q:=aH (aI q (aI hh2 hb2))
   clear q q' b hh2 hb2
   obtain ⟨⟨b0,b1⟩,f0,f1⟩:=blk2i Q.out.2.1
   go_wp2
   obtain ⟨q,hh2,hb2⟩:=Q.out
   obtain ⟨⟨g0,g1⟩,_⟩:=blk2i (vE hh2 (x := .bool (decide (iH false (aU (aC r))<0))) (y := .slice A' n' c'))
   refine bodyPost_ret (v := .agg #[.bool (decide (iH false (aU (aC r))<0)),.slice A' n' c']) (by simp [results,Tryz.results168,go_sem,g0,g1]) rfl ⟨_,rfl,q.set2 hh2 (fun n h=>by cases h) (fun n h=>by cases h),?_⟩
   exact (hb2.setCell (p:=⟨w.heap.size,0,none⟩) (aR _) _).setCell (p:=⟨w.heap.size,1,none⟩) (aR _) _
set_option maxRecDepth 100000 in
theorem parse_minus (r : ByteArray) (w : World) (hd:AllDig (aC r)) (hs:r.size≤100000):Calls Tryz.prog 168 #[.string (⟨#[45]⟩++r)] w fun e w' => ∃ v,e = .returned v∧In w' v (iH true (aU (aC r)))∧Below w.heap.size w w':=by
 have HD:=aH (aI hd hs)
 obtain ⟨s,hs'⟩:∃ s,s=(⟨#[45]⟩++r:ByteArray):=⟨_,rfl⟩
 have hsz : s.size = r.size + 1 := by rw [hs',ByteArray.size_append];have:(⟨#[45]⟩:ByteArray).size=1:=rfl
                                      omega
 have h0:0<s.size:=by omega
 have k0:(0:Int)<s.size:=by omega
 have k1:(s.size:Int)≤100001:=by omega
 have hbs:aC s=45::aC r:=by rw [hs'];simp [aC]
 have hc:(s[0]'h0).toNat=45:=by
  have h1:=cR h0
  rw [hbs] at h1
  simp at h1
  rw [← h1];rfl
 have hext:s.extract 1 (r.size+1)=r:=by
  subst hs'
  apply Ab.ba_ext
  simp [hsz]
  exact List.take_of_length_le (Nat.le_of_eq rfl)
 rw [← hs']
 clear hd hs hs' hbs
 go_enter Tryz.func168,Tryz.ntmps168
 go_wp2
 try rw [hext]
 clear hc hext
 go_loopw [0,4] (fun dv wv wr=>ParseAt w r dv wv wr) (fun dv _ _=>nU dv)
 case atStart=>exact ⟨r,[],rfl,⟨rfl,.inl ⟨rfl,rfl⟩⟩,Dig.nil _,HD.out.1,by simp [val],by simp,(aB _ _).alloc (aR _) _,heap_alloc_new w _,by simp⟩
 case round =>
  obtain ⟨r',ws,rfl,hrow,hdw,hd',hval,hsz,hb,hh,hs⟩:=hrel
  have hr1:r'.size≤100000:=by have:=HD.out.2;omega
  have hw1:ws.length≤100000:=by have:=HD.out.2;omega
  by_cases h9:9<r'.size
  ·have k1:(9:Int)<r'.size:=by omega
   have k2:(r'.size:Int)≤100000:=by omega
   have hlt:aU (aC (r'.extract (r'.size-9) r'.size))<B9:=by
    have e1:aC (r'.extract (r'.size-9) r'.size)=(aC r').drop (r'.size-9):=by rw [aS,List.take_of_length_le (by rw [aE];exact aR _)]
    rw [e1]
    have h1:=gH (hd'.drop (r'.size-9))
    rw [List.length_drop,aE,show r'.size-(r'.size-9)=9 by omega] at h1
    exact h1
   have hnat:aU (aC r')=aU (aC (r'.extract 0 (r'.size-9)))*B9+aU (aC (r'.extract (r'.size-9) r'.size)):=by
    have e1:aC (r'.extract (r'.size-9) r'.size)=(aC r').drop (r'.size-9):=by rw [aS,List.take_of_length_le (by rw [aE];exact aR _)]
    have e2:aC (r'.extract 0 (r'.size-9))=(aC r').take (r'.size-9):=by rw [aS,List.drop_zero]
    rw [e1,e2]
    conv=>lhs;rw [← List.take_append_drop (r'.size-9) (aC r'),fJ]
    rw [List.length_drop,aE,show r'.size-(r'.size-9)=9 by omega]
    rfl
   have cv:=aH (fun W=>mY (r'.extract (r'.size-9) r'.size) W (by rw [aS];exact (hd'.take _).drop _) (by simp;omega))
   obtain ⟨x,hx⟩:∃ x,x=aU (aC (r'.extract (r'.size-9) r'.size)):=⟨_,rfl⟩
   rw [← hx] at cv hlt hnat
   have hnext:ParseNext w r (r'.extract 0 (r'.size-9)) (ws ++ [x]):=by
    refine ⟨hdw.app (Dig.cons hlt (Dig.nil _)),by rw [aS,List.drop_zero];exact hd'.take _,?_,?_⟩
    ·rw [cQ,List.length_append,List.length_singleton,Nat.pow_succ,hval,hnat]
     generalize aU (aC (r'.extract 0 (r'.size-9)))=m
     generalize B9^ws.length=P
     generalize B9=V
     grind
    ·rw [List.length_append,List.length_singleton];simp;omega
   have HE:=aH (aI hrow (aI hnext (aI hb (aI hh (aI hs (by omega:ws.length≤2199023255999))))))
   clear hrow hnext hb hh hs hdw hd' hval hsz hlt hnat hx hw1 hr1
   go_wp2_with fail
   refine (cv.out _).mono ?_
   rintro e w' ⟨rfl,rfl⟩
   go_wp2_with (at_builtin;refine fZ (r:=x) (B:=w.heap.size) rfl _ _ rfl rfl HE.out.1 rfl HE.out.2.2.2.2.2 HE.out.2.2.1 (Nat.le_succ _) HE.out.2.2.2.2.1 ?_)
   intro v' w3 hr3 hbw hg3
   have hr3' : w3.ownsRow (w.heap.size+1) 3 1 v' (ws ++ [x]).length ((ws ++ [x]).map eA):=by
    rw [List.length_append,List.length_singleton,List.map_append];exact hr3
   have hh3:w3.heap[w.heap.size]?=some (.cells #[.bool false,.slice none 0 0] 156 (0,0)):=by
    have h2:=(Below.heap_alloc w' (.cells #[.int .i64 (x:Int)] 3) _ HE.out.2.2.2.2.1).trans HE.out.2.2.2.1
    refine gC hg3 h2 ?_
    intro he
    have:=mZ HE.out.1 _ he.symm
    omega
   have hs3:w.heap.size<w3.heap.size:=by have:=hg3.size;have:=HE.out.2.2.2.2.1;simp at *;omega
   have HX:=aH (aI hr3' (aI hbw (aI hh3 hs3)))
   clear hr3 hr3' hbw hg3 hh3 hs3
   go_wp2
   go_roundw
   case rel =>
    obtain ⟨h1,h2,h3,h4⟩:=HE.out.2.1
    exact ⟨_,ws ++ [x],rfl,HX.out.1,h1,h2,h3,h4,HX.out.2.1,HX.out.2.2.1,HX.out.2.2.2⟩
   case measure =>
    clear HX HE
    simp [nU];omega
  ·have k1:¬ (9:Int)<r'.size:=by omega
   have cv:=aH (fun W=>mY r' W hd' (by omega))
   have hlt:aU (aC r')<B9:=by
    have h1:=gH hd'
    rw [aE] at h1
    refine Nat.lt_of_lt_of_le h1 ?_
    have:10^r'.size≤10^9:=Nat.pow_le_pow_right (by omega) (by omega)
    exact this
   obtain ⟨x,hx⟩:∃ x,x=aU (aC r'):=⟨_,rfl⟩
   rw [← hx] at cv hlt hval
   have hfin:iH true (val B9 (ws ++ [x]))=iH true (aU (aC r)):=by rw [cQ,hval]
   have HE:=aH (aI hrow (aI hfin (aI hb (aI hh (aI hs (aI (by omega:ws.length≤2199023255999) (hdw.app (Dig.cons hlt (Dig.nil _)))))))))
   clear hrow hfin hb hh hs hdw hd' hval hsz hlt hx hw1 hr1 h9
   go_wp2_with fail
   refine (cv.out _).mono ?_
   rintro e w' ⟨rfl,rfl⟩
   go_wp2_with (at_builtin;refine fZ (r:=x) (B:=w.heap.size) rfl _ _ rfl rfl HE.out.1 rfl HE.out.2.2.2.2.2.1 HE.out.2.2.1 (Nat.le_succ _) HE.out.2.2.2.2.1 ?_)
   intro v' w3 hr3 hbw hg3
   have hr3' : w3.ownsRow (w.heap.size+1) 3 1 v' (ws.length+1) ((ws ++ [x]).map eA):=by
    rw [List.map_append];exact hr3
   obtain ⟨A3,c3,rfl,hri⟩:=xN hr3'
   have hh3:w3.heap[w.heap.size]?=some (.cells #[.bool false,.slice none 0 0] 156 (0,0)):=by
    have h2:=(Below.heap_alloc w' (.cells #[.int .i64 (x:Int)] 3) _ HE.out.2.2.2.2.1).trans HE.out.2.2.2.1
    refine gC hg3 h2 ?_
    intro he
    have:=mZ HE.out.1 _ he.symm
    omega
   have hs3:w.heap.size<w3.heap.size:=by have:=hg3.size;have:=HE.out.2.2.2.2.1;simp at *;omega
   have HX:=aH (aI hri (aI hbw (aI hh3 hs3)))
   clear hr3 hr3' hbw hg3 hh3 hs3 hri
   go_wp2_with fail
   refine (lH true A3 _ c3 (ws ++ [x]) _ HX.out.1 HE.out.2.2.2.2.2.2).mono ?_
   rintro e w2 ⟨v,rfl,q,b⟩
   rw [HE.out.2.1] at q
   have hh2:w2.heap[w.heap.size]?=some (.cells #[.bool false,.slice none 0 0] 156 (0,0)):=(b.block _ HX.out.2.2.2).trans HX.out.2.2.1
   have hb2:Below w.heap.size w w2:=HX.out.2.1.trans (b.mono (Nat.le_of_lt HX.out.2.2.2))
   obtain ⟨A',n',c',xs',rfl,q'⟩:=id q
   have Q:=aH (aI q (aI hh2 hb2))
   clear q q' b hh2 hb2
   obtain ⟨⟨b0,b1⟩,f0,f1⟩:=blk2i Q.out.2.1
   go_wp2
   obtain ⟨q,hh2,hb2⟩:=Q.out
   obtain ⟨⟨g0,g1⟩,_⟩:=blk2i (vE hh2 (x := .bool (decide (iH true (aU (aC r))<0))) (y := .slice A' n' c'))
   refine bodyPost_ret (v := .agg #[.bool (decide (iH true (aU (aC r))<0)),.slice A' n' c']) (by simp [results,Tryz.results168,go_sem,g0,g1]) rfl ⟨_,rfl,q.set2 hh2 (fun n h=>by cases h) (fun n h=>by cases h),?_⟩
   exact (hb2.setCell (p:=⟨w.heap.size,0,none⟩) (aR _) _).setCell (p:=⟨w.heap.size,1,none⟩) (aR _) _
end
namespace Ab
open Go.RowKit Pl
theorem fS (n:Nat):AllDig (aC (decB n)):=by
 have:aC (decB n)=Lib.decDigits n:=dD n
 rw [this];exact (cH n).2.1
theorem fF (n:Nat):aU (aC (decB n))=n:=by
 have:aC (decB n)=Lib.decDigits n:=dD n
 rw [this];exact (cH n).1
theorem tN (n:Nat):0<(decB n).size:=by
 have h:(decB n).size=(Lib.decDigits n).length:=by simp [decB,ByteArray.size]
 rw [h];exact List.length_pos_iff.2 (cH n).2.2
theorem pz_of {β:List Nat} {v:Value} {w:World} {d:Nat} (h:In w v (d:Int)):(pz d).holds β v w:=by
 obtain ⟨A,n,c,xs,rfl,hr,hd,hn,hv⟩:=h
 have e:decide ((d:Int)<0)=false:=decide_eq_false (xO d)
 rw [e]
 exact ⟨[.bool false,.slice A n c],rfl,[.bool false],_,rfl,⟨rfl,rfl⟩,[.slice A n c],[],rfl,⟨_,rfl,A,n,c,xs,rfl,hr,hd,hn,by simpa using hv⟩,rfl⟩
theorem parseF {z:Int} (hz:(decB z.natAbs).size≤100000):jF 168 [rS (aQ z)] (iz z):=by
 intro β w vs hv
 obtain ⟨v,rfl,h1⟩:=dF hv
 rw [bB h1]
 unfold aQ
 split
 ·rename_i h
  refine (parse_minus (decB z.natAbs) w (fS _) hz).mono fun e w' ⟨v,e1,e2,e3⟩=>⟨v,e1,e3,nB.2 ?_⟩
  rw [fF] at e2
  have:iH true z.natAbs=z:=by simp [iH];omega
  rwa [this] at e2
 ·rename_i h
  refine (wM (decB z.natAbs) w (fS _) (tN _) hz).mono fun e w' ⟨v,e1,e2,e3⟩=>⟨v,e1,e3,nB.2 ?_⟩
  rw [fF] at e2
  have:iH false z.natAbs=z:=by simp [iH];omega
  rwa [this] at e2
theorem parseDF {d:Nat} (hz:(decB d).size≤100000):jF 168 [rS (decB d)] (pz d):=by
 intro β w vs hv
 obtain ⟨v,rfl,h1⟩:=dF hv
 rw [bB h1]
 refine (wM (decB d) w (fS _) (tN _) hz).mono fun e w' ⟨v,e1,e2,e3⟩=>⟨v,e1,e3,pz_of ?_⟩
 rw [fF] at e2
 exact e2
theorem wholeOneF:jF 169 [.fv (.sc (.lit (.int .i64 1)))] (pz 1):=by
 intro β w vs hv
 obtain ⟨v,rfl,h1⟩:=dF hv
 rw [cD h1]
 exact (whole_any 1 w (by constructor <;> omega)).mono fun e w' ⟨v,e1,e2,e3⟩=>⟨v,e1,e3,pz_of e2⟩
theorem fG {s:ByteArray} (hs:s.size≤9223372036854775807):jF 113 [rS s] (rI (aJ s:Nat)):=by
 intro β w vs hv
 obtain ⟨v,rfl,h1⟩:=dF hv
 rw [bB h1]
 exact (slash_any s w hs).mono fun e w' ⟨e1,e2⟩=>⟨_,e1,by rw [e2];exact aB _ _,cU⟩
theorem tO {o:Oper} {ρ:Operand→Value} {w:World} {t:Tmp} {T:TypeId} {s:ByteArray} (ho:o.op = .call ⟨.builtin .len,#[.tmp t],#[T]⟩) (hT:Tryz.prog.underlying T=some .string) (hx:ρ (.tmp t) = .string s) :
 (execOp ρ o).run Tryz.prog w = .ok (.value (.int .i64 s.size)) w:=xL ho hT hx
theorem pR {o:Oper} {ρ:Operand→Value} {w:World} {T:TypeId} {x y:Operand} {s:ByteArray} {k:Nat} (ho:o.op = .slice T x none (some y) none) (hT:Tryz.prog.underlying T=some .string) (hx:ρ x = .string s) (hy:ρ y = .int .i64 (k:Int)) (hk:k≤s.size) :
 (execOp ρ o).run Tryz.prog w = .ok (.value (.string (s.extract 0 k))) w:=by
 simp only [execOp,ho,hx]
 refine bQ ?_
 have h1:(k:Int)≤s.size:=by omega
 simp only [Option.map,hy]
 rw [run_sliceAt_string w _ _ _ _ _ hT]
 simp [Instr.slice,run_underlying hT,Instr.sliceBounds,run_sliceBound,h1,hk]
theorem pS {o:Oper} {ρ:Operand→Value} {w:World} {T:TypeId} {x y:Operand} {s:ByteArray} {k:Nat} (ho:o.op = .slice T x (some y) none none) (hT:Tryz.prog.underlying T=some .string) (hx:ρ x = .string s) (hy:ρ y = .int .i64 (k:Int)) (hk:k≤s.size) :
 (execOp ρ o).run Tryz.prog w = .ok (.value (.string (s.extract k s.size))) w:=by
 simp only [execOp,ho,hx]
 refine bQ ?_
 have h1:(k:Int)≤s.size:=by omega
 simp only [Option.map,hy]
 rw [run_sliceAt_string w _ _ _ _ _ hT]
 simp [Instr.slice,run_underlying hT,Instr.sliceBounds,run_sliceBound,h1,hk]
theorem tP {o:Oper} {ρ:Operand→Value} {w:World} {x:Operand} {a:Nat} (ho:o.op = .binOp .add 3 x (.const (.int .i64 1)) 3) (hx:ρ x = .int .i64 (a:Int)) (hy:ρ (.const (.int .i64 1)) = .int .i64 1) (ha:a<9223372036854775807) :
 (execOp ρ o).run Tryz.prog w = .ok (.value (.int .i64 ((a+1:Nat):Int))) w:=by
 simp only [execOp,ho,hx,hy]
 refine bQ ?_
 have e:IntKind.i64.wrap ((a:Int)+1)=((a+1:Nat):Int):=by
  rw [IntWalk.i64_left,IntWalk.wrap64_in _ ⟨by omega,by omega⟩];omega
 simp [go_sem,e]
theorem kU {q:Rat} (h:q.den=1):writeB q=aQ q.num:=by
 unfold writeB aQ overB
 rw [if_pos h]
theorem fH {q:Rat} (h:q.den≠1):writeB q=aQ q.num++(⟨#[47]⟩++decB q.den):=by
 unfold writeB aQ overB
 rw [if_neg h]
theorem dig47 {l:List UInt8} (h:AllDig l):∀ c∈l,(c==47)=false:=by
 intro c hc
 have:=h c hc
 rw [beq_eq_false_iff_ne]
 rintro rfl
 revert this
 decide
theorem text47 (z:Int):∀ c∈aC (aQ z),(c==47)=false:=by
 unfold aQ
 split
 ·intro c hc
  have e:aC (⟨#[45]⟩++decB z.natAbs:ByteArray)=45::aC (decB z.natAbs):=by simp [aC]
  rw [e] at hc
  rcases List.mem_cons.1 hc with rfl|hc
  ·rfl
  ·exact dig47 (fS _) c hc
 ·exact dig47 (fS _)
theorem vG (z:Int):aJ (aQ z)=(aQ z).size:=by
 unfold aJ
 rw [← aE,List.findIdx_eq_length]
 exact text47 z
theorem vH (z:Int) (r:ByteArray):aJ (aQ z++(⟨#[47]⟩++r))=(aQ z).size:=by
 unfold aJ
 have e:aC (aQ z++(⟨#[47]⟩++r))=aC (aQ z)++47::aC r:=by simp [aC]
 rw [e,List.findIdx_append,if_neg (by
  rw [Nat.not_lt,Nat.le_iff_lt_or_eq]
  right
  exact ((List.findIdx_eq_length).2 (text47 z)).symm),List.findIdx_cons]
 simp [← aE]
theorem ext_lo (a b:ByteArray):(a++b).extract 0 a.size=a:=by
 apply ba_ext
 simp
 exact List.take_of_length_le (Nat.le_of_eq rfl)
theorem ext_hi (a b:ByteArray):(a++(⟨#[47]⟩++b)).extract (a.size+1) (a++(⟨#[47]⟩++b)).size=b:=by
 have h:aC ((a++(⟨#[47]⟩++b)).extract (a.size+1) (a++(⟨#[47]⟩++b)).size)=aC b:=by
  rw [aS,List.take_of_length_le (by rw [aE];exact aR _)]
  have e:aC (a++(⟨#[47]⟩++b))=aC a++47::aC b:=by simp [aC]
  rw [e,List.drop_append,List.drop_of_length_le (by rw [aE];omega),List.nil_append,aE,Nat.add_sub_cancel_left]
  rfl
 exact ba_ext h
abbrev prt (q:Rat):AV Kr := .tup [.ag [rB (decide (q.num<0)),.sp (qS q.num.natAbs)],.ag [.lit (.bool false),.sp (qS q.den)]]
theorem zQ {q:Rat} (hn:(decB q.num.natAbs).size≤100000) (hd:(decB q.den).size≤100000):jF 115 [rS (writeB q)] (prt q):=by
 have hts:(aQ q.num).size≤100001:=by
  unfold aQ
  split
  ·rw [ByteArray.size_append]
   have:(⟨#[45]⟩:ByteArray).size=1:=rfl
   omega
  ·omega
 by_cases h1:q.den=1
 ·have e1:q.den=1:=h1
  rw [kU h1]
  have hsl:=vG q.num
  have hres:prt q = .tup [.ag [rB (decide (q.num<0)),.sp (qS q.num.natAbs)],.ag [.lit (.bool false),.sp (qS 1)]]:=by show AV.tup _=AV.tup _;rw [e1]
  rw [hres]
  generalize hs:aQ q.num=s at *
  refine jT Tryz.func115 fun w00=>?_
  refine jB 113 [rS s] (fG (by omega)) ?_
  refine jL (.call ⟨.builtin .len,#[.tmp 10],#[9]⟩) (.tmp 10) (.tmp 10) (rS s) (rS s) (rI s.size) (fun ρ o β w ho hx _=>⟨_,tO ho Tryz.underlying9 (bB hx),cU⟩) ?_
  refine jL (.binOp .eql 3 (.tmp 9) (.tmp 11) 3) (.tmp 9) (.tmp 11) (rI (aJ s:Nat)) (rI s.size) (rl true) (fun ρ o β w ho hx hy=>⟨.bool true,iR ho (bB hx) (bB hy) (by rw [hsl];simp),fE rfl⟩) ?_
  refine jB 168 [rS s] (by rw [← hs];exact parseF hn) ?_
  refine jB 169 [.fv (.sc (.lit (.int .i64 1)))] wholeOneF ?_
  exact jS Tryz.func115
 ·rw [fH h1]
  have hsl:=vH q.num (decB q.den)
  have hx1:=ext_lo (aQ q.num) (⟨#[47]⟩++decB q.den)
  have hx2:=ext_hi (aQ q.num) (decB q.den)
  have hsz:(aQ q.num++(⟨#[47]⟩++decB q.den):ByteArray).size=(aQ q.num).size+1+(decB q.den).size:=by
   rw [ByteArray.size_append,ByteArray.size_append]
   have:(⟨#[47]⟩:ByteArray).size=1:=rfl
   omega
  generalize hs:(aQ q.num++(⟨#[47]⟩++decB q.den):ByteArray)=s at *
  generalize hk:(aQ q.num).size=k at *
  refine jT Tryz.func115 fun w00=>?_
  refine jB 113 [rS s] (fG (by omega)) ?_
  refine jL (.call ⟨.builtin .len,#[.tmp 10],#[9]⟩) (.tmp 10) (.tmp 10) (rS s) (rS s) (rI s.size) (fun ρ o β w ho hx _=>⟨_,tO ho Tryz.underlying9 (bB hx),cU⟩) ?_
  refine jL (.binOp .eql 3 (.tmp 9) (.tmp 11) 3) (.tmp 9) (.tmp 11) (rI (aJ s:Nat)) (rI s.size) (rl false) (fun ρ o β w ho hx hy=>⟨.bool false,iR ho (bB hx) (bB hy) (by rw [hsl,hsz];simp;omega),fE rfl⟩) ?_
  refine jL (.slice 9 (.tmp 16) none (some (.tmp 17)) none) (.tmp 16) (.tmp 17) (rS s) (rI (aJ s:Nat)) (rS (aQ q.num)) (fun ρ o β w ho hx hy=>?_) ?_
  ·have:=pR (w:=w) ho Tryz.underlying9 (bB hx) (by have:=bB hy;rwa [hsl] at this) (by omega)
   rw [hx1] at this
   exact ⟨_,this,cU⟩
  refine jB 168 [rS (aQ q.num)] (parseF hn) ?_
  refine jL (.binOp .add 3 (.tmp 21) (.const (.int .i64 1)) 3) (.tmp 21) (.const (.int .i64 1)) (rI (aJ s:Nat)) (.fv (.sc (.lit (.int .i64 1)))) (rI ((k+1:Nat):Int)) (fun ρ o β w ho hx hy=>⟨_,tP ho (by have:=bB hx;rwa [hsl] at this) (cD hy) (by omega),cU⟩) ?_
  refine jL (.slice 9 (.tmp 20) (some (.tmp 22)) none none) (.tmp 20) (.tmp 22) (rS s) (rI ((k+1:Nat):Int)) (rS (decB q.den)) (fun ρ o β w ho hx hy=>?_) ?_
  ·have:=pS (w:=w) ho Tryz.underlying9 (bB hx) (bB hy) (by omega)
   rw [hx2] at this
   exact ⟨_,this,cU⟩
  refine jB 168 [rS (decB q.den)] (parseDF hd) ?_
  exact jS Tryz.func115
theorem tQ (n:Int) {d:Nat} (h:d≠0):(mkRat n d).num=n/(Nat.gcd n.natAbs d:Nat)∧(mkRat n d).den=d/Nat.gcd n.natAbs d:=by
 rw [← Rat.normalize_eq_mkRat h,Rat.normalize_eq]
 exact ⟨rfl,rfl⟩
theorem sgz_div (n:Int) {g:Nat} (hg:g ∣ n.natAbs) (h0:0<g):iH (decide (n<0)) (n.natAbs/g)=n/(g:Int):=by
 obtain ⟨k,hk⟩:=hg
 have e:n.natAbs/g=k:=by rw [hk];exact Nat.mul_div_cancel_left _ h0
 rw [e]
 unfold iH
 split
 ·rename_i h
  have hn:n=(g:Int)*(-(k:Int)):=by
   have:n = -(n.natAbs:Int):=by simp at h;omega
   rw [this,hk];simp [Int.mul_neg]
  rw [hn,Int.mul_ediv_cancel_left _ (by omega)]
 ·rename_i h
  have hn:n=(g:Int)*(k:Int):=by
   have:n=(n.natAbs:Int):=by simp at h;omega
   rw [this,hk];simp
  rw [hn,Int.mul_ediv_cancel_left _ (by omega)]
theorem cK (d:Nat):aQ (d:Int)=decB d:=by unfold aQ;rw [if_neg (xO d)];rfl
theorem sB (n:Int) {d:Nat} (h:0<d):(if d/Nat.gcd n.natAbs d=1 then aQ (iH (decide (n<0)) (n.natAbs/Nat.gcd n.natAbs d)) else aQ (iH (decide (n<0)) (n.natAbs/Nat.gcd n.natAbs d))++⟨#[47]⟩++aQ ((d/Nat.gcd n.natAbs d:Nat):Int))=writeB (mkRat n d):=by
 obtain ⟨e1,e2⟩:=tQ n (Nat.ne_of_gt h)
 have hg:0<Nat.gcd n.natAbs d:=Nat.gcd_pos_of_pos_right _ h
 rw [sgz_div n (Nat.gcd_dvd_left _ _) hg,← e1,← e2,cK]
 split
 ·rename_i h1;rw [kU h1]
 ·rename_i h1;rw [fH h1,ByteArray.append_assoc]
theorem rargs {P:Program} {f:FuncId} {l l' : List (AV Kr)} {x:AV Kr} (h:Fits P f l x) (hl:∀ β vs w,holdsA β l' vs w→holdsA β l vs w):Fits P f l' x:=fun β w vs hv=>h β w vs (hl β vs w hv)
theorem nD {P:Program} {f:FuncId} {l:List (AV Kr)} {x y:AV Kr} (h:Fits P f l x) (hl:∀ β v w,x.holds β v w→y.holds β v w):Fits P f l y:=fun β w vs hv=>(h β w vs hv).mono fun _ _ ⟨v,e1,e2,e3⟩=>⟨v,e1,e2,hl β v _ e3⟩
theorem pz_iz {β:List Nat} {v:Value} {w:World} {d:Nat} (h:(pz d).holds β v w):(iz (d:Int)).holds β v w:=by
 obtain ⟨cs,rfl,a,r,rfl,h1,b,r2,rfl,h2,h3⟩:=h
 have h1':=h1.1
 subst h1'
 refine ⟨_,rfl,[.bool false],_,rfl,?_,b,r2,rfl,?_,h3⟩
 ·show [Value.bool false] = [.bool (decide ((d:Int)<0))]
  rw [decide_eq_false (xO d)]
 ·obtain ⟨u,e,hu⟩:=h2
  exact ⟨u,e,by simpa using hu⟩
theorem iz_pz {β:List Nat} {v:Value} {w:World} {d:Nat} (h:(iz (d:Int)).holds β v w):(pz d).holds β v w:=pz_of (nB.1 h)
theorem timesZP {a:Int} {b:Nat} (ha:Bd a.natAbs) (hb:Bd b):jF 121 [iz a,pz b] (iz (a*b)) :=
 rargs (timesZ ha (by simpa using hb)) fun β vs w ⟨v,r,e,h1,u,r2,e2,h2,h3⟩=>⟨v,r,e,h1,u,r2,e2,pz_iz h2,h3⟩
theorem timesPP {a b:Nat} (ha:Bd a) (hb:Bd b):jF 121 [pz a,pz b] (pz (a*b)) :=
 nD (rargs (timesZ (a:=(a:Int)) (b:=(b:Int)) (by simpa using ha) (by simpa using hb)) fun β vs w ⟨v,r,e,h1,u,r2,e2,h2,h3⟩=>⟨v,r,e,pz_iz h1,u,r2,e2,pz_iz h2,h3⟩)
  fun β v w h=>iz_pz (d:=a*b) (by simpa using h)
abbrev rU (n:Nat):AV Kr := .fv (.sc (.sp (iY (.int .u8 (n:Int)) rfl true (fun _=>rfl))))
theorem index_s {o:Oper} {ρ:Operand→Value} {w:World} {t:Tmp} {s:ByteArray} {c:Nat} (ho:o.op = .index 9 (.tmp t) (.const (.int .i64 0))) (hx:ρ (.tmp t) = .string s) (hy:ρ (.const (.int .i64 0)) = .int .i64 0) (hc:∃ h:0<s.size,(s[0]'h).toNat=c) :
 (execOp ρ o).run Tryz.prog w = .ok (.value (.int .u8 (c:Int))) w:=by
 obtain ⟨h,hc⟩:=hc
 simp only [execOp,ho,hx,hy]
 refine bQ ?_
 have h0:¬ s.size=0:=by omega
 simp [go_sem,run_underlying Tryz.underlying9,h,h0,hc]
theorem ueq_run {o:Oper} {ρ:Operand→Value} {w:World} {x y:Operand} {a b:Int} {r:Bool} (ho:o.op = .binOp .eql 5 x y 5) (hx:ρ x = .int .u8 a) (hy:ρ y = .int .u8 b) (h:(a==b)=r) :
 (execOp ρ o).run Tryz.prog w = .ok (.value (.bool r)) w:=by
 simp only [execOp,ho,hx,hy]
 refine bQ ?_
 rw [← h]
 exact bX (by kernel_rfl) w
theorem subn_run {o:Oper} {ρ:Operand→Value} {w:World} {x y:Operand} {a b:Nat} (ho:o.op = .binOp .sub 3 x y 3) (hx:ρ x = .int .i64 (a:Int)) (hy:ρ y = .int .i64 (b:Int)) (hle:b≤a) (ha:a≤9223372036854775807) :
 (execOp ρ o).run Tryz.prog w = .ok (.value (.int .i64 ((a-b:Nat):Int))) w:=by
 simp only [execOp,ho,hx,hy]
 refine bQ ?_
 have e:IntKind.i64.wrap ((a:Int)-b)=((a-b:Nat):Int):=by
  rw [IntWalk.i64_left,IntWalk.wrap64_in _ ⟨by omega,by omega⟩];omega
 simp [go_sem,e]
theorem lss_run {o:Oper} {ρ:Operand→Value} {w:World} {x y:Operand} {a b:Int} {r:Bool} (ho:o.op = .binOp .lss 3 x y 3) (hx:ρ x = .int .i64 a) (hy:ρ y = .int .i64 b) (h:decide (a<b)=r) :
 (execOp ρ o).run Tryz.prog w = .ok (.value (.bool r)) w:=by
 simp only [execOp,ho,hx,hy]
 refine bQ ?_
 rw [← h]
 exact bX (by kernel_rfl) w
theorem index_26 {o:Oper} {ρ:Operand→Value} {w:World} {t:Tmp} {s:ByteArray} {c:Nat} (ho:o.op = .index 22 (.tmp t) (.const (.int .i64 0))) (hx:ρ (.tmp t) = .string s) (hy:ρ (.const (.int .i64 0)) = .int .i64 0) (hc:∃ h:0<s.size,(s[0]'h).toNat=c) :
 (execOp ρ o).run Tryz.prog w = .ok (.value (.int .u8 (c:Int))) w:=by
 obtain ⟨h,hc⟩:=hc
 simp only [execOp,ho,hx,hy]
 refine bQ ?_
 have h0:¬ s.size=0:=by omega
 simp [go_sem,run_underlying Tryz.underlying22,h,h0,hc]
section
variable {f:FuncId} {w00:World} {Out:Value→World→Prop} {c:Cfg Kr}
abbrev rli (n:Int):AV Kr := .fv (.sc (.lit (.int .i64 n)))
theorem dU (t:Tmp) (T:TypeId) (hT:Tryz.prog.underlying T=some .string) (s:ByteArray) (hg:Ok Tryz.prog f w00 Out (cG Tryz.prog 1000 (c.give (rI (s.size:Nat)))))
 (hc:(c.op.map fun o=>o.op,c.okT (rI (s.size:Nat)),c.ev (.tmp t),c.ev (.tmp t))=(some (.call ⟨.builtin .len,#[.tmp t],#[T]⟩),true,(rS s),(rS s)):=by kernel_rfl):Ok Tryz.prog f w00 Out c :=
 sA (.call ⟨.builtin .len,#[.tmp t],#[T]⟩) (.tmp t) (.tmp t) (rS s) (rS s) (rI (s.size:Nat)) hc (by simp [Op.operands,Call.operands]) (by simp [Op.operands,Call.operands]) (fun ρ o β w ho hx hy=>⟨_,tO ho hT (bB hx),cU⟩) hg
theorem kA (t:Tmp) (n a:Int) (r:Bool) (h:decide (n<a)=r) (hg:Ok Tryz.prog f w00 Out (cG Tryz.prog 1000 (c.give (rl r))))
 (hc:(c.op.map fun o=>o.op,c.okT (rl r),c.ev (.tmp t),c.ev (.const (.int .i64 n)))=(some (.binOp .gtr 3 (.tmp t) (.const (.int .i64 n)) 3),true,(rI a),(rli n)):=by kernel_rfl):Ok Tryz.prog f w00 Out c :=
 sA (.binOp .gtr 3 (.tmp t) (.const (.int .i64 n)) 3) (.tmp t) (.const (.int .i64 n)) (rI a) (rli n) (rl r) hc (by simp [Op.operands]) (by simp [Op.operands]) (fun ρ o β w ho hx hy=>⟨_,zE ho (bB hx) (cD hy) h,fE rfl⟩) hg
theorem ridn (t:Tmp) (s:ByteArray) (h:∃ h:0<s.size,(s[0]'h).toNat=45) (hg:Ok Tryz.prog f w00 Out (cG Tryz.prog 1000 (c.give (.fv (.sc (.lit (.int .u8 45)))))))
 (hc:(c.op.map fun o=>o.op,c.okT (.fv (.sc (.lit (.int .u8 45)))),c.ev (.tmp t),c.ev (.const (.int .i64 0)))=(some (.index 9 (.tmp t) (.const (.int .i64 0))),true,(rS s),(rli 0)):=by kernel_rfl):Ok Tryz.prog f w00 Out c :=
 sA (.index 9 (.tmp t) (.const (.int .i64 0))) (.tmp t) (.const (.int .i64 0)) (rS s) (rli 0) (.fv (.sc (.lit (.int .u8 45)))) hc (by simp [Op.operands]) (by simp [Op.operands]) (fun ρ o β w ho hx hy=>⟨_,index_s ho (bB hx) (cD hy) h,fE rfl⟩) hg
theorem ridp (t:Tmp) (s:ByteArray) (n:Nat) (h:∃ h:0<s.size,(s[0]'h).toNat=n) (hg:Ok Tryz.prog f w00 Out (cG Tryz.prog 1000 (c.give (rU n))))
 (hc:(c.op.map fun o=>o.op,c.okT (rU n),c.ev (.tmp t),c.ev (.const (.int .i64 0)))=(some (.index 9 (.tmp t) (.const (.int .i64 0))),true,(rS s),(rli 0)):=by kernel_rfl):Ok Tryz.prog f w00 Out c :=
 sA (.index 9 (.tmp t) (.const (.int .i64 0))) (.tmp t) (.const (.int .i64 0)) (rS s) (rli 0) (rU n) hc (by simp [Op.operands]) (by simp [Op.operands]) (fun ρ o β w ho hx hy=>⟨_,index_s ho (bB hx) (cD hy) h,cU⟩) hg
theorem ridnR (t:Tmp) (s:ByteArray) (h:∃ h:0<s.size,(s[0]'h).toNat=45) (hg:Ok Tryz.prog f w00 Out (cG Tryz.prog 1000 (c.give (.fv (.sc (.lit (.int .u8 45)))))))
 (hc:(c.op.map fun o=>o.op,c.okT (.fv (.sc (.lit (.int .u8 45)))),c.ev (.tmp t),c.ev (.const (.int .i64 0)))=(some (.index 22 (.tmp t) (.const (.int .i64 0))),true,(rS s),(rli 0)):=by kernel_rfl):Ok Tryz.prog f w00 Out c :=
 sA (.index 22 (.tmp t) (.const (.int .i64 0))) (.tmp t) (.const (.int .i64 0)) (rS s) (rli 0) (.fv (.sc (.lit (.int .u8 45)))) hc (by simp [Op.operands]) (by simp [Op.operands]) (fun ρ o β w ho hx hy=>⟨_,index_26 ho (bB hx) (cD hy) h,fE rfl⟩) hg
theorem ridpR (t:Tmp) (s:ByteArray) (n:Nat) (h:∃ h:0<s.size,(s[0]'h).toNat=n) (hg:Ok Tryz.prog f w00 Out (cG Tryz.prog 1000 (c.give (rU n))))
 (hc:(c.op.map fun o=>o.op,c.okT (rU n),c.ev (.tmp t),c.ev (.const (.int .i64 0)))=(some (.index 22 (.tmp t) (.const (.int .i64 0))),true,(rS s),(rli 0)):=by kernel_rfl):Ok Tryz.prog f w00 Out c :=
 sA (.index 22 (.tmp t) (.const (.int .i64 0))) (.tmp t) (.const (.int .i64 0)) (rS s) (rli 0) (rU n) hc (by simp [Op.operands]) (by simp [Op.operands]) (fun ρ o β w ho hx hy=>⟨_,index_26 ho (bB hx) (cD hy) h,cU⟩) hg
theorem rueq (t:Tmp) (n:Nat) (h:((n:Int)==45)=false) (hg:Ok Tryz.prog f w00 Out (cG Tryz.prog 1000 (c.give (rl false))))
 (hc:(c.op.map fun o=>o.op,c.okT (rl false),c.ev (.tmp t),c.ev (.const (.int .u8 45)))=(some (.binOp .eql 5 (.tmp t) (.const (.int .u8 45)) 5),true,(rU n),(.fv (.sc (.lit (.int .u8 45))))):=by kernel_rfl):Ok Tryz.prog f w00 Out c :=
 sA (.binOp .eql 5 (.tmp t) (.const (.int .u8 45)) 5) (.tmp t) (.const (.int .u8 45)) (rU n) (.fv (.sc (.lit (.int .u8 45)))) (rl false) hc (by simp [Op.operands]) (by simp [Op.operands]) (fun ρ o β w ho hx hy=>⟨.bool false,ueq_run ho (bB hx) (cD hy) h,fE rfl⟩) hg
theorem rshi (t i:Tmp) (T:TypeId) (hT:Tryz.prog.underlying T=some .string) (s:ByteArray) (k:Nat) (a:ByteArray) (hk:k≤s.size) (ha:s.extract 0 k=a) (hg:Ok Tryz.prog f w00 Out (cG Tryz.prog 1000 (c.give (rS a))))
 (hc:(c.op.map fun o=>o.op,c.okT (rS a),c.ev (.tmp t),c.ev (.tmp i))=(some (.slice T (.tmp t) none (some (.tmp i)) none),true,(rS s),(rI (k:Int))):=by kernel_rfl):Ok Tryz.prog f w00 Out c :=
 sA (.slice T (.tmp t) none (some (.tmp i)) none) (.tmp t) (.tmp i) (rS s) (rI (k:Int)) (rS a) hc (by simp [Op.operands]) (by simp [Op.operands]) (fun ρ o β w ho hx hy=>⟨_,ha▸pR ho hT (bB hx) (bB hy) hk,cU⟩) hg
theorem rslo (t i:Tmp) (T:TypeId) (hT:Tryz.prog.underlying T=some .string) (s:ByteArray) (k:Nat) (d:ByteArray) (hk:k≤s.size) (hd:s.extract k s.size=d) (hg:Ok Tryz.prog f w00 Out (cG Tryz.prog 1000 (c.give (rS d))))
 (hc:(c.op.map fun o=>o.op,c.okT (rS d),c.ev (.tmp t),c.ev (.tmp i))=(some (.slice T (.tmp t) (some (.tmp i)) none none),true,(rS s),(rI (k:Int))):=by kernel_rfl):Ok Tryz.prog f w00 Out c :=
 sA (.slice T (.tmp t) (some (.tmp i)) none none) (.tmp t) (.tmp i) (rS s) (rI (k:Int)) (rS d) hc (by simp [Op.operands]) (by simp [Op.operands]) (fun ρ o β w ho hx hy=>⟨_,hd▸pS ho hT (bB hx) (bB hy) hk,cU⟩) hg
theorem rsl1 (t:Tmp) (T:TypeId) (hT:Tryz.prog.underlying T=some .string) (s d:ByteArray) (hk:1≤s.size) (hd:s.extract 1 s.size=d) (hg:Ok Tryz.prog f w00 Out (cG Tryz.prog 1000 (c.give (rS d))))
 (hc:(c.op.map fun o=>o.op,c.okT (rS d),c.ev (.tmp t),c.ev (.const (.int .i64 1)))=(some (.slice T (.tmp t) (some (.const (.int .i64 1))) none none),true,(rS s),(rli 1)):=by kernel_rfl):Ok Tryz.prog f w00 Out c :=
 sA (.slice T (.tmp t) (some (.const (.int .i64 1))) none none) (.tmp t) (.const (.int .i64 1)) (rS s) (rli 1) (rS d) hc (by simp [Op.operands]) (by simp [Op.operands]) (fun ρ o β w ho hx hy=>⟨_,hd▸pS (k:=1) ho hT (bB hx) (cD hy) hk,cU⟩) hg
theorem radd (t:Tmp) (k:Nat) (h:k<9223372036854775807) (hg:Ok Tryz.prog f w00 Out (cG Tryz.prog 1000 (c.give (rI ((k+1:Nat):Int)))))
 (hc:(c.op.map fun o=>o.op,c.okT (rI ((k+1:Nat):Int)),c.ev (.tmp t),c.ev (.const (.int .i64 1)))=(some (.binOp .add 3 (.tmp t) (.const (.int .i64 1)) 3),true,(rI (k:Int)),(rli 1)):=by kernel_rfl):Ok Tryz.prog f w00 Out c :=
 sA (.binOp .add 3 (.tmp t) (.const (.int .i64 1)) 3) (.tmp t) (.const (.int .i64 1)) (rI (k:Int)) (rli 1) (rI ((k+1:Nat):Int)) hc (by simp [Op.operands]) (by simp [Op.operands]) (fun ρ o β w ho hx hy=>⟨_,tP ho (bB hx) (cD hy) h,cU⟩) hg
theorem vI (t:Tmp) (T:TypeId) (s b:ByteArray) (r:Bool) (h:(s.toList==b.toList)=r) (hg:Ok Tryz.prog f w00 Out (cG Tryz.prog 1000 (c.give (rl r))))
 (hc:(c.op.map fun o=>o.op,c.okT (rl r),c.ev (.tmp t),c.ev (.const (.string b)))=(some (.binOp .eql T (.tmp t) (.const (.string b)) T),true,(rS s),(.fv (.sc (.lit (.string b))))):=by kernel_rfl):Ok Tryz.prog f w00 Out c :=
 sA (.binOp .eql T (.tmp t) (.const (.string b)) T) (.tmp t) (.const (.string b)) (rS s) (.fv (.sc (.lit (.string b)))) (rl r) hc (by simp [Op.operands]) (by simp [Op.operands]) (fun ρ o β w ho hx hy=>⟨_,tD ho (bB hx) (cD hy) h,fE rfl⟩) hg
theorem xA (t i:Tmp) (a b:Int) (r:Bool) (h:decide (a<b)=r) (hg:Ok Tryz.prog f w00 Out (cG Tryz.prog 1000 (c.give (rl r))))
 (hc:(c.op.map fun o=>o.op,c.okT (rl r),c.ev (.tmp t),c.ev (.tmp i))=(some (.binOp .lss 3 (.tmp t) (.tmp i) 3),true,(rI a),(rI b)):=by kernel_rfl):Ok Tryz.prog f w00 Out c :=
 sA (.binOp .lss 3 (.tmp t) (.tmp i) 3) (.tmp t) (.tmp i) (rI a) (rI b) (rl r) hc (by simp [Op.operands]) (by simp [Op.operands]) (fun ρ o β w ho hx hy=>⟨_,lss_run ho (bB hx) (bB hy) h,fE rfl⟩) hg
theorem aAg (t i:Tmp) (a b:Nat) (hle:b≤a) (ha:a≤9223372036854775807) (hg:Ok Tryz.prog f w00 Out (cG Tryz.prog 1000 (c.give (rI ((a-b:Nat):Int)))))
 (hc:(c.op.map fun o=>o.op,c.okT (rI ((a-b:Nat):Int)),c.ev (.tmp t),c.ev (.tmp i))=(some (.binOp .sub 3 (.tmp t) (.tmp i) 3),true,(rI (a:Int)),(rI (b:Int))):=by kernel_rfl):Ok Tryz.prog f w00 Out c :=
 sA (.binOp .sub 3 (.tmp t) (.tmp i) 3) (.tmp t) (.tmp i) (rI (a:Int)) (rI (b:Int)) (rI ((a-b:Nat):Int)) hc (by simp [Op.operands]) (by simp [Op.operands]) (fun ρ o β w ho hx hy=>⟨_,subn_run ho (bB hx) (bB hy) hle ha,cU⟩) hg
end
abbrev qno:AV Kr := .tup [.sc (.lit (.int .i64 0)),.sc (.lit (.int .i64 0)),.sc (.lit (.bool false))]
section
variable {s u:ByteArray} {c:Nat}
theorem quick_long (h20:decide ((20:Int)<s.size)=true):jF 117 [rS s] qno:=by
 refine jT Tryz.func117 fun w00=>?_
 refine dU 11 9 Tryz.underlying9 s ?_
 refine kA 12 20 s.size true h20 ?_
 exact jS Tryz.func117
theorem quick_k9n (h20:decide ((20:Int)<s.size)=false) (h0:decide ((0:Int)<s.size)=true) (h1:1≤s.size) (hc:∃ h:0<s.size,(s[0]'h).toNat=45) (hext:s.extract 1 s.size=u) (hus:u.size≤s.size) (h9:decide ((9:Int)<(aJ u:Nat))=true):jF 117 [rS s] qno:=by
 have hs20:s.size≤20:=by rw [decide_eq_false_iff_not] at h20;omega
 refine jT Tryz.func117 fun w00=>?_
 refine dU 11 9 Tryz.underlying9 s ?_
 refine kA 12 20 s.size false h20 ?_
 refine dU 14 9 Tryz.underlying9 s ?_
 refine kA 15 0 s.size true h0 ?_
 refine ridn 18 s hc ?_
 refine rsl1 23 9 Tryz.underlying9 s u h1 hext ?_
 refine jB 113 [rS u] (fG (by omega)) ?_
 refine kA 27 9 (aJ u:Nat) true h9 ?_
 exact jS Tryz.func117
theorem quick_l10n (h20:decide ((20:Int)<s.size)=false) (h0:decide ((0:Int)<s.size)=true) (h1:1≤s.size) (hc:∃ h:0<s.size,(s[0]'h).toNat=45) (hext:s.extract 1 s.size=u) (hus:u.size≤s.size) (h9:decide ((9:Int)<(aJ u:Nat))=false) (h10:decide ((10:Int)<((u.size-aJ u:Nat):Int))=true):jF 117 [rS s] qno:=by
 have hs20:s.size≤20:=by rw [decide_eq_false_iff_not] at h20;omega
 refine jT Tryz.func117 fun w00=>?_
 refine dU 11 9 Tryz.underlying9 s ?_
 refine kA 12 20 s.size false h20 ?_
 refine dU 14 9 Tryz.underlying9 s ?_
 refine kA 15 0 s.size true h0 ?_
 refine ridn 18 s hc ?_
 refine rsl1 23 9 Tryz.underlying9 s u h1 hext ?_
 refine jB 113 [rS u] (fG (by omega)) ?_
 refine kA 27 9 (aJ u:Nat) false h9 ?_
 refine dU 30 9 Tryz.underlying9 u ?_
 refine aAg 31 32 (u.size) (aJ u) (cJ _) (by omega) ?_
 refine kA 33 10 ((u.size-aJ u:Nat):Int) true h10 ?_
 exact jS Tryz.func117
theorem quick_k9p (h20:decide ((20:Int)<s.size)=false) (h0:decide ((0:Int)<s.size)=true) (hc:∃ h:0<s.size,(s[0]'h).toNat=c) (hc45:((c:Int)==45)=false) (h9:decide ((9:Int)<(aJ s:Nat))=true):jF 117 [rS s] qno:=by
 have hs20:s.size≤20:=by rw [decide_eq_false_iff_not] at h20;omega
 refine jT Tryz.func117 fun w00=>?_
 refine dU 11 9 Tryz.underlying9 s ?_
 refine kA 12 20 s.size false h20 ?_
 refine dU 14 9 Tryz.underlying9 s ?_
 refine kA 15 0 s.size true h0 ?_
 refine ridp 18 s c hc ?_
 refine rueq 19 c hc45 ?_
 refine jB 113 [rS s] (fG (by omega)) ?_
 refine kA 27 9 (aJ s:Nat) true h9 ?_
 exact jS Tryz.func117
theorem quick_l10p (h20:decide ((20:Int)<s.size)=false) (h0:decide ((0:Int)<s.size)=true) (hc:∃ h:0<s.size,(s[0]'h).toNat=c) (hc45:((c:Int)==45)=false) (h9:decide ((9:Int)<(aJ s:Nat))=false) (h10:decide ((10:Int)<((s.size-aJ s:Nat):Int))=true):jF 117 [rS s] qno:=by
 have hs20:s.size≤20:=by rw [decide_eq_false_iff_not] at h20;omega
 refine jT Tryz.func117 fun w00=>?_
 refine dU 11 9 Tryz.underlying9 s ?_
 refine kA 12 20 s.size false h20 ?_
 refine dU 14 9 Tryz.underlying9 s ?_
 refine kA 15 0 s.size true h0 ?_
 refine ridp 18 s c hc ?_
 refine rueq 19 c hc45 ?_
 refine jB 113 [rS s] (fG (by omega)) ?_
 refine kA 27 9 (aJ s:Nat) false h9 ?_
 refine dU 30 9 Tryz.underlying9 s ?_
 refine aAg 31 32 (s.size) (aJ s) (cJ _) (by omega) ?_
 refine kA 33 10 ((s.size-aJ s:Nat):Int) true h10 ?_
 exact jS Tryz.func117
end
theorem valueF {d:ByteArray} {n:Nat} (hd:AllDig (aC d)) (hs:d.size≤17) (hn:aU (aC d)=n):jF 171 [rS d] (rI n):=by
 intro β w vs hv
 obtain ⟨v,rfl,h1⟩:=dF hv
 rw [bB h1]
 exact (mY d w hd hs).mono fun e w' ⟨e1,e2⟩=>⟨_,e1,by rw [e2];exact aB _ _,by rw [hn];exact cU⟩
theorem neg_run {o:Oper} {ρ:Operand→Value} {w:World} {x y:Operand} {a:Nat} (ho:o.op = .binOp .sub 3 x y 3) (hx:ρ x = .int .i64 0) (hy:ρ y = .int .i64 (a:Int)) (ha:a<4611686018427387904) :
 (execOp ρ o).run Tryz.prog w = .ok (.value (.int .i64 (-(a:Int)))) w:=by
 simp only [execOp,ho,hx,hy]
 refine bQ ?_
 have e:IntKind.i64.wrap (0-(a:Int)) = -(a:Int):=by
  rw [IntWalk.i64_left,IntWalk.wrap64_in _ ⟨by omega,by omega⟩];omega
 rw [Int.zero_sub] at e
 simp [go_sem,e]
section
variable {s u d1 d2:ByteArray} {c n1 n2:Nat}
theorem quick_yes1n (h20:decide ((20:Int)<s.size)=false) (h0:decide ((0:Int)<s.size)=true) (h1:1≤s.size) (hc:∃ h:0<s.size,(s[0]'h).toNat=45) (hext:s.extract 1 s.size=u) (hus:u.size≤s.size) (hn1:n1<4611686018427387904) (h9:decide ((9:Int)<(aJ u:Nat))=false) (h10:decide ((10:Int)<((u.size-aJ u:Nat):Int))=false) (hd1:u.extract 0 (aJ u)=d1) (v1:jF 171 [rS d1] (rI n1)) (hlt:decide (((aJ u:Nat):Int)<(u.size:Nat))=false):jF 117 [rS s] (.tup [.sc (.sp (iY (.int .i64 (-(n1:Int))) rfl false (fun h=>by cases h))),.sc (.lit (.int .i64 1)),.sc (.lit (.bool true))]):=by
 have hs20:s.size≤20:=by rw [decide_eq_false_iff_not] at h20;omega
 refine jT Tryz.func117 fun w00=>?_
 refine dU 11 9 Tryz.underlying9 s ?_
 refine kA 12 20 s.size false h20 ?_
 refine dU 14 9 Tryz.underlying9 s ?_
 refine kA 15 0 s.size true h0 ?_
 refine ridn 18 s hc ?_
 refine rsl1 23 9 Tryz.underlying9 s u h1 hext ?_
 refine jB 113 [rS u] (fG (by omega)) ?_
 refine kA 27 9 (aJ u:Nat) false h9 ?_
 refine dU 30 9 Tryz.underlying9 u ?_
 refine aAg 31 32 (u.size) (aJ u) (cJ _) (by omega) ?_
 refine kA 33 10 ((u.size-aJ u:Nat):Int) false h10 ?_
 refine rshi 36 37 9 Tryz.underlying9 u (aJ u) d1 (cJ _) hd1 ?_
 refine jB 171 [rS d1] v1 ?_
 refine dU 41 9 Tryz.underlying9 u ?_
 refine xA 40 42 (aJ u:Nat) (u.size:Nat) false hlt ?_
 refine jL (.binOp .sub 3 (.const (.int .i64 0)) (.tmp 50) 3) (.const (.int .i64 0)) (.tmp 50) (.fv (.sc (.lit (.int .i64 0)))) (rI n1) (rI (-(n1:Int))) (fun ρ o β w ho hx hy=>⟨_,neg_run ho (cD hx) (bB hy) hn1,cU⟩) ?_
 exact jS Tryz.func117
theorem quick_yes2n (h20:decide ((20:Int)<s.size)=false) (h0:decide ((0:Int)<s.size)=true) (h1:1≤s.size) (hc:∃ h:0<s.size,(s[0]'h).toNat=45) (hext:s.extract 1 s.size=u) (hus:u.size≤s.size) (hn1:n1<4611686018427387904) (h9:decide ((9:Int)<(aJ u:Nat))=false) (h10:decide ((10:Int)<((u.size-aJ u:Nat):Int))=false) (hd1:u.extract 0 (aJ u)=d1) (v1:jF 171 [rS d1] (rI n1)) (hlt:decide (((aJ u:Nat):Int)<(u.size:Nat))=true) (hd2:u.extract (aJ u+1) u.size=d2) (v2:jF 171 [rS d2] (rI n2)):jF 117 [rS s] (.tup [.sc (.sp (iY (.int .i64 (-(n1:Int))) rfl false (fun h=>by cases h))),.sc (.sp (iY (.int .i64 (n2:Int)) rfl false (fun h=>by cases h))),.sc (.lit (.bool true))]):=by
 have hs20:s.size≤20:=by rw [decide_eq_false_iff_not] at h20;omega
 refine jT Tryz.func117 fun w00=>?_
 refine dU 11 9 Tryz.underlying9 s ?_
 refine kA 12 20 s.size false h20 ?_
 refine dU 14 9 Tryz.underlying9 s ?_
 refine kA 15 0 s.size true h0 ?_
 refine ridn 18 s hc ?_
 refine rsl1 23 9 Tryz.underlying9 s u h1 hext ?_
 refine jB 113 [rS u] (fG (by omega)) ?_
 refine kA 27 9 (aJ u:Nat) false h9 ?_
 refine dU 30 9 Tryz.underlying9 u ?_
 refine aAg 31 32 (u.size) (aJ u) (cJ _) (by omega) ?_
 refine kA 33 10 ((u.size-aJ u:Nat):Int) false h10 ?_
 refine rshi 36 37 9 Tryz.underlying9 u (aJ u) d1 (cJ _) hd1 ?_
 refine jB 171 [rS d1] v1 ?_
 refine dU 41 9 Tryz.underlying9 u ?_
 refine xA 40 42 (aJ u:Nat) (u.size:Nat) true hlt ?_
 refine radd 45 (aJ u) (by have:=cJ u;omega) ?_
 refine rslo 44 46 9 Tryz.underlying9 u (aJ u+1) d2 (by have:=of_decide_eq_true hlt;omega) hd2 ?_
 refine jB 171 [rS d2] v2 ?_
 refine jL (.binOp .sub 3 (.const (.int .i64 0)) (.tmp 50) 3) (.const (.int .i64 0)) (.tmp 50) (.fv (.sc (.lit (.int .i64 0)))) (rI n1) (rI (-(n1:Int))) (fun ρ o β w ho hx hy=>⟨_,neg_run ho (cD hx) (bB hy) hn1,cU⟩) ?_
 exact jS Tryz.func117
theorem quick_yes1p (h20:decide ((20:Int)<s.size)=false) (h0:decide ((0:Int)<s.size)=true) (hc:∃ h:0<s.size,(s[0]'h).toNat=c) (hc45:((c:Int)==45)=false) (h9:decide ((9:Int)<(aJ s:Nat))=false) (h10:decide ((10:Int)<((s.size-aJ s:Nat):Int))=false) (hd1:s.extract 0 (aJ s)=d1) (v1:jF 171 [rS d1] (rI n1)) (hlt:decide (((aJ s:Nat):Int)<(s.size:Nat))=false):jF 117 [rS s] (.tup [.sc (.sp (iY (.int .i64 (n1:Int)) rfl false (fun h=>by cases h))),.sc (.lit (.int .i64 1)),.sc (.lit (.bool true))]):=by
 have hs20:s.size≤20:=by rw [decide_eq_false_iff_not] at h20;omega
 refine jT Tryz.func117 fun w00=>?_
 refine dU 11 9 Tryz.underlying9 s ?_
 refine kA 12 20 s.size false h20 ?_
 refine dU 14 9 Tryz.underlying9 s ?_
 refine kA 15 0 s.size true h0 ?_
 refine ridp 18 s c hc ?_
 refine rueq 19 c hc45 ?_
 refine jB 113 [rS s] (fG (by omega)) ?_
 refine kA 27 9 (aJ s:Nat) false h9 ?_
 refine dU 30 9 Tryz.underlying9 s ?_
 refine aAg 31 32 (s.size) (aJ s) (cJ _) (by omega) ?_
 refine kA 33 10 ((s.size-aJ s:Nat):Int) false h10 ?_
 refine rshi 36 37 9 Tryz.underlying9 s (aJ s) d1 (cJ _) hd1 ?_
 refine jB 171 [rS d1] v1 ?_
 refine dU 41 9 Tryz.underlying9 s ?_
 refine xA 40 42 (aJ s:Nat) (s.size:Nat) false hlt ?_
 exact jS Tryz.func117
theorem quick_yes2p (h20:decide ((20:Int)<s.size)=false) (h0:decide ((0:Int)<s.size)=true) (hc:∃ h:0<s.size,(s[0]'h).toNat=c) (hc45:((c:Int)==45)=false) (h9:decide ((9:Int)<(aJ s:Nat))=false) (h10:decide ((10:Int)<((s.size-aJ s:Nat):Int))=false) (hd1:s.extract 0 (aJ s)=d1) (v1:jF 171 [rS d1] (rI n1)) (hlt:decide (((aJ s:Nat):Int)<(s.size:Nat))=true) (hd2:s.extract (aJ s+1) s.size=d2) (v2:jF 171 [rS d2] (rI n2)):jF 117 [rS s] (.tup [.sc (.sp (iY (.int .i64 (n1:Int)) rfl false (fun h=>by cases h))),.sc (.sp (iY (.int .i64 (n2:Int)) rfl false (fun h=>by cases h))),.sc (.lit (.bool true))]):=by
 have hs20:s.size≤20:=by rw [decide_eq_false_iff_not] at h20;omega
 refine jT Tryz.func117 fun w00=>?_
 refine dU 11 9 Tryz.underlying9 s ?_
 refine kA 12 20 s.size false h20 ?_
 refine dU 14 9 Tryz.underlying9 s ?_
 refine kA 15 0 s.size true h0 ?_
 refine ridp 18 s c hc ?_
 refine rueq 19 c hc45 ?_
 refine jB 113 [rS s] (fG (by omega)) ?_
 refine kA 27 9 (aJ s:Nat) false h9 ?_
 refine dU 30 9 Tryz.underlying9 s ?_
 refine aAg 31 32 (s.size) (aJ s) (cJ _) (by omega) ?_
 refine kA 33 10 ((s.size-aJ s:Nat):Int) false h10 ?_
 refine rshi 36 37 9 Tryz.underlying9 s (aJ s) d1 (cJ _) hd1 ?_
 refine jB 171 [rS d1] v1 ?_
 refine dU 41 9 Tryz.underlying9 s ?_
 refine xA 40 42 (aJ s:Nat) (s.size:Nat) true hlt ?_
 refine radd 45 (aJ s) (by have:=cJ s;omega) ?_
 refine rslo 44 46 9 Tryz.underlying9 s (aJ s+1) d2 (by have:=of_decide_eq_true hlt;omega) hd2 ?_
 refine jB 171 [rS d2] v2 ?_
 exact jS Tryz.func117
end
def Sq (q:Rat):Prop:=(decB q.num.natAbs).size≤9∧(q.den=1∨(decB q.den).size≤9)
theorem nE {q:Rat} (h:q.den=1):bA q=aQ (q.num.natAbs:Int):=by unfold bA;rw [if_pos h,cK]
theorem pT {q:Rat} (h:q.den≠1):bA q=aQ (q.num.natAbs:Int)++(⟨#[47]⟩++decB q.den):=by unfold bA;rw [if_neg h,cK]
theorem oD (q:Rat):aJ (bA q)=(decB q.num.natAbs).size:=by
 by_cases h:q.den=1
 ·rw [nE h,vG,cK]
 ·rw [pT h,vH,cK]
theorem size47:(⟨#[47]⟩:ByteArray).size=1:=rfl
theorem size45:(⟨#[45]⟩:ByteArray).size=1:=rfl
theorem pU (q:Rat):(bA q).size=(decB q.num.natAbs).size+if q.den=1 then 0 else 1+(decB q.den).size:=by
 by_cases h:q.den=1
 ·rw [nE h,cK,if_pos h];rfl
 ·rw [pT h,if_neg h,ByteArray.size_append,ByteArray.size_append,cK,size47]
theorem vJ (q:Rat):∃ c:Nat,(∃ h:0<(bA q).size,((bA q)[0]'h).toNat=c)∧((c:Int)==45)=false:=by
 obtain ⟨c,r,e,hc⟩:=uZ q
 have h0:0<(bA q).size:=by
  have:(bA q).size=(bA q).data.toList.length:=rfl
  rw [this,e];simp
 have h1:=cR h0
 have h2:aC (bA q)=c::r:=e
 rw [h2] at h1
 simp at h1
 refine ⟨c.toNat,⟨h0,by rw [← h1]⟩,?_⟩
 simp;omega
theorem iI {q:Rat} (h:q.num<0):1≤(writeB q).size∧(∃ h:0<(writeB q).size,((writeB q)[0]'h).toNat=45)∧(writeB q).extract 1 (writeB q).size=bA q∧(bA q).size≤(writeB q).size∧(writeB q).size=(bA q).size+1:=by
 have e:writeB q=⟨#[45]⟩++bA q:=mV h
 have hsz:(writeB q).size=(bA q).size+1:=by rw [e,ByteArray.size_append,size45];omega
 have h0:0<(writeB q).size:=by omega
 refine ⟨h0,⟨h0,?_⟩,?_,by omega,hsz⟩
 ·have h1:=cR h0
  have h2:aC (writeB q)=45::aC (bA q):=by rw [e];simp [aC]
  rw [h2] at h1
  simp at h1
  rw [← h1];rfl
 ·have h2:aC (writeB q)=45::aC (bA q):=by rw [e];simp [aC]
  have:aC ((writeB q).extract 1 (writeB q).size)=aC (bA q):=by
   rw [aS,List.take_of_length_le (by rw [aE];exact aR _),h2];rfl
  exact ba_ext this
theorem lT {q:Rat} (hq:¬ Sq q):jF 117 [rS (writeB q)] qno:=by
 by_cases h20:20<(writeB q).size
 ·exact quick_long (by rw [decide_eq_true_iff];omega)
 have hbs:=pU q
 have hsl:=oD q
 by_cases hn:q.num<0
 ·obtain ⟨f1,f2,f3,f4,f5⟩:=iI hn
  by_cases h9:9<(decB q.num.natAbs).size
  ·exact quick_k9n (by rw [decide_eq_false_iff_not];omega) (by rw [decide_eq_true_iff];omega) f1 f2 f3 f4 (by rw [hsl,decide_eq_true_iff];omega)
  ·refine quick_l10n (by rw [decide_eq_false_iff_not];omega) (by rw [decide_eq_true_iff];omega) f1 f2 f3 f4 (by rw [hsl,decide_eq_false_iff_not];omega) ?_
   rw [hsl,decide_eq_true_iff,hbs]
   have hd:¬ (q.den=1∨(decB q.den).size≤9):=fun h=>hq ⟨by omega,h⟩
   rw [if_neg (fun h=>hd (.inl h))]
   have:¬ (decB q.den).size≤9:=fun h=>hd (.inr h)
   omega
 ·have hw:=eD hn
  obtain ⟨c,c1,c2⟩:=vJ q
  have h0:0<(bA q).size:=c1.1
  rw [hw] at h20 ⊢
  by_cases h9:9<(decB q.num.natAbs).size
  ·exact quick_k9p (by rw [decide_eq_false_iff_not];omega) (by rw [decide_eq_true_iff];omega) c1 c2 (by rw [hsl,decide_eq_true_iff];omega)
  ·refine quick_l10p (by rw [decide_eq_false_iff_not];omega) (by rw [decide_eq_true_iff];omega) c1 c2 (by rw [hsl,decide_eq_false_iff_not];omega) ?_
   rw [hsl,decide_eq_true_iff,hbs]
   have hd:¬ (q.den=1∨(decB q.den).size≤9):=fun h=>hq ⟨by omega,h⟩
   rw [if_neg (fun h=>hd (.inl h))]
   have:¬ (decB q.den).size≤9:=fun h=>hd (.inr h)
   omega
def csAny:CS Kr where
 size:=1
 cold:=false
 pred cs _ := ∃ n:Int,cs = [.int .i64 n]
 stable _ _ _ h _:=h
 len cs w h:=by obtain ⟨v,e⟩:=h;rw [e];rfl
 one cs w h:=by obtain ⟨v,e⟩:=h;rw [e];intro d hd;rw [List.mem_singleton] at hd;rw [hd];rfl
 iscold h:=by cases h
abbrev qany (b:Bool):AV Kr := .tup [.sc (.sp csAny),.sc (.sp csAny),.sc (.lit (.bool b))]
theorem lU {β:List Nat} {v:Value} {w:World} (h:qno.holds β v w):(qany false).holds β v w:=by
 obtain ⟨vs,rfl,a,r,rfl,h1,b,r2,rfl,h2,c,r3,rfl,h3,h4⟩:=h
 exact ⟨_,rfl,a,_,rfl,⟨0,h1.1⟩,b,_,rfl,⟨0,h2.1⟩,c,_,rfl,h3,h4⟩
theorem pow_lift {a k n:Nat} (h:a<10^k) (hk:k≤n):a<B9^n :=
 Nat.lt_of_lt_of_le h (Nat.le_trans (Nat.pow_le_pow_right (by omega) hk) (Nat.pow_le_pow_left (by unfold B9;omega) _))
theorem gE {a k:Nat} (h:a<10^k) (hk:k≤1099511627776):Bd a:=by
 obtain ⟨n,hn⟩:∃ n,n=1099511627776:=⟨_,rfl⟩
 unfold Bd
 rw [← hn] at hk ⊢
 exact pow_lift h hk
theorem bd1_of {a k:Nat} (h:a<10^k) (hk:k≤100000000):a<B9^100000000:=by
 obtain ⟨n,hn⟩:∃ n,n=100000000:=⟨_,rfl⟩
 rw [← hn] at hk ⊢
 exact pow_lift h hk
theorem qM {z:Int} {k:Nat} (h:z.natAbs<10^(k+1)):(aQ z).size≤k+2:=by
 have:=decB_size h
 unfold aQ
 split
 ·rw [ByteArray.size_append,size45];omega
 ·omega
def Zs (k:Nat) (q:Rat):Prop:=q.num.natAbs<10^(k+1)∧q.den<10^(k+1)
theorem fracW {n:Int} {d k:Nat} (hk:k≤1000000) (hn:n.natAbs<10^(k+1)) (hd:d<10^(k+1)) (h0:0<d):jF 119 [iz n,pz d] (rS (writeB (mkRat n d))):=by
 have h:=fractionF (n:=n) (d:=d) (gE hn (by omega)) (gE hd (by omega)) h0 (bd1_of hn (by omega)) (bd1_of hd (by omega))
  (by have:=qM (k:=k) (z:=iH (decide (n<0)) (n.natAbs/Nat.gcd n.natAbs d)) (by rw [tM];exact Nat.lt_of_le_of_lt (Nat.div_le_self _ _) hn);omega)
  (by have:=qM (k:=k) (z:=((d/Nat.gcd n.natAbs d:Nat):Int)) (by rw [Int.natAbs_natCast];exact Nat.lt_of_le_of_lt (Nat.div_le_self _ _) hd);omega)
 rw [sB n h0] at h
 exact h
theorem pV {a b k:Nat} (ha:a<10^(k+1)) (hb:b<10^(k+1)):a*b<10^(2*k+1+1):=by
 have:10^(2*k+1+1)=10^(k+1)*10^(k+1):=by rw [← Nat.pow_add];congr 1;omega
 rw [this]
 exact Nat.mul_lt_mul'' ha hb
theorem add_lt10 {a b k:Nat} (ha:a<10^(k+1)) (hb:b<10^(k+1)):a+b<10^(k+1+1):=by
 have:10^(k+1+1)=10^(k+1)*10:=Nat.pow_succ _ _
 omega
theorem tR {k:Nat} {q:Rat} (h:Zs k q) (hk:k≤10000):(decB q.num.natAbs).size≤100000∧(decB q.den).size≤100000:=by
 have h1:=decB_size h.1
 have h2:=decB_size h.2
 omega
section
variable {p q:Rat} {b1 b2:Bool}
theorem mulBig (hp:Zs 10000 p) (hq:Zs 10000 q) (q1:jF 117 [rS (writeB p)] (qany b1)) (q2:jF 117 [rS (writeB q)] (qany b2)) (hb:(b1&&b2)=false) :
 jF 50 [rS (writeB p),rS (writeB q)] (rS (writeB (p*q))):=by
 have hn:=pV hp.1 hq.1
 rw [← Int.natAbs_mul] at hn
 have hd:=pV hp.2 hq.2
 have s1:=tR hp (aR _)
 have s2:=tR hq (aR _)
 have hf:=fracW (by omega) hn hd (Nat.mul_pos p.den_pos q.den_pos)
 rw [← Rat.mul_def'] at hf
 have w1:=zQ s1.1 s1.2
 have w2:=zQ s2.1 s2.2
 have t1:=timesZ (gE hp.1 (by omega)) (gE hq.1 (by omega))
 have t2:=timesPP (gE hp.2 (by omega)) (gE hq.2 (by omega))
 generalize writeB p=s at *
 generalize writeB q=u at *
 cases b1 <;> cases b2 <;> first|cases hb|skip
 all_goals
  refine jT Tryz.func50 fun w00=>?_
  refine jB 117 [rS s] q1 ?_
  refine jB 117 [rS u] q2 ?_
  refine jB 115 [rS s] w1 ?_
  refine jB 115 [rS u] w2 ?_
  refine jB 121 [iz p.num,iz q.num] t1 ?_
  refine jB 121 [pz p.den,pz q.den] t2 ?_
  refine jB 119 [iz (p.num*q.num),pz (p.den*q.den)] hf ?_
  exact jS Tryz.func50
theorem addBig (hp:Zs 10000 p) (hq:Zs 10000 q) (q1:jF 117 [rS (writeB p)] (qany b1)) (q2:jF 117 [rS (writeB q)] (qany b2)) (hb:(b1&&b2)=false) :
 jF 49 [rS (writeB p),rS (writeB q)] (rS (writeB (p+q))):=by
 obtain ⟨K,hK⟩:∃ K,K=10000:=⟨_,rfl⟩
 rw [← hK] at hp hq
 have hn1:(p.num*(q.den:Int)).natAbs<10^(2*K+1+1):=Nat.lt_of_le_of_lt (Nat.le_of_eq (by rw [Int.natAbs_mul,Int.natAbs_natCast])) (pV hp.1 hq.2)
 have hn2:(q.num*(p.den:Int)).natAbs<10^(2*K+1+1):=Nat.lt_of_le_of_lt (Nat.le_of_eq (by rw [Int.natAbs_mul,Int.natAbs_natCast])) (pV hq.1 hp.2)
 have hn:(p.num*(q.den:Int)+q.num*(p.den:Int)).natAbs<10^(2*K+1+1+1):=Nat.lt_of_le_of_lt (Int.natAbs_add_le _ _) (add_lt10 hn1 hn2)
 have hd:p.den*q.den<10^(2*K+1+1+1):=Nat.lt_of_lt_of_le (pV hp.2 hq.2) (Nat.pow_le_pow_right (by omega) (by omega))
 have s1:=tR hp (by omega)
 have s2:=tR hq (by omega)
 have hf:=fracW (by omega) hn hd (Nat.mul_pos p.den_pos q.den_pos)
 rw [← Rat.add_def'] at hf
 have w1:=zQ s1.1 s1.2
 have w2:=zQ s2.1 s2.2
 have t1:=timesZP (a:=p.num) (b:=q.den) (gE hp.1 (by omega)) (gE hq.2 (by omega))
 have t2:=timesZP (a:=q.num) (b:=p.den) (gE hq.1 (by omega)) (gE hp.2 (by omega))
 have t3:=timesPP (gE hp.2 (by omega)) (gE hq.2 (by omega))
 have t4:=plusZ (gE hn1 (by omega)) (gE hn2 (by omega))
 generalize writeB p=s at *
 generalize writeB q=u at *
 cases b1 <;> cases b2 <;> first|cases hb|skip
 all_goals
  refine jT Tryz.func49 fun w00=>?_
  refine jB 117 [rS s] q1 ?_
  refine jB 117 [rS u] q2 ?_
  refine jB 115 [rS s] w1 ?_
  refine jB 115 [rS u] w2 ?_
  refine jB 121 [iz p.num,pz q.den] t1 ?_
  refine jB 121 [iz q.num,pz p.den] t2 ?_
  refine jB 120 [iz (p.num*(q.den:Int)),iz (q.num*(p.den:Int))] t4 ?_
  refine jB 121 [pz p.den,pz q.den] t3 ?_
  refine jB 119 [iz (p.num*(q.den:Int)+q.num*(p.den:Int)),pz (p.den*q.den)] hf ?_
  exact jS Tryz.func49
end
end Ab
section
open Go.RowKit Pl
theorem empty_app (b:ByteArray):(⟨#[]⟩:ByteArray)++b=b:=Ab.ba_ext (by simp)
set_option maxRecDepth 100000 in
theorem of_pos (a d:Nat) (w:World) (ha:a≤4000000000000000000) (hd:d≤4000000000000000000) (hd0:0<d) (p q g:Nat) (hg:g=Nat.gcd a d) (hp:p=a/g) (hq:q=d/g) :
 Calls Tryz.prog 118 #[.int .i64 (a:Int),.int .i64 (d:Int)] w fun e w'=>e = .returned (.string (if q=1 then Ab.decB p else Ab.decB p++⟨#[47]⟩++Ab.decB q))∧Below w.heap.size w w':=by
 have hg0:0<g:=by rw [hg];exact Nat.gcd_pos_of_pos_right _ hd0
 have hpa:p≤a:=by rw [hp];exact Nat.div_le_self _ _
 have hqd:q≤d:=by rw [hq];exact Nat.div_le_self _ _
 have hq0:0<q:=by rw [hq,hg];exact Nat.div_pos (Nat.gcd_le_right _ hd0) (Nat.gcd_pos_of_pos_right _ hd0)
 have cg:=aH (rgcd_any a d w (by omega) (by omega))
 rw [← hg] at cg
 have c1:=aH (fun W=>pO p W (by omega))
 have c2:=aH (fun W=>pO q W (by omega))
 have s1:(Ab.decB p).size≤19:=Ab.decB_size (k:=18) (by omega)
 have s2:(Ab.decB q).size≤19:=Ab.decB_size (k:=18) (by omega)
 have T:=aH (show wrap64 ((a:Int)/(g:Int))=(p:Int)∧wrap64 ((d:Int)/(g:Int))=(q:Int) from by
  have e1:(a:Int)/(g:Int)=(p:Int):=by rw [hp];simp
  have e2:(d:Int)/(g:Int)=(q:Int):=by rw [hq];simp
  rw [e1,e2]
  exact ⟨IntWalk.wrap64_in _ ⟨by omega,by omega⟩,IntWalk.wrap64_in _ ⟨by omega,by omega⟩⟩)
 have hz0:((g:Int)==0)=false:=by simp;omega
 have hz1:¬ (g:Int)=0:=by omega
 have hz3:((g:Int) == -1)=false:=by simp
 have b1:(a:Int)≤4000000000000000000:=by omega
 have b2:(d:Int)≤4000000000000000000:=by omega
 have b3:(p:Int)≤4000000000000000000:=by omega
 have b4:(q:Int)≤4000000000000000000:=by omega
 have b5:(1:Int)≤d:=by omega
 have b6:(1:Int)≤q:=by omega
 have HQ:=aH (aI hq0 (aI s1 s2))
 obtain ⟨res,hqq⟩:∃ res,res=(if q=1 then Ab.decB p else Ab.decB p++⟨#[47]⟩++Ab.decB q):=⟨_,rfl⟩
 rw [← hqq]
 have HQQ:=aH hqq
 clear hqq
 clear hg hp hq hpa hqd hg0 hd0 ha hd hq0 s1 s2
 go_enter Tryz.func118,Tryz.ntmps118
 go_wp2_with fail
 rw [show max (a:Int) (-(a:Int))=(a:Int) by omega]
 refine (cg.out).mono ?_
 rintro e w1 ⟨rfl,hb⟩
 go_wp2
 go_quiet (fail)
 have hb2:=cL hb nq
 clear hb
 generalize w1.drewN nq=w2 at *
 rw [T.out.1,T.out.2]
 go_wp2_with fail
 rw [show max (p:Int) (-(p:Int))=(p:Int) by omega]
 refine (c1.out _).mono ?_
 rintro e w3 ⟨rfl,rfl⟩
 obtain ⟨h0,s1,s2⟩:=HQ.out
 by_cases hq1:q=1
 ·have k1:¬ (1:Int)<q:=by omega
  have hr:=aH (HQQ.out.trans (if_pos hq1))
  clear hq1 h0 HQQ
  go_wp2
  go_ret
  have E:(⟨#[]⟩:ByteArray)++Ab.decB p=res:=by rw [hr.out];rw [empty_app]
  exact ⟨congrArg (fun s=>Ending.returned (Value.string s)) E,hb2⟩
 ·have k1:(1:Int)<q:=by omega
  have hr:=aH (HQQ.out.trans (if_neg hq1))
  clear hq1 h0 HQQ
  go_wp2_with fail
  refine (c2.out _).mono ?_
  rintro e w4 ⟨rfl,rfl⟩
  go_wp2
  go_ret
  have E:(⟨#[]⟩:ByteArray)++Ab.decB p++⟨#[47]⟩++Ab.decB q=res:=by rw [hr.out];rw [empty_app]
  exact ⟨congrArg (fun s=>Ending.returned (Value.string s)) E,hb2⟩
set_option maxRecDepth 100000 in
theorem of_neg (a d:Nat) (w:World) (ha0:0<a) (ha:a≤4000000000000000000) (hd:d≤4000000000000000000) (hd0:0<d) (p q g:Nat) (hg:g=Nat.gcd a d) (hp:p=a/g) (hq:q=d/g) :
 Calls Tryz.prog 118 #[.int .i64 (-(a:Int)),.int .i64 (d:Int)] w fun e w'=>e = .returned (.string (if q=1 then (⟨#[45]⟩++Ab.decB p) else (⟨#[45]⟩++Ab.decB p)++⟨#[47]⟩++Ab.decB q))∧Below w.heap.size w w':=by
 have hg0:0<g:=by rw [hg];exact Nat.gcd_pos_of_pos_right _ hd0
 have hpa:p≤a:=by rw [hp];exact Nat.div_le_self _ _
 have hqd:q≤d:=by rw [hq];exact Nat.div_le_self _ _
 have hq0:0<q:=by rw [hq,hg];exact Nat.div_pos (Nat.gcd_le_right _ hd0) (Nat.gcd_pos_of_pos_right _ hd0)
 have hp0:0<p:=by rw [hp,hg];exact Nat.div_pos (Nat.gcd_le_left _ ha0) (Nat.gcd_pos_of_pos_left _ ha0)
 have cg:=aH (rgcd_any a d w (by omega) (by omega))
 rw [← hg] at cg
 have c1:=aH (fun W=>pO p W (by omega))
 have c2:=aH (fun W=>pO q W (by omega))
 have s1:(Ab.decB p).size≤19:=Ab.decB_size (k:=18) (by omega)
 have s2:(Ab.decB q).size≤19:=Ab.decB_size (k:=18) (by omega)
 have T:=aH (show wrap64 (-((a:Int)/(g:Int)))=(-(p:Int))∧wrap64 ((d:Int)/(g:Int))=(q:Int) from by
  have e1:(a:Int)/(g:Int)=(p:Int):=by rw [hp];simp
  have e2:(d:Int)/(g:Int)=(q:Int):=by rw [hq];simp
  rw [e1,e2]
  exact ⟨IntWalk.wrap64_in _ ⟨by omega,by omega⟩,IntWalk.wrap64_in _ ⟨by omega,by omega⟩⟩)
 have hz0:((g:Int)==0)=false:=by simp;omega
 have hz1:¬ (g:Int)=0:=by omega
 have hz3:((g:Int) == -1)=false:=by simp
 have b1:(a:Int)≤4000000000000000000:=by omega
 have b2:(d:Int)≤4000000000000000000:=by omega
 have b3:(p:Int)≤4000000000000000000:=by omega
 have b4:(q:Int)≤4000000000000000000:=by omega
 have b5:(1:Int)≤d:=by omega
 have b6:(1:Int)≤q:=by omega
 have b7:(1:Int)≤a:=by omega
 have b8:(1:Int)≤p:=by omega
 have HQ:=aH (aI hq0 (aI s1 s2))
 obtain ⟨res,hqq⟩:∃ res,res=(if q=1 then (⟨#[45]⟩++Ab.decB p) else (⟨#[45]⟩++Ab.decB p)++⟨#[47]⟩++Ab.decB q):=⟨_,rfl⟩
 rw [← hqq]
 have HQQ:=aH hqq
 clear hqq
 clear hg hp hq hpa hqd hg0 hd0 ha hd hq0 s1 s2
 go_enter Tryz.func118,Tryz.ntmps118
 go_wp2_with fail
 rw [show max (-(a:Int)) (a:Int)=(a:Int) by omega]
 refine (cg.out).mono ?_
 rintro e w1 ⟨rfl,hb⟩
 go_wp2
 go_quiet (fail)
 have hb2:=cL hb nq
 clear hb
 generalize w1.drewN nq=w2 at *
 rw [T.out.1,T.out.2]
 go_wp2_with fail
 rw [show max (-(p:Int)) (p:Int)=(p:Int) by omega]
 refine (c1.out _).mono ?_
 rintro e w3 ⟨rfl,rfl⟩
 obtain ⟨h0,s1,s2⟩:=HQ.out
 by_cases hq1:q=1
 ·have k1:¬ (1:Int)<q:=by omega
  have hr:=aH (HQQ.out.trans (if_pos hq1))
  clear hq1 h0 HQQ
  go_wp2
  go_ret
  have E:(⟨#[45]⟩:ByteArray)++Ab.decB p=res:=by rw [hr.out]
  exact ⟨congrArg (fun s=>Ending.returned (Value.string s)) E,hb2⟩
 ·have k1:(1:Int)<q:=by omega
  have hr:=aH (HQQ.out.trans (if_neg hq1))
  clear hq1 h0 HQQ
  go_wp2_with fail
  refine (c2.out _).mono ?_
  rintro e w4 ⟨rfl,rfl⟩
  go_wp2
  go_ret
  have E:(⟨#[45]⟩:ByteArray)++Ab.decB p++⟨#[47]⟩++Ab.decB q=res:=by rw [hr.out]
  exact ⟨congrArg (fun s=>Ending.returned (Value.string s)) E,hb2⟩
end
namespace Ab
open Go.RowKit Pl
def zeroT:ByteArray:=⟨#[48]⟩
def oneT:ByteArray:=⟨#[49]⟩
def decF (s:ByteArray):Bool:=if s.size=0 then false else if 1<s.size∧(aC s).head?=some 48 then false else dT s
theorem decF_dec (n:Nat):decF (decB n)=true:=by
 unfold decF
 have e:aC (decB n)=Lib.decDigits n:=dD n
 rw [if_neg (by have:=tN n;omega),if_neg,wK]
 ·exact fS n
 ·rintro ⟨h1,h2⟩
  rw [e] at h2
  by_cases h0:0<n
  ·exact xX h0 h2
  ·have:n=0:=by omega
   subst this
   rw [dec0] at h1
   exact absurd h1 (by decide)
theorem iS {s:ByteArray} (h:decF s=true):s=decB (aU (aC s)):=by
 unfold decF at h
 split at h
 ·cases h
 ·split at h
  ·cases h
  ·rename_i h0 h1
   have hd:=wK.1 h
   refine ba_ext ?_
   rw [dD]
   refine (aAq (aC s).length (aC s) rfl hd ?_ ?_).symm
   ·intro e;apply h0;rw [← aE,e];rfl
   ·by_cases hl:(aC s).length=1
    ·exact .inl hl
    ·right;intro e;apply h1
     refine ⟨?_,e⟩
     rw [aE] at hl
     omega
def iJ (s:ByteArray):Bool:=(aC s).head?==some 45
def bG (s:ByteArray):ByteArray:=if iJ s=true then s.extract 1 s.size else s
def bM (s:ByteArray):Int :=
 if decF ((bG s).extract 0 (aJ (bG s)))=false∨(iJ s=true∧(bG s).extract 0 (aJ (bG s))=zeroT) then 1
 else if aJ (bG s)<(bG s).size∧(decF ((bG s).extract (aJ (bG s)+1) (bG s).size)=false∨(bG s).extract (aJ (bG s)+1) (bG s).size=zeroT∨(bG s).extract (aJ (bG s)+1) (bG s).size=oneT) then 1
 else if 600<aJ (bG s)∨600<(bG s).size-aJ (bG s)-1 then 4
 else if aJ (bG s)<(bG s).size∧Nat.gcd (aU (aC ((bG s).extract 0 (aJ (bG s))))) (aU (aC ((bG s).extract (aJ (bG s)+1) (bG s).size)))≠1 then 1 else 0
theorem nG {n m:Nat} (h:decB n=decB m):n=m:=by rw [← fF n,h,fF]
theorem xQ (s:ByteArray):s.extract 0 s.size=s:=by
 refine ba_ext ?_
 show aC (s.extract 0 s.size)=aC s
 rw [aS,List.drop_zero,List.take_of_length_le (by rw [aE];exact aR _)]
theorem slash_split {s:ByteArray} (h:aJ s<s.size):s=s.extract 0 (aJ s)++(⟨#[47]⟩++s.extract (aJ s+1) s.size):=by
 refine ba_ext ?_
 show aC s=aC _
 have e1:aC (s.extract 0 (aJ s)++(⟨#[47]⟩++s.extract (aJ s+1) s.size))=aC (s.extract 0 (aJ s))++(47::aC (s.extract (aJ s+1) s.size)):=by simp [aC]
 have e2:(aC s).take s.size=aC s:=List.take_of_length_le (by rw [aE];exact aR _)
 rw [e1,aS,aS,List.drop_zero,e2]
 have hl:aJ s<(aC s).length:=by rw [aE];exact h
 have hk:(aC s)[aJ s]'hl=47:=by
  have:=List.findIdx_getElem (xs:=aC s) (p:=fun c=>c==47) (w:=hl)
  exact eq_of_beq this
 conv=>lhs;rw [← List.take_append_drop (aJ s) (aC s),List.drop_eq_getElem_cons hl,hk]
theorem neg_split {s:ByteArray} (h:iJ s=true):s=⟨#[45]⟩++bG s:=by
 have hh:(aC s).head?=some 45:=eq_of_beq h
 refine ba_ext ?_
 show aC s=aC _
 unfold bG
 rw [if_pos h]
 have e1:aC (⟨#[45]⟩++s.extract 1 s.size)=45::aC (s.extract 1 s.size):=by simp [aC]
 rw [e1,aS,List.take_of_length_le (by rw [aE];exact aR _)]
 generalize aC s=l at hh ⊢
 cases l with
 | nil=>cases hh
 | cons c r =>
   injection hh with hh
   rw [hh];rfl
theorem gF (q:Rat):iJ (writeB q)=decide (q.num<0)∧bG (writeB q)=bA q:=by
 by_cases hn:q.num<0
 ·obtain ⟨f1,⟨h0,hc⟩,f3,f4,f5⟩:=iI hn
  have e:iJ (writeB q)=true:=by
   unfold iJ
   have h2:aC (writeB q)=45::aC (bA q):=by rw [mV hn];simp [aC]
   rw [h2];rfl
  refine ⟨by rw [e,decide_eq_true hn],?_⟩
  unfold bG
  rw [if_pos e,f3]
 ·have e:iJ (writeB q)=false:=by
   unfold iJ
   obtain ⟨c,r,h1,h2⟩:=uZ q
   have h3:aC (bA q)=c::r:=h1
   rw [eD hn,h3]
   show (some c==some 45)=false
   rw [beq_eq_false_iff_ne]
   intro h
   injection h with h
   rw [h] at h2
   exact absurd h2 (by decide)
  refine ⟨by rw [e,decide_eq_false hn],?_⟩
  unfold bG
  rw [if_neg (by rw [e];exact Bool.false_ne_true),eD hn]
theorem tS (q:Rat):(bA q).extract 0 (aJ (bA q))=decB q.num.natAbs∧(q.den≠1→(bA q).extract (aJ (bA q)+1) (bA q).size=decB q.den)∧(aJ (bA q)<(bA q).size↔q.den≠1):=by
 have hsl:=oD q
 have hsz:=pU q
 refine ⟨?_,fun hd=>?_,?_⟩
 ·rw [hsl]
  by_cases h:q.den=1
  ·rw [nE h,cK,xQ]
  ·rw [pT h,cK,ext_lo]
 ·rw [hsl,pT hd,cK]
  exact ext_hi _ _
 ·rw [hsl,hsz]
  by_cases h:q.den=1
  ·rw [if_pos h];simp [h]
  ·rw [if_neg h];simp [h];omega
theorem gcd_of (q:Rat):Nat.gcd q.num.natAbs q.den=1:=q.reduced
theorem wO {q:Rat} (h1:(decB q.num.natAbs).size≤600) (h2:(decB q.den).size≤600):bM (writeB q)=0:=by
 obtain ⟨s1,s2⟩:=gF q
 obtain ⟨c1,c2,c3⟩:=tS q
 have hsl:=oD q
 have hsz:=pU q
 unfold bM
 rw [s2,s1,c1]
 rw [if_neg,if_neg,if_neg,if_neg]
 ·rintro ⟨k,e⟩
  have hd:=c3.1 k
  rw [c2 hd,fF,fF] at e
  exact e (gcd_of q)
 ·rw [hsl,hsz]
  by_cases h:q.den=1
  ·rw [if_pos h];omega
  ·rw [if_neg h];omega
 ·rintro ⟨k,e⟩
  have hd:=c3.1 k
  rw [c2 hd] at e
  rcases e with e|e|e
  ·rw [decF_dec] at e;cases e
  ·have:=nG (e.trans dec0.symm)
   exact q.den_nz this
  ·exact hd (nG (e.trans dec1.symm))
 ·rintro (e|⟨e1,e2⟩)
  ·rw [decF_dec] at e;cases e
  ·have:=nG (e2.trans dec0.symm)
   have:=of_decide_eq_true e1
   omega
theorem sD {s:ByteArray} (h:bM s=0):∃ q:Rat,s=writeB q∧(decB q.num.natAbs).size≤600∧(decB q.den).size≤600:=by
 unfold bM at h
 split at h
 ·exact absurd h (by decide)
 rename_i g1
 split at h
 ·exact absurd h (by decide)
 rename_i g2
 split at h
 ·exact absurd h (by decide)
 rename_i g3
 split at h
 ·exact absurd h (by decide)
 rename_i g4
 clear h
 obtain ⟨t,ht⟩:∃ t,t=bG s:=⟨_,rfl⟩
 rw [← ht] at g1 g2 g3 g4
 obtain ⟨k,hk⟩:∃ k,k=aJ t:=⟨_,rfl⟩
 rw [← hk] at g1 g2 g3 g4
 have ha:decF (t.extract 0 k)=true:=by
  cases e:decF (t.extract 0 k) with
  | true=>rfl
  | false=>exact absurd (.inl e) g1
 have hz:iJ s=true→t.extract 0 k≠zeroT:=fun e1 e2=>g1 (.inr ⟨e1,e2⟩)
 have hae:=iS ha
 obtain ⟨n,hn⟩:∃ n,n=aU (aC (t.extract 0 k)):=⟨_,rfl⟩
 rw [← hn] at hae g4
 have hkl:k≤t.size:=by rw [hk];exact cJ t
 have hasz:(decB n).size=k:=by rw [← hae,ByteArray.size_extract];omega
 have hn0:iJ s=true→n≠0:=by
  intro e1 e2
  apply hz e1
  rw [hae,e2,dec0];rfl
 obtain ⟨z,hz1,hz2⟩:∃ z:Int,z.natAbs=n∧decide (z<0)=iJ s:=by
  cases e:iJ s with
  | true=>exact ⟨-(n:Int),by simp,by have:=hn0 e;rw [decide_eq_true_iff];omega⟩
  | false=>exact ⟨(n:Int),by simp,by rw [decide_eq_false_iff_not];omega⟩
 have fin:∀ q:Rat,q.num=z→bA q=t→s=writeB q:=by
  intro q e1 e2
  by_cases hneg:iJ s=true
  ·have:q.num<0:=by rw [e1];exact of_decide_eq_true (hz2.trans hneg)
   rw [mV this,e2,ht]
   exact neg_split hneg
  ·have h0:iJ s=false:=by cases e:iJ s with
    | true=>exact absurd e hneg
    | false=>rfl
   have:¬ q.num<0:=by rw [e1];exact of_decide_eq_false (hz2.trans h0)
   rw [eD this,e2,ht]
   unfold bG
   rw [if_neg hneg]
 by_cases hlt:k<t.size
 ·have hd:decF (t.extract (k+1) t.size)=true:=by
   cases e:decF (t.extract (k+1) t.size) with
   | true=>rfl
   | false=>exact absurd ⟨hlt,.inl e⟩ g2
  have hde:=iS hd
  obtain ⟨m,hm⟩:∃ m,m=aU (aC (t.extract (k+1) t.size)):=⟨_,rfl⟩
  rw [← hm] at hde g4
  have hm0:m≠0:=by
   intro e
   exact g2 ⟨hlt,.inr (.inl (by rw [hde,e,dec0];rfl))⟩
  have hm1:m≠1:=by
   intro e
   exact g2 ⟨hlt,.inr (.inr (by rw [hde,e,dec1];rfl))⟩
  have hg:Nat.gcd n m=1:=by
   by_cases e:Nat.gcd n m=1
   ·exact e
   ·exact absurd ⟨hlt,e⟩ g4
  obtain ⟨p1,p2⟩:=tQ z hm0
  rw [hz1,hg] at p1 p2
  have q1:(mkRat z m).num=z:=by rw [p1];simp
  have q2:(mkRat z m).den=m:=by rw [p2];simp
  refine ⟨mkRat z m,fin _ q1 ?_,by rw [q1,hz1,hasz];omega,?_⟩
  ·rw [pT (by rw [q2];exact hm1),cK,q1,hz1,q2,← hae,← hde,hk]
   exact (slash_split (hk▸hlt)).symm
  ·rw [q2,← hde,ByteArray.size_extract];omega
 ·have hkt:k=t.size:=by omega
  have q1:((z:Int):Rat).num=z:=rfl
  have q2:((z:Int):Rat).den=1:=rfl
  refine ⟨(z:Rat),fin _ q1 ?_,by rw [q1,hz1,hasz];omega,by rw [q2,dec1];decide⟩
  rw [nE q2,cK,q1,hz1,← hae,hkt,xQ]
theorem tT {o:Oper} {ρ:Operand→Value} {w:World} {x y:Operand} {a b:Int} (ho:o.op = .binOp .mul 3 x y 3) (hx:ρ x = .int .i64 a) (hy:ρ y = .int .i64 b) (h:-9223372036854775808≤a*b∧a*b≤9223372036854775807) :
 (execOp ρ o).run Tryz.prog w = .ok (.value (.int .i64 (a*b))) w:=by
 simp only [execOp,ho,hx,hy]
 refine bQ ?_
 have e:IntKind.i64.wrap (a*b)=a*b:=by rw [IntWalk.i64_left,IntWalk.wrap64_in _ h]
 simp [go_sem,e]
theorem addi_run {o:Oper} {ρ:Operand→Value} {w:World} {x y:Operand} {a b:Int} (ho:o.op = .binOp .add 3 x y 3) (hx:ρ x = .int .i64 a) (hy:ρ y = .int .i64 b) (h:-9223372036854775808≤a+b∧a+b≤9223372036854775807) :
 (execOp ρ o).run Tryz.prog w = .ok (.value (.int .i64 (a+b))) w:=by
 simp only [execOp,ho,hx,hy]
 refine bQ ?_
 have e:IntKind.i64.wrap (a+b)=a+b:=by rw [IntWalk.i64_left,IntWalk.wrap64_in _ h]
 simp [go_sem,e]
theorem oE {n k:Nat} (h:(decB n).size≤k):n<10^k:=by
 have:=gH (fS n)
 rw [fF,aE] at this
 exact Nat.lt_of_lt_of_le this (Nat.pow_le_pow_right (by omega) h)
abbrev qy (q:Rat):AV Kr := .tup [.sc (.sp (iY (.int .i64 q.num) rfl false (fun h=>by cases h))),.sc (.sp (iY (.int .i64 (q.den:Int)) rfl false (fun h=>by cases h))),.sc (.lit (.bool true))]
theorem tU {q:Rat} {β:List Nat} {v:Value} {w:World} (h:(qy q).holds β v w):(qany true).holds β v w:=by
 obtain ⟨vs,rfl,a,r,rfl,h1,b,r2,rfl,h2,c,r3,rfl,h3,h4⟩:=h
 exact ⟨_,rfl,a,_,rfl,⟨q.num,h1⟩,b,_,rfl,⟨(q.den:Int),h2⟩,c,_,rfl,h3,h4⟩
theorem to_qy1 {q:Rat} {n:Int} (hn:n=q.num) (hd:q.den=1) {β:List Nat} {v:Value} {w:World} (h:(AV.tup [.sc (.sp (iY (.int .i64 n) rfl false (fun h=>by cases h))),.sc (.lit (.int .i64 1)),.sc (.lit (.bool true))]:AV Kr).holds β v w):(qy q).holds β v w:=by
 subst hn
 obtain ⟨vs,rfl,a,r,rfl,h1,b,r2,rfl,h2,c,r3,rfl,h3,h4⟩:=h
 have e:[b] = [.int .i64 1]:=h2.1
 exact ⟨_,rfl,a,_,rfl,h1,b,_,rfl,(by show [b] = [Value.int .i64 (q.den:Int)];rw [hd];exact e),c,_,rfl,h3,h4⟩
theorem to_qy2 {q:Rat} {n:Int} {d:Nat} (hn:n=q.num) (hd:d=q.den) {β:List Nat} {v:Value} {w:World} (h:(AV.tup [.sc (.sp (iY (.int .i64 n) rfl false (fun h=>by cases h))),.sc (.sp (iY (.int .i64 (d:Int)) rfl false (fun h=>by cases h))),.sc (.lit (.bool true))]:AV Kr).holds β v w):(qy q).holds β v w:=by
 subst hn
 subst hd
 exact h
theorem iZ {q:Rat} (hq:Sq q):jF 117 [rS (writeB q)] (qy q):=by
 have hbs:=pU q
 have hsl:=oD q
 obtain ⟨k1,k2,k3⟩:=tS q
 have n9:=oE hq.1
 have hs9:=hq.1
 have h100:(10:Nat)^9=1000000000:=by decide
 have v1:=valueF (d:=decB q.num.natAbs) (n:=q.num.natAbs) (fS _) (by omega) (fF _)
 by_cases hn:q.num<0
 ·obtain ⟨f1,f2,f3,f4,f5⟩:=iI hn
  have e1:-(q.num.natAbs:Int)=q.num:=by omega
  by_cases hd:q.den=1
  ·rw [if_pos hd] at hbs
   refine nD (quick_yes1n (u:=bA q) (d1:=decB q.num.natAbs) (n1:=q.num.natAbs) ?_ ?_ f1 f2 f3 f4 (by omega) ?_ ?_ k1 v1 ?_) (fun β v w h=>to_qy1 e1 hd h)
   ·rw [decide_eq_false_iff_not];omega
   ·rw [decide_eq_true_iff];omega
   ·rw [hsl,decide_eq_false_iff_not];omega
   ·rw [hsl,decide_eq_false_iff_not];omega
   ·rw [hsl,decide_eq_false_iff_not];omega
  ·rw [if_neg hd] at hbs
   have hd9:(decB q.den).size≤9:=by rcases hq.2 with h|h;exact absurd h hd;exact h
   have v2:=valueF (d:=decB q.den) (n:=q.den) (fS _) (by omega) (fF _)
   refine nD (quick_yes2n (u:=bA q) (d1:=decB q.num.natAbs) (d2:=decB q.den) (n1:=q.num.natAbs) (n2:=q.den) ?_ ?_ f1 f2 f3 f4 (by omega) ?_ ?_ k1 v1 ?_ (k2 hd) v2) (fun β v w h=>to_qy2 e1 rfl h)
   ·rw [decide_eq_false_iff_not];omega
   ·rw [decide_eq_true_iff];omega
   ·rw [hsl,decide_eq_false_iff_not];omega
   ·rw [hsl,decide_eq_false_iff_not];omega
   ·rw [hsl,decide_eq_true_iff];omega
 ·have hw:=eD hn
  obtain ⟨c,c1,c2⟩:=vJ q
  have h0:0<(bA q).size:=c1.1
  have e1:(q.num.natAbs:Int)=q.num:=by omega
  rw [hw]
  by_cases hd:q.den=1
  ·rw [if_pos hd] at hbs
   refine nD (quick_yes1p (s:=bA q) (d1:=decB q.num.natAbs) (n1:=q.num.natAbs) ?_ ?_ c1 c2 ?_ ?_ k1 v1 ?_) (fun β v w h=>to_qy1 e1 hd h)
   ·rw [decide_eq_false_iff_not];omega
   ·rw [decide_eq_true_iff];omega
   ·rw [hsl,decide_eq_false_iff_not];omega
   ·rw [hsl,decide_eq_false_iff_not];omega
   ·rw [hsl,decide_eq_false_iff_not];omega
  ·rw [if_neg hd] at hbs
   have hd9:(decB q.den).size≤9:=by rcases hq.2 with h|h;exact absurd h hd;exact h
   have v2:=valueF (d:=decB q.den) (n:=q.den) (fS _) (by omega) (fF _)
   refine nD (quick_yes2p (s:=bA q) (d1:=decB q.num.natAbs) (d2:=decB q.den) (n1:=q.num.natAbs) (n2:=q.den) ?_ ?_ c1 c2 ?_ ?_ k1 v1 ?_ (k2 hd) v2) (fun β v w h=>to_qy2 e1 rfl h)
   ·rw [decide_eq_false_iff_not];omega
   ·rw [decide_eq_true_iff];omega
   ·rw [hsl,decide_eq_false_iff_not];omega
   ·rw [hsl,decide_eq_false_iff_not];omega
   ·rw [hsl,decide_eq_true_iff];omega
theorem ofF {n:Int} {d:Nat} (hn:n.natAbs≤4000000000000000000) (hd:d≤4000000000000000000) (h0:0<d):jF 118 [rI n,rI (d:Int)] (rS (writeB (mkRat n d))):=by
 intro β w vs hv
 obtain ⟨v,u,rfl,h1,h2⟩:=eB hv
 rw [bB h1,bB h2]
 have hw:=sB n h0
 by_cases hneg:n<0
 ·have e:n = -(n.natAbs:Int):=by omega
  have h:=of_neg n.natAbs d w (by omega) hn hd h0 _ _ _ rfl rfl rfl
  have hp0:0<n.natAbs/Nat.gcd n.natAbs d:=Nat.div_pos (Nat.gcd_le_left _ (by omega)) (Nat.gcd_pos_of_pos_right _ h0)
  have et:aQ (iH (decide (n<0)) (n.natAbs/Nat.gcd n.natAbs d))=⟨#[45]⟩++decB (n.natAbs/Nat.gcd n.natAbs d):=by
   rw [decide_eq_true hneg]
   generalize n.natAbs/Nat.gcd n.natAbs d=m at hp0
   show aQ (-(m:Int))=_
   unfold aQ
   rw [if_pos (by omega)]
   simp
  rw [et,cK] at hw
  rw [← e,hw] at h
  exact h.mono fun e w' ⟨e1,e2⟩=>⟨_,e1,e2,cU⟩
 ·have e:n=(n.natAbs:Int):=by omega
  have h:=of_pos n.natAbs d w hn hd h0 _ _ _ rfl rfl rfl
  have et:aQ (iH (decide (n<0)) (n.natAbs/Nat.gcd n.natAbs d))=decB (n.natAbs/Nat.gcd n.natAbs d):=by
   rw [decide_eq_false hneg]
   exact cK _
  rw [et,cK] at hw
  rw [← e,hw] at h
  exact h.mono fun e w' ⟨e1,e2⟩=>⟨_,e1,e2,cU⟩
section
variable {p q:Rat}
theorem sq_lt (h:Sq q):q.num.natAbs<1000000000∧q.den<1000000000:=by
 have h100:(10:Nat)^9=1000000000:=by decide
 refine ⟨by rw [← h100];exact oE h.1,?_⟩
 rcases h.2 with h|h
 ·omega
 ·rw [← h100];exact oE h
theorem sE {a b:Nat} (ha:a<1000000000) (hb:b<1000000000):a*b<1000000000000000000:=Nat.mul_lt_mul'' ha hb
theorem sF {a b:Int} (ha:a.natAbs<1000000000) (hb:b.natAbs<1000000000):(a*b).natAbs<1000000000000000000:=by rw [Int.natAbs_mul];exact sE ha hb
theorem mulS (hp:Sq p) (hq:Sq q):jF 50 [rS (writeB p),rS (writeB q)] (rS (writeB (p*q))):=by
 obtain ⟨a1,a2⟩:=sq_lt hp
 obtain ⟨b1,b2⟩:=sq_lt hq
 have m1:=sF a1 b1
 have m2:=sE a2 b2
 have hof:=ofF (n:=p.num*q.num) (d:=p.den*q.den) (by omega) (by omega) (Nat.mul_pos p.den_pos q.den_pos)
 rw [← Rat.mul_def',Int.natCast_mul] at hof
 have m3:((p.den:Int)*(q.den:Int))<1000000000000000000:=by rw [← Int.natCast_mul];omega
 have m4:0≤((p.den:Int)*(q.den:Int)):=by rw [← Int.natCast_mul];omega
 have q1:=iZ hp
 have q2:=iZ hq
 generalize writeB p=s at *
 generalize writeB q=u at *
 refine jT Tryz.func50 fun w00=>?_
 refine jB 117 [rS s] q1 ?_
 refine jB 117 [rS u] q2 ?_
 refine jL (.binOp .mul 3 (.tmp 31) (.tmp 32) 3) (.tmp 31) (.tmp 32) (rI p.num) (rI q.num) (rI (p.num*q.num)) (fun ρ o β w ho hx hy=>⟨_,tT ho (bB hx) (bB hy) (by omega),cU⟩) ?_
 refine jL (.binOp .mul 3 (.tmp 34) (.tmp 35) 3) (.tmp 34) (.tmp 35) (rI (p.den:Int)) (rI (q.den:Int)) (rI ((p.den:Int)*(q.den:Int))) (fun ρ o β w ho hx hy=>⟨_,tT ho (bB hx) (bB hy) (by omega),cU⟩) ?_
 refine jB 118 [rI (p.num*q.num),rI ((p.den:Int)*(q.den:Int))] hof ?_
 exact jS Tryz.func50
theorem addS (hp:Sq p) (hq:Sq q):jF 49 [rS (writeB p),rS (writeB q)] (rS (writeB (p+q))):=by
 obtain ⟨a1,a2⟩:=sq_lt hp
 obtain ⟨b1,b2⟩:=sq_lt hq
 have m1:(p.num*(q.den:Int)).natAbs<1000000000000000000:=sF a1 (by omega)
 have m5:(q.num*(p.den:Int)).natAbs<1000000000000000000:=sF b1 (by omega)
 have m2:=sE a2 b2
 have hof:=ofF (n:=p.num*(q.den:Int)+q.num*(p.den:Int)) (d:=p.den*q.den) (by omega) (by omega) (Nat.mul_pos p.den_pos q.den_pos)
 rw [← Rat.add_def',Int.natCast_mul] at hof
 have m3:((p.den:Int)*(q.den:Int))<1000000000000000000:=by rw [← Int.natCast_mul];omega
 have m4:0≤((p.den:Int)*(q.den:Int)):=by rw [← Int.natCast_mul];omega
 have q1:=iZ hp
 have q2:=iZ hq
 generalize writeB p=s at *
 generalize writeB q=u at *
 refine jT Tryz.func49 fun w00=>?_
 refine jB 117 [rS s] q1 ?_
 refine jB 117 [rS u] q2 ?_
 refine jL (.binOp .mul 3 (.tmp 31) (.tmp 32) 3) (.tmp 31) (.tmp 32) (rI p.num) (rI (q.den:Int)) (rI (p.num*(q.den:Int))) (fun ρ o β w ho hx hy=>⟨_,tT ho (bB hx) (bB hy) (by omega),cU⟩) ?_
 refine jL (.binOp .mul 3 (.tmp 34) (.tmp 35) 3) (.tmp 34) (.tmp 35) (rI q.num) (rI (p.den:Int)) (rI (q.num*(p.den:Int))) (fun ρ o β w ho hx hy=>⟨_,tT ho (bB hx) (bB hy) (by omega),cU⟩) ?_
 refine jL (.binOp .add 3 (.tmp 33) (.tmp 36) 3) (.tmp 33) (.tmp 36) (rI (p.num*(q.den:Int))) (rI (q.num*(p.den:Int))) (rI (p.num*(q.den:Int)+q.num*(p.den:Int))) (fun ρ o β w ho hx hy=>⟨_,addi_run ho (bB hx) (bB hy) (by omega),cU⟩) ?_
 refine jL (.binOp .mul 3 (.tmp 38) (.tmp 39) 3) (.tmp 38) (.tmp 39) (rI (p.den:Int)) (rI (q.den:Int)) (rI ((p.den:Int)*(q.den:Int))) (fun ρ o β w ho hx hy=>⟨_,tT ho (bB hx) (bB hy) (by omega),cU⟩) ?_
 refine jB 118 [rI (p.num*(q.den:Int)+q.num*(p.den:Int)),rI ((p.den:Int)*(q.den:Int))] hof ?_
 exact jS Tryz.func49
theorem fN (hp:Zs 10000 p) (hq:Zs 10000 q):jF 50 [rS (writeB p),rS (writeB q)] (rS (writeB (p*q))):=by
 by_cases h1:Sq p
 ·by_cases h2:Sq q
  ·exact mulS h1 h2
  ·exact mulBig hp hq (nD (iZ h1) fun _ _ _=>tU) (nD (lT h2) fun _ _ _=>lU) rfl
 ·by_cases h2:Sq q
  ·exact mulBig hp hq (nD (lT h1) fun _ _ _=>lU) (nD (iZ h2) fun _ _ _=>tU) rfl
  ·exact mulBig hp hq (nD (lT h1) fun _ _ _=>lU) (nD (lT h2) fun _ _ _=>lU) rfl
theorem oG (hp:Zs 10000 p) (hq:Zs 10000 q):jF 49 [rS (writeB p),rS (writeB q)] (rS (writeB (p+q))):=by
 by_cases h1:Sq p
 ·by_cases h2:Sq q
  ·exact addS h1 h2
  ·exact addBig hp hq (nD (iZ h1) fun _ _ _=>tU) (nD (lT h2) fun _ _ _=>lU) rfl
 ·by_cases h2:Sq q
  ·exact addBig hp hq (nD (lT h1) fun _ _ _=>lU) (nD (iZ h2) fun _ _ _=>tU) rfl
  ·exact addBig hp hq (nD (lT h1) fun _ _ _=>lU) (nD (lT h2) fun _ _ _=>lU) rfl
end
theorem tV {o:Oper} {ρ:Operand→Value} {w:World} {x y:Operand} {a:Nat} (ho:o.op = .binOp .sub 3 x y 3) (hx:ρ x = .int .i64 (a:Int)) (hy:ρ y = .int .i64 1) (ha:a≤9223372036854775807) :
 (execOp ρ o).run Tryz.prog w = .ok (.value (.int .i64 ((a:Int)-1))) w:=by
 simp only [execOp,ho,hx,hy]
 refine bQ ?_
 have e:IntKind.i64.wrap ((a:Int)-1)=(a:Int)-1:=by
  rw [IntWalk.i64_left,IntWalk.wrap64_in _ ⟨by omega,by omega⟩]
 simp [go_sem,e]
theorem qN {o:Oper} {ρ:Operand→Value} {w:World} {x y:Operand} {a b:Int} {r:Bool} (ho:o.op = .binOp .neq 3 x y 3) (hx:ρ x = .int .i64 a) (hy:ρ y = .int .i64 b) (h:(a != b)=r) :
 (execOp ρ o).run Tryz.prog w = .ok (.value (.bool r)) w:=by
 simp only [execOp,ho,hx,hy]
 refine bQ ?_
 rw [← h]
 exact bX (by kernel_rfl) w
section
variable {s t a d:ByteArray} {c k n m g:Nat}
theorem check_empty (h0:decide ((0:Int)<(s.size:Nat))=false) (hsl:jF 113 [rS s] (rI (0:Int))) (ha:s.extract 0 0=a) (fa:jF 114 [rS a] (rl false)):jF 48 [rS s] (.fv (.sc (.lit (.int .i64 1)))):=by
 refine jT Tryz.func48 fun w00=>?_
 refine dU 9 9 Tryz.underlying9 s ?_
 refine kA 10 0 (s.size:Nat) false h0 ?_
 refine jB 113 [rS s] hsl ?_
 refine jL (.slice 9 (.tmp 21) none (some (.tmp 22)) none) (.tmp 21) (.tmp 22) (rS s) (rI (0:Int)) (rS a) (fun ρ o β w ho hx hy=>?_) ?_
 ·have:=pR (k:=0) (w:=w) ho Tryz.underlying9 (bB hx) (bB hy) (Nat.zero_le _)
  rw [ha] at this
  exact ⟨_,this,cU⟩
 refine jB 114 [rS a] fa ?_
 exact jS Tryz.func48
end
end Ab
section
open Go.RowKit Pl
theorem decForm_any (s:ByteArray) (w:World) (hs:s.size≤9223372036854775807):Calls Tryz.prog 114 #[.string s] w fun e w'=>e = .returned (.bool (Ab.decF s))∧w'=w:=by
 have cd:=aH (fun W=>digits_any s W hs)
 by_cases h0:s.size=0
 ·have hr:Ab.decF s=false:=by unfold Ab.decF;rw [if_pos h0]
  have k0:(s.size:Int)=0:=by omega
  rw [hr]
  clear hr h0 cd
  go_enter Tryz.func114,Tryz.ntmps114
  go_wp2
  go_ret
  exact ⟨rfl,rfl⟩
 ·have hp:0<s.size:=by omega
  obtain ⟨c,hc⟩:∃ c:Nat,(s[0]'hp).toNat=c:=⟨_,rfl⟩
  have hh:(aC s).head?=some 48↔c=48:=by
   have h1:=cR hp
   rw [List.head?_eq_getElem?,h1,← hc]
   constructor
   ·intro h;injection h with h;rw [h];rfl
   ·intro h;congr 1;exact UInt8.toNat_inj.1 h
  have k0:((s.size:Int)==0)=false:=by rw [beq_eq_false_iff_ne];omega
  have p0:(0:Int)<s.size:=by omega
  obtain ⟨r,hr⟩:∃ r,r=Ab.decF s:=⟨_,rfl⟩
  rw [← hr]
  unfold Ab.decF at hr
  rw [if_neg h0] at hr
  by_cases h1:1<s.size
  ·have k1:(1:Int)<s.size:=by omega
   by_cases h48:c=48
   ·rw [if_pos ⟨h1,hh.2 h48⟩] at hr
    subst h48
    have HR:=aH hr
    clear hr hh h1 h0 cd
    go_enter Tryz.func114,Tryz.ntmps114
    go_wp2
    go_ret
    exact ⟨by rw [HR.out];rfl,rfl⟩
   ·rw [if_neg (fun h=>h48 (hh.1 h.2))] at hr
    have k2:((c:Int)==48)=false:=by simp;omega
    have k3:¬ (c:Int)=48:=by omega
    have HR:=aH hr
    clear hr hh h1 h0 h48
    go_enter Tryz.func114,Tryz.ntmps114
    go_wp2_with fail
    refine (cd.out _).mono ?_
    rintro e w' ⟨rfl,rfl⟩
    go_wp2
    go_ret
    exact ⟨by rw [HR.out];rfl,rfl⟩
  ·rw [if_neg (fun h=>h1 h.1)] at hr
   have k1:¬ (1:Int)<s.size:=by omega
   have HR:=aH hr
   clear hr hh h1 h0
   go_enter Tryz.func114,Tryz.ntmps114
   go_wp2_with fail
   refine (cd.out _).mono ?_
   rintro e w' ⟨rfl,rfl⟩
   go_wp2
   go_ret
   exact ⟨by rw [HR.out];rfl,rfl⟩
end
namespace Ab
open Go.RowKit Pl
theorem pW {s:ByteArray} (hs:s.size≤9223372036854775807):jF 114 [rS s] (rl (decF s)):=by
 intro β w vs hv
 obtain ⟨v,rfl,h1⟩:=dF hv
 rw [bB h1]
 exact (decForm_any s w hs).mono fun e w' ⟨e1,e2⟩=>⟨_,e1,by rw [e2];exact aB _ _,fE rfl⟩
theorem lit_I {z:Int} (β:List Nat) (v:Value) (w:World) (h:(AV.fv (.sc (.lit (.int .i64 z))):AV Kr).holds β v w):(rI z).holds β v w:=h.1
theorem dY {a b:ByteArray} (h:a≠b):(a.toList==b.toList)=false:=by
 rw [beq_eq_false_iff_ne]
 intro e
 apply h
 rw [Go.ByteArray.toList_eq,Go.ByteArray.toList_eq] at e
 exact ba_ext e
theorem neg_head {s:ByteArray} (h:iJ s=true):∃ h:0<s.size,(s[0]'h).toNat=45:=by
 have hh:(aC s).head?=some 45:=eq_of_beq h
 have hp:0<s.size:=by
  rcases Nat.eq_zero_or_pos s.size with e|e
  ·rw [← aE] at e
   rw [List.eq_nil_of_length_eq_zero e] at hh
   cases hh
  ·exact e
 refine ⟨hp,?_⟩
 rw [List.head?_eq_getElem?,cR hp] at hh
 injection hh with hh
 rw [hh];rfl
theorem pos_head {s:ByteArray} (hp:0<s.size) (h:iJ s=false):∃ c:Nat,(∃ h:0<s.size,(s[0]'h).toNat=c)∧((c:Int)==45)=false:=by
 refine ⟨_,⟨hp,rfl⟩,?_⟩
 have hh:¬ (aC s).head?=some 45:=by unfold iJ at h;rw [beq_eq_false_iff_ne] at h;exact h
 rw [beq_eq_false_iff_ne]
 intro e
 apply hh
 rw [List.head?_eq_getElem?,cR hp]
 congr 1
 apply UInt8.toNat_inj.1
 show (s[0]'hp).toNat=45
 omega
theorem partsT {t:ByteArray} {k n m:Nat} (hts:t.size≤1000000000) (hk:aJ t=k) (hlt:k<t.size) (ha:t.extract 0 k=decB n) (hd:t.extract (k+1) t.size=decB m) (hn:(decB n).size≤100000) (hm:(decB m).size≤100000) :
 jF 115 [rS t] (.tup [.ag [.lit (.bool false),.sp (qS n)],.ag [.lit (.bool false),.sp (qS m)]]):=by
 have hsl:=fG (s:=t) (by omega)
 rw [hk] at hsl
 refine jT Tryz.func115 fun w00=>?_
 refine jB 113 [rS t] hsl ?_
 refine jL (.call ⟨.builtin .len,#[.tmp 10],#[9]⟩) (.tmp 10) (.tmp 10) (rS t) (rS t) (rI t.size) (fun ρ o β w ho hx _=>⟨_,tO ho Tryz.underlying9 (bB hx),cU⟩) ?_
 refine jL (.binOp .eql 3 (.tmp 9) (.tmp 11) 3) (.tmp 9) (.tmp 11) (rI (k:Int)) (rI t.size) (rl false) (fun ρ o β w ho hx hy=>⟨.bool false,iR ho (bB hx) (bB hy) (by simp;omega),fE rfl⟩) ?_
 refine jL (.slice 9 (.tmp 16) none (some (.tmp 17)) none) (.tmp 16) (.tmp 17) (rS t) (rI (k:Int)) (rS (decB n)) (fun ρ o β w ho hx hy=>?_) ?_
 ·have:=pR (w:=w) ho Tryz.underlying9 (bB hx) (bB hy) (by omega)
  rw [ha] at this
  exact ⟨_,this,cU⟩
 refine jB 168 [rS (decB n)] (parseDF hn) ?_
 refine jL (.binOp .add 3 (.tmp 21) (.const (.int .i64 1)) 3) (.tmp 21) (.const (.int .i64 1)) (rI (k:Int)) (.fv (.sc (.lit (.int .i64 1)))) (rI ((k+1:Nat):Int)) (fun ρ o β w ho hx hy=>⟨_,tP ho (bB hx) (cD hy) (by omega),cU⟩) ?_
 refine jL (.slice 9 (.tmp 20) (some (.tmp 22)) none none) (.tmp 20) (.tmp 22) (rS t) (rI ((k+1:Nat):Int)) (rS (decB m)) (fun ρ o β w ho hx hy=>?_) ?_
 ·have:=pS (w:=w) ho Tryz.underlying9 (bB hx) (bB hy) (by omega)
  rw [hd] at this
  exact ⟨_,this,cU⟩
 refine jB 168 [rS (decB m)] (parseDF hm) ?_
 exact jS Tryz.func115
theorem fI {f:FuncId} {w00:World} {c:Cfg Kr} {fn:Func} {z:Int} (hfn:Tryz.prog.funcs[f]?=some fn) (hc:c.res Tryz.prog fn=some (.fv (.sc (.lit (.int .i64 z))))):Ok Tryz.prog f w00 (fun v w=>(rI z).holds [] v w) c :=
 ⟨good_ret hfn _ hc fun _ _ _ h=>h.1⟩
theorem check_neg {s:ByteArray} {z:Int} (hs:s.size≤9223372036854775807) (hne:0<s.size) (hn:iJ s=true) (hz:bM s=z):jF 48 [rS s] (rI z):=by
 have hc:=neg_head hn
 have h1:1≤s.size:=hne
 have hsp:bG s=s.extract 1 s.size:=if_pos hn
 unfold bM at hz
 rw [hn] at hz
 obtain ⟨t,hext⟩:∃ t,s.extract 1 s.size=t:=⟨_,rfl⟩
 rw [hsp,hext] at hz
 have hts:t.size<9223372036854775807:=by rw [← hext,ByteArray.size_extract];omega
 have hsl:=fG (s:=t) (by omega)
 have hkl:=cJ t
 have hks:aJ t=aJ t:=rfl
 generalize hk:aJ t=k at hsl hkl hks hz
 obtain ⟨a,ha⟩:∃ a,t.extract 0 k=a:=⟨_,rfl⟩
 obtain ⟨d,hd⟩:∃ d,t.extract (k+1) t.size=d:=⟨_,rfl⟩
 have hasz:a.size=k:=by rw [← ha,ByteArray.size_extract];omega
 have hdsz:d.size=t.size-(k+1):=by rw [← hd,ByteArray.size_extract];omega
 rw [ha,hd] at hz
 have fa:=pW (s:=a) (by omega)
 have fd:=pW (s:=d) (by omega)
 refine jT Tryz.func48 fun w00=>?_
 refine dU 9 9 Tryz.underlying9 s ?_
 refine kA 10 0 (s.size:Nat) true (by rw [decide_eq_true_iff];omega) ?_
 refine ridn 13 s hc ?_
 refine rsl1 17 9 Tryz.underlying9 s t h1 hext ?_
 refine jB 113 [rS t] hsl ?_
 refine rshi 21 22 9 Tryz.underlying9 t k a hkl ha ?_
 by_cases c1:decF a=false
 ·rw [if_pos (.inl c1)] at hz
  subst hz
  rw [c1] at fa
  refine jB 114 [rS a] fa ?_
  exact fI Tryz.func48 (by kernel_rfl)
 rw [Bool.not_eq_false] at c1
 rw [c1] at fa
 refine jB 114 [rS a] fa ?_
 refine ridnR 27 s hc ?_
 refine rshi 31 32 9 Tryz.underlying9 t k a hkl ha ?_
 by_cases cz:a=zeroT
 ·rw [if_pos (.inr ⟨rfl,cz⟩)] at hz
  subst hz
  refine vI 33 9 a ⟨#[48]⟩ true (by rw [cz];exact beq_self_eq_true zeroT.toList) ?_
  exact fI Tryz.func48 (by kernel_rfl)
 refine vI 33 9 a ⟨#[48]⟩ false (dY cz) ?_
 rw [if_neg (by rintro (h|h);exact absurd (h.symm.trans c1) (by decide);exact cz h.2)] at hz
 refine dU 38 9 Tryz.underlying9 t ?_
 by_cases hlt:k<t.size
 ·have fl:decide ((k:Int)<(t.size:Nat))=true:=by rw [decide_eq_true_iff];omega
  refine xA 37 39 (k:Int) (t.size:Nat) true fl ?_
  refine radd 43 k (by omega) ?_
  refine rslo 42 44 9 Tryz.underlying9 t (k+1) d (by omega) hd ?_
  by_cases d1:decF d=false
  ·rw [if_pos ⟨hlt,.inl d1⟩] at hz
   subst hz
   rw [d1] at fd
   refine jB 114 [rS d] fd ?_
   exact fI Tryz.func48 (by kernel_rfl)
  rw [Bool.not_eq_false] at d1
  rw [d1] at fd
  refine jB 114 [rS d] fd ?_
  refine radd 50 k (by omega) ?_
  refine rslo 49 51 9 Tryz.underlying9 t (k+1) d (by omega) hd ?_
  by_cases d0:d=zeroT
  ·rw [if_pos ⟨hlt,.inr (.inl d0)⟩] at hz
   subst hz
   refine vI 52 9 d ⟨#[48]⟩ true (by rw [d0];exact beq_self_eq_true zeroT.toList) ?_
   exact fI Tryz.func48 (by kernel_rfl)
  refine vI 52 9 d ⟨#[48]⟩ false (dY d0) ?_
  refine radd 57 k (by omega) ?_
  refine rslo 56 58 9 Tryz.underlying9 t (k+1) d (by omega) hd ?_
  by_cases d2:d=oneT
  ·rw [if_pos ⟨hlt,.inr (.inr d2)⟩] at hz
   subst hz
   refine vI 59 9 d ⟨#[49]⟩ true (by rw [d2];exact beq_self_eq_true oneT.toList) ?_
   exact fI Tryz.func48 (by kernel_rfl)
  refine vI 59 9 d ⟨#[49]⟩ false (dY d2) ?_
  rw [if_neg (by rintro ⟨_,h|h|h⟩;exact absurd (h.symm.trans d1) (by decide);exact d0 h;exact d2 h)] at hz
  by_cases l1:600<k
  ·rw [if_pos (.inl l1)] at hz
   subst hz
   refine kA 63 600 (k:Int) true (by rw [decide_eq_true_iff];omega) ?_
   exact fI Tryz.func48 (by kernel_rfl)
  refine kA 63 600 (k:Int) false (by rw [decide_eq_false_iff_not];omega) ?_
  refine dU 66 9 Tryz.underlying9 t ?_
  refine aAg 67 68 t.size k hkl (by omega) ?_
  refine jL (.binOp .sub 3 (.tmp 69) (.const (.int .i64 1)) 3) (.tmp 69) (.const (.int .i64 1)) (rI ((t.size-k:Nat):Int)) (.fv (.sc (.lit (.int .i64 1)))) (rI (((t.size-k:Nat):Int)-1)) (fun ρ o β w ho hx hy=>⟨_,tV ho (bB hx) (cD hy) (by omega),cU⟩) ?_
  by_cases l2:600<t.size-k-1
  ·rw [if_pos (.inr l2)] at hz
   subst hz
   refine kA 70 600 (((t.size-k:Nat):Int)-1) true (by rw [decide_eq_true_iff];omega) ?_
   exact fI Tryz.func48 (by kernel_rfl)
  refine kA 70 600 (((t.size-k:Nat):Int)-1) false (by rw [decide_eq_false_iff_not];omega) ?_
  rw [if_neg (by rintro (h|h) <;> omega)] at hz
  refine dU 74 9 Tryz.underlying9 t ?_
  refine xA 73 75 (k:Int) (t.size:Nat) true fl ?_
  have hae:=iS c1
  have hde:=iS d1
  generalize aU (aC a)=n at hae hz
  generalize aU (aC d)=m at hde hz
  have hp:=partsT (t:=t) (by omega) hk hlt (ha.trans hae) (hd.trans hde) (by rw [← hae];omega) (by rw [← hde];omega)
  have hm0:0<m:=Nat.pos_of_ne_zero fun e=>d0 (by rw [hde,e,dec0];rfl)
  have hg0:0<Nat.gcd n m:=Nat.gcd_pos_of_pos_right _ hm0
  have hg:=lS (a:=n) (b:=m) (gE (oE (n:=n) (k:=600) (by rw [← hae];omega)) (by omega)) (gE (oE (n:=m) (k:=600) (by rw [← hde];omega)) (by omega))
  obtain ⟨g,hgg⟩:∃ g,Nat.gcd n m=g:=⟨_,rfl⟩
  rw [hgg] at hg hg0
  simp only [hgg] at hz
  refine jB 115 [rS t] hp ?_
  refine jB 116 [di n,di m] hg ?_
  rcases Nat.lt_or_ge g B9 with gb|gb
  ·refine jL (.call ⟨.builtin .len,#[.tmp 87],#[154]⟩) (.tmp 87) (.tmp 87) (di g) (di g) (.fv (.sc (.lit (.int .i64 1)))) (fun ρ o β w ho hx _=>?_) ?_
   ·obtain ⟨ad,c,e,_⟩:=jV (bC.1 hx) hg0 gb
    exact ⟨_,mC ho e,fE rfl⟩
   refine jL (.indexAddr 154 (.tmp 91) (.const (.int .i64 0))) (.tmp 91) (.const (.int .i64 0)) (di g) (.fv (.sc (.lit (.int .i64 0)))) (rP g) (fun ρ o β w ho hx hy=>?_) ?_
   ·obtain ⟨ad,c,e,hc⟩:=jV (bC.1 hx) hg0 gb
    exact ⟨_,nC ho e (cD hy) (by omega),⟨ad,rfl,hc⟩⟩
   refine jL (.load 3 (.tmp 92)) (.tmp 92) (.tmp 92) (rP g) (rP g) (rI (g:Int)) (fun ρ o β w ho hx _=>?_) ?_
   ·obtain ⟨ad,e,hc⟩:=hx
    injection e with e
    exact ⟨_,vF ho e hc,cU⟩
   have hne:(((g:Int) != 1) = !decide (g=1)):=by rw [Bool.eq_iff_iff];simp;omega
   by_cases g1:g=1
   ·rw [if_neg (by rintro ⟨_,h⟩;exact h g1)] at hz
    subst hz
    refine jL (.binOp .neq 3 (.tmp 93) (.const (.int .i64 1)) 3) (.tmp 93) (.const (.int .i64 1)) (rI (g:Int)) (.fv (.sc (.lit (.int .i64 1)))) (rl false) (fun ρ o β w ho hx hy=>⟨.bool false,qN ho (bB hx) (cD hy) (by rw [hne];simp [g1]),fE rfl⟩) ?_
    exact fI Tryz.func48 (by kernel_rfl)
   ·rw [if_pos ⟨hlt,g1⟩] at hz
    subst hz
    refine jL (.binOp .neq 3 (.tmp 93) (.const (.int .i64 1)) 3) (.tmp 93) (.const (.int .i64 1)) (rI (g:Int)) (.fv (.sc (.lit (.int .i64 1)))) (rl true) (fun ρ o β w ho hx hy=>⟨.bool true,qN ho (bB hx) (cD hy) (by rw [hne];simp [g1]),fE rfl⟩) ?_
    exact fI Tryz.func48 (by kernel_rfl)
  ·rw [if_pos ⟨hlt,by have:=dV;omega⟩] at hz
   subst hz
   refine jL (.call ⟨.builtin .len,#[.tmp 87],#[154]⟩) (.tmp 87) (.tmp 87) (di g) (di g) rNe (fun ρ o β w ho hx _=>?_) ?_
   ·obtain ⟨A,m,c,e,hm⟩:=xP (bC.1 hx) gb
    exact ⟨_,mC ho e,⟨(m:Int),rfl,by omega⟩⟩
   refine jL (.binOp .neq 3 (.tmp 88) (.const (.int .i64 1)) 3) (.tmp 88) (.const (.int .i64 1)) rNe (.fv (.sc (.lit (.int .i64 1)))) (rl true) (fun ρ o β w ho hx hy=>?_) ?_
   ·obtain ⟨x,e,hm⟩:=hx
    injection e with e
    exact ⟨.bool true,qN ho e (cD hy) (by simpa using hm),fE rfl⟩
   exact fI Tryz.func48 (by kernel_rfl)
 ·have fl:decide ((k:Int)<(t.size:Nat))=false:=by rw [decide_eq_false_iff_not];omega
  refine xA 37 39 (k:Int) (t.size:Nat) false fl ?_
  rw [if_neg (fun h=>hlt h.1)] at hz
  by_cases l1:600<k
  ·rw [if_pos (.inl l1)] at hz
   subst hz
   refine kA 63 600 (k:Int) true (by rw [decide_eq_true_iff];omega) ?_
   exact fI Tryz.func48 (by kernel_rfl)
  rw [if_neg (by rintro (h|h) <;> omega),if_neg (fun h=>hlt h.1)] at hz
  subst hz
  refine kA 63 600 (k:Int) false (by rw [decide_eq_false_iff_not];omega) ?_
  refine dU 66 9 Tryz.underlying9 t ?_
  refine aAg 67 68 t.size k hkl (by omega) ?_
  refine jL (.binOp .sub 3 (.tmp 69) (.const (.int .i64 1)) 3) (.tmp 69) (.const (.int .i64 1)) (rI ((t.size-k:Nat):Int)) (.fv (.sc (.lit (.int .i64 1)))) (rI (((t.size-k:Nat):Int)-1)) (fun ρ o β w ho hx hy=>⟨_,tV ho (bB hx) (cD hy) (by omega),cU⟩) ?_
  refine kA 70 600 (((t.size-k:Nat):Int)-1) false (by rw [decide_eq_false_iff_not];omega) ?_
  refine dU 74 9 Tryz.underlying9 t ?_
  refine xA 73 75 (k:Int) (t.size:Nat) false fl ?_
  exact fI Tryz.func48 (by kernel_rfl)
theorem check_pos {s:ByteArray} {z:Int} (hs:s.size≤9223372036854775807) (hne:0<s.size) (hn:iJ s=false) (hz:bM s=z):jF 48 [rS s] (rI z):=by
 obtain ⟨c,hc,hc45⟩:=pos_head hne hn
 have hsp:bG s=s:=if_neg (by rw [hn];exact Bool.false_ne_true)
 unfold bM at hz
 rw [hn,hsp] at hz
 have hts:=hs
 have hsl:=fG (s:=s) (by omega)
 have hkl:=cJ s
 have hks:aJ s=aJ s:=rfl
 generalize hk:aJ s=k at hsl hkl hks hz
 obtain ⟨a,ha⟩:∃ a,s.extract 0 k=a:=⟨_,rfl⟩
 obtain ⟨d,hd⟩:∃ d,s.extract (k+1) s.size=d:=⟨_,rfl⟩
 have hasz:a.size=k:=by rw [← ha,ByteArray.size_extract];omega
 have hdsz:d.size=s.size-(k+1):=by rw [← hd,ByteArray.size_extract];omega
 rw [ha,hd] at hz
 have fa:=pW (s:=a) (by omega)
 have fd:=pW (s:=d) (by omega)
 refine jT Tryz.func48 fun w00=>?_
 refine dU 9 9 Tryz.underlying9 s ?_
 refine kA 10 0 (s.size:Nat) true (by rw [decide_eq_true_iff];omega) ?_
 refine ridp 13 s c hc ?_
 refine rueq 14 c hc45 ?_
 refine jB 113 [rS s] hsl ?_
 refine rshi 21 22 9 Tryz.underlying9 s k a hkl ha ?_
 by_cases c1:decF a=false
 ·rw [if_pos (.inl c1)] at hz
  subst hz
  rw [c1] at fa
  refine jB 114 [rS a] fa ?_
  exact fI Tryz.func48 (by kernel_rfl)
 rw [Bool.not_eq_false] at c1
 rw [c1] at fa
 refine jB 114 [rS a] fa ?_
 refine ridpR 27 s c hc ?_
 refine rueq 28 c hc45 ?_
 rw [if_neg (by rintro (h|h);exact absurd (h.symm.trans c1) (by decide);exact absurd h.1 (by decide))] at hz
 refine dU 38 9 Tryz.underlying9 s ?_
 by_cases hlt:k<s.size
 ·have fl:decide ((k:Int)<(s.size:Nat))=true:=by rw [decide_eq_true_iff];omega
  refine xA 37 39 (k:Int) (s.size:Nat) true fl ?_
  refine radd 43 k (by omega) ?_
  refine rslo 42 44 9 Tryz.underlying9 s (k+1) d (by omega) hd ?_
  by_cases d1:decF d=false
  ·rw [if_pos ⟨hlt,.inl d1⟩] at hz
   subst hz
   rw [d1] at fd
   refine jB 114 [rS d] fd ?_
   exact fI Tryz.func48 (by kernel_rfl)
  rw [Bool.not_eq_false] at d1
  rw [d1] at fd
  refine jB 114 [rS d] fd ?_
  refine radd 50 k (by omega) ?_
  refine rslo 49 51 9 Tryz.underlying9 s (k+1) d (by omega) hd ?_
  by_cases d0:d=zeroT
  ·rw [if_pos ⟨hlt,.inr (.inl d0)⟩] at hz
   subst hz
   refine vI 52 9 d ⟨#[48]⟩ true (by rw [d0];exact beq_self_eq_true zeroT.toList) ?_
   exact fI Tryz.func48 (by kernel_rfl)
  refine vI 52 9 d ⟨#[48]⟩ false (dY d0) ?_
  refine radd 57 k (by omega) ?_
  refine rslo 56 58 9 Tryz.underlying9 s (k+1) d (by omega) hd ?_
  by_cases d2:d=oneT
  ·rw [if_pos ⟨hlt,.inr (.inr d2)⟩] at hz
   subst hz
   refine vI 59 9 d ⟨#[49]⟩ true (by rw [d2];exact beq_self_eq_true oneT.toList) ?_
   exact fI Tryz.func48 (by kernel_rfl)
  refine vI 59 9 d ⟨#[49]⟩ false (dY d2) ?_
  rw [if_neg (by rintro ⟨_,h|h|h⟩;exact absurd (h.symm.trans d1) (by decide);exact d0 h;exact d2 h)] at hz
  by_cases l1:600<k
  ·rw [if_pos (.inl l1)] at hz
   subst hz
   refine kA 63 600 (k:Int) true (by rw [decide_eq_true_iff];omega) ?_
   exact fI Tryz.func48 (by kernel_rfl)
  refine kA 63 600 (k:Int) false (by rw [decide_eq_false_iff_not];omega) ?_
  refine dU 66 9 Tryz.underlying9 s ?_
  refine aAg 67 68 s.size k hkl (by omega) ?_
  refine jL (.binOp .sub 3 (.tmp 69) (.const (.int .i64 1)) 3) (.tmp 69) (.const (.int .i64 1)) (rI ((s.size-k:Nat):Int)) (.fv (.sc (.lit (.int .i64 1)))) (rI (((s.size-k:Nat):Int)-1)) (fun ρ o β w ho hx hy=>⟨_,tV ho (bB hx) (cD hy) (by omega),cU⟩) ?_
  by_cases l2:600<s.size-k-1
  ·rw [if_pos (.inr l2)] at hz
   subst hz
   refine kA 70 600 (((s.size-k:Nat):Int)-1) true (by rw [decide_eq_true_iff];omega) ?_
   exact fI Tryz.func48 (by kernel_rfl)
  refine kA 70 600 (((s.size-k:Nat):Int)-1) false (by rw [decide_eq_false_iff_not];omega) ?_
  rw [if_neg (by rintro (h|h) <;> omega)] at hz
  refine dU 74 9 Tryz.underlying9 s ?_
  refine xA 73 75 (k:Int) (s.size:Nat) true fl ?_
  have hae:=iS c1
  have hde:=iS d1
  generalize aU (aC a)=n at hae hz
  generalize aU (aC d)=m at hde hz
  have hp:=partsT (t:=s) (by omega) hk hlt (ha.trans hae) (hd.trans hde) (by rw [← hae];omega) (by rw [← hde];omega)
  have hm0:0<m:=Nat.pos_of_ne_zero fun e=>d0 (by rw [hde,e,dec0];rfl)
  have hg0:0<Nat.gcd n m:=Nat.gcd_pos_of_pos_right _ hm0
  have hg:=lS (a:=n) (b:=m) (gE (oE (n:=n) (k:=600) (by rw [← hae];omega)) (by omega)) (gE (oE (n:=m) (k:=600) (by rw [← hde];omega)) (by omega))
  obtain ⟨g,hgg⟩:∃ g,Nat.gcd n m=g:=⟨_,rfl⟩
  rw [hgg] at hg hg0
  simp only [hgg] at hz
  refine jB 115 [rS s] hp ?_
  refine jB 116 [di n,di m] hg ?_
  rcases Nat.lt_or_ge g B9 with gb|gb
  ·refine jL (.call ⟨.builtin .len,#[.tmp 87],#[154]⟩) (.tmp 87) (.tmp 87) (di g) (di g) (.fv (.sc (.lit (.int .i64 1)))) (fun ρ o β w ho hx _=>?_) ?_
   ·obtain ⟨ad,c,e,_⟩:=jV (bC.1 hx) hg0 gb
    exact ⟨_,mC ho e,fE rfl⟩
   refine jL (.indexAddr 154 (.tmp 91) (.const (.int .i64 0))) (.tmp 91) (.const (.int .i64 0)) (di g) (.fv (.sc (.lit (.int .i64 0)))) (rP g) (fun ρ o β w ho hx hy=>?_) ?_
   ·obtain ⟨ad,c,e,hc⟩:=jV (bC.1 hx) hg0 gb
    exact ⟨_,nC ho e (cD hy) (by omega),⟨ad,rfl,hc⟩⟩
   refine jL (.load 3 (.tmp 92)) (.tmp 92) (.tmp 92) (rP g) (rP g) (rI (g:Int)) (fun ρ o β w ho hx _=>?_) ?_
   ·obtain ⟨ad,e,hc⟩:=hx
    injection e with e
    exact ⟨_,vF ho e hc,cU⟩
   have hne:(((g:Int) != 1) = !decide (g=1)):=by rw [Bool.eq_iff_iff];simp;omega
   by_cases g1:g=1
   ·rw [if_neg (by rintro ⟨_,h⟩;exact h g1)] at hz
    subst hz
    refine jL (.binOp .neq 3 (.tmp 93) (.const (.int .i64 1)) 3) (.tmp 93) (.const (.int .i64 1)) (rI (g:Int)) (.fv (.sc (.lit (.int .i64 1)))) (rl false) (fun ρ o β w ho hx hy=>⟨.bool false,qN ho (bB hx) (cD hy) (by rw [hne];simp [g1]),fE rfl⟩) ?_
    exact fI Tryz.func48 (by kernel_rfl)
   ·rw [if_pos ⟨hlt,g1⟩] at hz
    subst hz
    refine jL (.binOp .neq 3 (.tmp 93) (.const (.int .i64 1)) 3) (.tmp 93) (.const (.int .i64 1)) (rI (g:Int)) (.fv (.sc (.lit (.int .i64 1)))) (rl true) (fun ρ o β w ho hx hy=>⟨.bool true,qN ho (bB hx) (cD hy) (by rw [hne];simp [g1]),fE rfl⟩) ?_
    exact fI Tryz.func48 (by kernel_rfl)
  ·rw [if_pos ⟨hlt,by have:=dV;omega⟩] at hz
   subst hz
   refine jL (.call ⟨.builtin .len,#[.tmp 87],#[154]⟩) (.tmp 87) (.tmp 87) (di g) (di g) rNe (fun ρ o β w ho hx _=>?_) ?_
   ·obtain ⟨A,m,c,e,hm⟩:=xP (bC.1 hx) gb
    exact ⟨_,mC ho e,⟨(m:Int),rfl,by omega⟩⟩
   refine jL (.binOp .neq 3 (.tmp 88) (.const (.int .i64 1)) 3) (.tmp 88) (.const (.int .i64 1)) rNe (.fv (.sc (.lit (.int .i64 1)))) (rl true) (fun ρ o β w ho hx hy=>?_) ?_
   ·obtain ⟨x,e,hm⟩:=hx
    injection e with e
    exact ⟨.bool true,qN ho e (cD hy) (by simpa using hm),fE rfl⟩
   exact fI Tryz.func48 (by kernel_rfl)
 ·have fl:decide ((k:Int)<(s.size:Nat))=false:=by rw [decide_eq_false_iff_not];omega
  refine xA 37 39 (k:Int) (s.size:Nat) false fl ?_
  rw [if_neg (fun h=>hlt h.1)] at hz
  by_cases l1:600<k
  ·rw [if_pos (.inl l1)] at hz
   subst hz
   refine kA 63 600 (k:Int) true (by rw [decide_eq_true_iff];omega) ?_
   exact fI Tryz.func48 (by kernel_rfl)
  rw [if_neg (by rintro (h|h) <;> omega),if_neg (fun h=>hlt h.1)] at hz
  subst hz
  refine kA 63 600 (k:Int) false (by rw [decide_eq_false_iff_not];omega) ?_
  refine dU 66 9 Tryz.underlying9 s ?_
  refine aAg 67 68 s.size k hkl (by omega) ?_
  refine jL (.binOp .sub 3 (.tmp 69) (.const (.int .i64 1)) 3) (.tmp 69) (.const (.int .i64 1)) (rI ((s.size-k:Nat):Int)) (.fv (.sc (.lit (.int .i64 1)))) (rI (((s.size-k:Nat):Int)-1)) (fun ρ o β w ho hx hy=>⟨_,tV ho (bB hx) (cD hy) (by omega),cU⟩) ?_
  refine kA 70 600 (((s.size-k:Nat):Int)-1) false (by rw [decide_eq_false_iff_not];omega) ?_
  refine dU 74 9 Tryz.underlying9 s ?_
  refine xA 73 75 (k:Int) (s.size:Nat) false fl ?_
  exact fI Tryz.func48 (by kernel_rfl)
theorem checkAnyF {s:ByteArray} (hs:s.size≤9223372036854775807):jF 48 [rS s] (rI (bM s)):=by
 rcases Nat.eq_zero_or_pos s.size with h0|h0
 ·have hbs:aC s = []:=List.eq_nil_of_length_eq_zero (by rw [aE];exact h0)
  have hn:iJ s=false:=by unfold iJ;rw [hbs];rfl
  have hst:bG s=s:=if_neg (by rw [hn];exact Bool.false_ne_true)
  have hsl:aJ s=0:=by unfold aJ;rw [hbs];rfl
  have hd:decF (s.extract 0 0)=false:=by unfold decF;rw [if_pos (by rw [ByteArray.size_extract];omega)]
  have e:bM s=1:=by unfold bM;rw [hst,hsl,if_pos (.inl hd)]
  rw [e]
  have h1:=fG (s:=s) (by omega)
  rw [hsl] at h1
  have h2:=pW (s:=s.extract 0 0) (by rw [ByteArray.size_extract];omega)
  rw [hd] at h2
  exact nD (check_empty (by rw [decide_eq_false_iff_not];omega) h1 rfl h2) lit_I
 ·cases e:iJ s with
  | true=>exact check_neg hs h0 e rfl
  | false=>exact check_pos hs h0 e rfl
end Ab
namespace Ab
open Go.RowKit Pl
theorem isS_lit {β:List Nat} {cs:List Value} {w:World} {b:ByteArray}:(bK b).holds β cs w↔(Seg.lit (.string b):Seg Kn).holds β cs w:=⟨fun h=>⟨h,rfl⟩,fun h=>h.1⟩
inductive LitL:List (Seg Kn)→List (Seg Kn)→Prop where
 | nil:LitL [] []
 | txt {b:ByteArray} {l m}:LitL l m→LitL (bK b::l) (.lit (.string b)::m)
 | same {s:Seg Kn} {l m}:LitL l m→LitL (s::l) (s::m)
theorem LitL.to {β:List Nat} {w:World} {l m:List (Seg Kn)} (h:LitL l m):∀ {cs:List Value},holdsL β l cs w↔holdsL β m cs w:=by
 induction h with
 | nil=>intro cs;exact Iff.rfl
 | txt _ ih =>
   intro cs
   constructor
   ·rintro ⟨a,b,e,h1,h2⟩;exact ⟨a,b,e,isS_lit.1 h1,ih.1 h2⟩
   ·rintro ⟨a,b,e,h1,h2⟩;exact ⟨a,b,e,isS_lit.2 h1,ih.2 h2⟩
 | same _ ih =>
   intro cs
   constructor
   ·rintro ⟨a,b,e,h1,h2⟩;exact ⟨a,b,e,h1,ih.1 h2⟩
   ·rintro ⟨a,b,e,h1,h2⟩;exact ⟨a,b,e,h1,ih.2 h2⟩
theorem ag_lit {β:List Nat} {v:Value} {w:World} {l m:List (Seg Kn)} (h:LitL l m):(AV.fv (.ag l)).holds β v w↔(AV.fv (.ag m)).holds β v w:=by
 constructor
 ·rintro ⟨cs,e,k⟩;exact ⟨cs,e,h.to.1 k⟩
 ·rintro ⟨cs,e,k⟩;exact ⟨cs,e,h.to.2 k⟩
theorem sc_lit {β:List Nat} {v:Value} {w:World} {b:ByteArray}:(AV.fv (.sc (bK b)):AV Kn).holds β v w↔(AV.fv (.sc (.lit (.string b))):AV Kn).holds β v w:=isS_lit (β:=β) (cs := [v])
theorem FitsW.args {P:Program} {I:World→Prop} {f:FuncId} {l l' : List (AV Kn)} {x:AV Kn} (h:FitsW P I f l x) (hl:∀ β vs w,holdsA β l' vs w→holdsA β l vs w):FitsW P I f l' x:=fun β w vs hI hv=>h β w vs hI (hl β vs w hv)
theorem FitsW.res {P:Program} {I:World→Prop} {f:FuncId} {l:List (AV Kn)} {x y:AV Kn} (h:FitsW P I f l x) (hx:∀ β v w,x.holds β v w→y.holds β v w):FitsW P I f l y:=fun β w vs hI hv =>
 (h β w vs hI hv).mono fun e w' ⟨v,e1,e2,e3⟩=>⟨v,e1,e2,hx β v w' e3⟩
theorem dec_two {n:Nat} (h1:10≤n) (h2:n<100):Lib.decDigits n = [UInt8.ofNat (48+n/10),UInt8.ofNat (48+n%10)]:=by
 rw [eS (by omega),cW (by omega)]
 rfl
theorem bO {n:Nat} (h:n<10):decB n=⟨#[UInt8.ofNat (48+n)]⟩:=by unfold decB;rw [cW h]
theorem nH {n:Nat} (h1:10≤n) (h2:n<100):decB n=⟨#[UInt8.ofNat (48+n/10),UInt8.ofNat (48+n%10)]⟩:=by unfold decB;rw [dec_two h1 h2]
theorem dE {z:Int} {b:ByteArray} (hz:¬ z<0) (h:decB z.natAbs=b):writeB (z:Rat)=b:=by
 rw [← dH,aQ,if_neg hz,h]
theorem fT {z:Int} {b:ByteArray} (hz:z<0) (h:decB z.natAbs=b):writeB (z:Rat)=⟨#[45]⟩++b:=by
 rw [← dH,aQ,if_pos hz,h]
theorem w0:writeB ((0:Int):Rat)=⟨#[48]⟩:=dE (by omega) (bO (n:=0) (by omega))
theorem w1:writeB ((1:Int):Rat)=⟨#[49]⟩:=dE (by omega) (bO (n:=1) (by omega))
theorem lW (q:Rat):aJ (writeB q)=(aQ q.num).size:=by
 by_cases h:q.den=1
 ·rw [kU h,vG]
 ·rw [fH h,vH]
theorem num_cut (q:Rat):(writeB q).extract 0 (aJ (writeB q))=aQ q.num:=by
 rw [lW]
 by_cases h:q.den=1
 ·rw [kU h,xQ]
 ·rw [fH h,ext_lo]
theorem den_cut {q:Rat} (h:q.den≠1):(writeB q).extract (aJ (writeB q)+1) (writeB q).size=decB q.den:=by
 rw [lW,fH h]
 exact ext_hi _ _
theorem kV (q:Rat):(writeB q).size=(aQ q.num).size+if q.den=1 then 0 else 1+(decB q.den).size:=by
 by_cases h:q.den=1
 ·rw [kU h,if_pos h];rfl
 ·rw [fH h,if_neg h,ByteArray.size_append,ByteArray.size_append,size47]
theorem numF {q:Rat} (hs:(writeB q).size≤1000000000):jF 258 [rS (writeB q)] (rS (aQ q.num)):=by
 have hc:=num_cut q
 generalize writeB q=s at *
 refine jT Tryz.func258 fun w00=>?_
 refine jB 113 [rS s] (fG (by omega)) ?_
 refine rshi 3 5 22 Tryz.underlying22 s (aJ s) (aQ q.num) (cJ _) hc ?_
 exact jS Tryz.func258
theorem denF1 {q:Rat} (hs:(writeB q).size≤1000000000) (h:q.den=1):jF 259 [rS (writeB q)] (rS (decB q.den)):=by
 have hl:=kV q
 have hk:=lW q
 rw [if_pos h] at hl
 have e:decB q.den=⟨#[49]⟩:=by rw [h,dec1]
 rw [e]
 generalize writeB q=s at *
 have key:jF 259 [rS s] (.fv (.sc (.lit (.string ⟨#[49]⟩)))):=by
  refine jT Tryz.func259 fun w00=>?_
  refine jB 113 [rS s] (fG (by omega)) ?_
  refine dU 7 22 Tryz.underlying22 s ?_
  refine jL (.binOp .eql 3 (.tmp 6) (.tmp 8) 3) (.tmp 6) (.tmp 8) (rI (aJ s:Nat)) (rI (s.size:Nat)) (rl true) (fun ρ o β w ho hx hy=>⟨.bool true,iR ho (bB hx) (bB hy) (by simp;omega),fE rfl⟩) ?_
  exact jS Tryz.func259
 exact nD key fun β v w h=>h.1
theorem denF2 {q:Rat} (hs:(writeB q).size≤1000000000) (h:q.den≠1):jF 259 [rS (writeB q)] (rS (decB q.den)):=by
 have hl:=kV q
 have hk:=lW q
 rw [if_neg h] at hl
 have hc:=den_cut h
 generalize decB q.den=d at *
 generalize writeB q=s at *
 refine jT Tryz.func259 fun w00=>?_
 refine jB 113 [rS s] (fG (by omega)) ?_
 refine dU 7 22 Tryz.underlying22 s ?_
 refine jL (.binOp .eql 3 (.tmp 6) (.tmp 8) 3) (.tmp 6) (.tmp 8) (rI (aJ s:Nat)) (rI (s.size:Nat)) (rl false) (fun ρ o β w ho hx hy=>⟨.bool false,iR ho (bB hx) (bB hy) (by simp;omega),fE rfl⟩) ?_
 refine radd 11 (aJ s) (by omega) ?_
 refine rslo 10 12 22 Tryz.underlying22 s (aJ s+1) d (by omega) hc ?_
 exact jS Tryz.func259
theorem denOfF {q:Rat} (hs:(writeB q).size≤1000000000):jF 259 [rS (writeB q)] (rS (decB q.den)):=by
 by_cases h:q.den=1
 ·exact denF1 hs h
 ·exact denF2 hs h
theorem dec0_ne {n:Nat} (h:n≠0):decB n≠zeroT:=fun e=>h (nG (e.trans dec0.symm))
theorem body_ne_zero {q:Rat} (h:q.num≠0):bA q≠zeroT:=by
 by_cases hd:q.den=1
 ·rw [nE hd,cK]
  exact dec0_ne (by omega)
 ·intro e
  have hl:=pU q
  rw [if_neg hd,e] at hl
  have:zeroT.size=1:=rfl
  have:=tN q.num.natAbs
  omega
theorem mD {q:Rat} (h:q.num≠0):writeB q≠zeroT:=by
 by_cases hn:q.num<0
 ·obtain ⟨f1,⟨h0,hc⟩,f3,f4,f5⟩:=iI hn
  intro e
  have h1:=(gF q).1
  rw [e,decide_eq_true hn] at h1
  exact absurd h1 (by decide)
 ·rw [eD hn]
  exact body_ne_zero h
theorem signF0 {q:Rat} (h:q.num=0):jF 66 [rS (writeB q)] (.fv (.sc (.lit (.int .i64 0)))):=by
 have e:((writeB q).toList==(⟨#[48]⟩:ByteArray).toList)=true:=by
  have hd:q.den=1:=by have:=q.reduced;rw [h] at this;simpa using this
  rw [kU hd,h]
  have:aQ 0=zeroT:=by unfold aQ;rw [if_neg (by omega)];exact dec0
  rw [this]
  exact beq_self_eq_true zeroT.toList
 generalize writeB q=s at *
 refine jT Tryz.func66 fun w00=>?_
 refine vI 3 22 s ⟨#[48]⟩ true e ?_
 exact jS Tryz.func66
theorem signFn {q:Rat} (h:q.num<0):jF 66 [rS (writeB q)] (.fv (.sc (.lit (.int .i64 (-1))))):=by
 have e:=dY (mD (q:=q) (by omega))
 obtain ⟨f1,hc,f3,f4,f5⟩:=iI h
 have h0:decide ((0:Int)<((writeB q).size:Nat))=true:=by rw [decide_eq_true_iff];omega
 generalize writeB q=s at *
 refine jT Tryz.func66 fun w00=>?_
 refine vI 3 22 s ⟨#[48]⟩ false e ?_
 refine dU 5 22 Tryz.underlying22 s ?_
 refine kA 6 0 (s.size:Nat) true h0 ?_
 refine ridnR 9 s hc ?_
 exact jS Tryz.func66
theorem signFp {q:Rat} (h:0<q.num):jF 66 [rS (writeB q)] (.fv (.sc (.lit (.int .i64 1)))):=by
 have e:=dY (mD (q:=q) (by omega))
 obtain ⟨c,hc,hc45⟩:=vJ q
 rw [← eD (by omega)] at hc
 have h0:decide ((0:Int)<((writeB q).size:Nat))=true:=by rw [decide_eq_true_iff];have:=hc.1;omega
 generalize writeB q=s at *
 refine jT Tryz.func66 fun w00=>?_
 refine vI 3 22 s ⟨#[48]⟩ false e ?_
 refine dU 5 22 Tryz.underlying22 s ?_
 refine kA 6 0 (s.size:Nat) true h0 ?_
 refine ridpR 9 s c hc ?_
 refine rueq 10 c hc45 ?_
 exact jS Tryz.func66
theorem absFn {q:Rat} (h:q.num<0) (hs:(writeB q).size≤1000000000):jF 257 [rS (writeB q)] (rS (bA q)):=by
 have hg:=signFn h
 obtain ⟨f1,hc,f3,f4,f5⟩:=iI h
 generalize bA q=u at *
 generalize writeB q=s at *
 refine jT Tryz.func257 fun w00=>?_
 refine jB 66 [rS s] hg ?_
 refine rsl1 6 22 Tryz.underlying22 s u f1 f3 ?_
 exact jS Tryz.func257
theorem absFp {q:Rat} (h:¬ q.num<0):jF 257 [rS (writeB q)] (rS (bA q)):=by
 rw [← eD h]
 by_cases h0:q.num=0
 ·have hg:=signF0 h0
  generalize writeB q=s at *
  refine jT Tryz.func257 fun w00=>?_
  refine jB 66 [rS s] hg ?_
  exact jS Tryz.func257
 ·have hg:=signFp (q:=q) (by omega)
  generalize writeB q=s at *
  refine jT Tryz.func257 fun w00=>?_
  refine jB 66 [rS s] hg ?_
  exact jS Tryz.func257
theorem absOfF {q:Rat} (hs:(writeB q).size≤1000000000):jF 257 [rS (writeB q)] (rS (bA q)):=by
 by_cases h:q.num<0
 ·exact absFn h hs
 ·exact absFp h
theorem absTF {z:Int} (hs:(aQ z).size≤1000000000):jF 257 [rS (aQ z)] (rS (decB z.natAbs)):=by
 have h:=absOfF (q:=(z:Rat)) (by rw [← dH];exact hs)
 have e:bA (z:Rat)=decB z.natAbs:=by rw [nE rfl,cK];rfl
 rw [← dH,e] at h
 exact h
def Fw (k:Nat) (q:Rat):Prop:=(decB q.num.natAbs).size≤k∧(decB q.den).size≤k
theorem tW (z:Int):(aQ z).size≤(decB z.natAbs).size+1:=by
 unfold aQ
 split
 ·rw [ByteArray.size_append,size45];omega
 ·omega
theorem kn_I {f:FuncId} {s:ByteArray} {z:Int} (h:jF f [rS s] (rI z)):jF f [tx s] (.fv (.sc (gY z))):=by
 intro β w vs hv
 obtain ⟨v,rfl,h1⟩:=dF hv
 rw [aP h1]
 exact (h β w [.string s] ⟨_,_,rfl,cU,rfl⟩).mono fun e w' ⟨v,e1,e2,e3⟩=>⟨v,e1,e2,by rw [bB e3];exact bF⟩
theorem jA {f:FuncId} {s t u:ByteArray} (h:jF f [rS s,rS t] (rS u)):jF f [tx s,tx t] (tx u):=by
 intro β w vs hv
 obtain ⟨v,v2,rfl,h1,h2⟩:=eB hv
 rw [aP h1,aP h2]
 exact (h β w [.string s,.string t] ⟨_,_,rfl,cU,_,_,rfl,cU,rfl⟩).mono fun e w' ⟨v,e1,e2,e3⟩=>⟨v,e1,e2,by rw [bB e3];exact bF⟩
abbrev t3 (a b c:ByteArray):AV Kn := .fv (.ag [bK a,bK b,bK c])
theorem chkF {q:Rat} (h1:(decB q.num.natAbs).size≤600) (h2:(decB q.den).size≤600):jF 48 [tx (writeB q)] (it 0):=by
 have hw:=kV q
 have ht:=tW q.num
 have h:=kn_I (checkAnyF (s:=writeB q) (by split at hw <;> omega))
 rw [wO h1 h2] at h
 intro β w vs hv
 exact (h β w vs hv).mono fun e w' ⟨v,e1,e2,e3⟩=>⟨v,e1,e2,by rw [aP e3];exact aY rfl⟩
section
variable {a b c:ByteArray} {n:Int}
theorem checkRow3 {T:TypeId} (h1:jF 48 [tx a] (it 0)) (h2:jF 48 [tx b] (it 0)) (h3:jF 48 [tx c] (it 0)):jF 9 [.fv (.nsl 3 T [bK a,bK b,bK c])] (it 0):=by
 refine lA Tryz.func9 (by kernel_rfl) fun w00=>?_
 refine jC 48 [tx a] (h1) ?_
 refine jC 48 [tx b] (h2) ?_
 refine jC 48 [tx c] (h3) ?_
 exact jR Tryz.func9
theorem checkVec3 (h1:jF 48 [tx a] (it 0)) (h2:jF 48 [tx b] (it 0)) (h3:jF 48 [tx c] (it 0)):jF 60 [t3 a b c] (it 0):=by
 refine jG Tryz.func60 fun w00=>?_
 refine jC 9 [.fv (.nsl 3 22 [bK a,bK b,bK c])] (checkRow3 h1 h2 h3) ?_
 exact jR Tryz.func60
end
theorem originF:jF 52 ([]:List (AV Kn)) (.fv (.ag [.lit (.string ⟨#[48]⟩),.lit (.string ⟨#[48]⟩),.lit (.string ⟨#[48]⟩)])):=by
 refine jG Tryz.func52 fun w00=>?_
 exact jR Tryz.func52
section
variable {a b c d e f:ByteArray} {x y z:ByteArray}
theorem addVecR (h1:jF 49 [tx a,tx d] (tx x)) (h2:jF 49 [tx b,tx e] (tx y)) (h3:jF 49 [tx c,tx f] (tx z)):jF 53 [t3 a b c,t3 d e f] (t3 x y z):=by
 refine jG Tryz.func53 fun w00=>?_
 refine jC 49 [tx a,tx d] (h1) ?_
 refine jC 49 [tx b,tx e] (h2) ?_
 refine jC 49 [tx c,tx f] (h3) ?_
 exact jR Tryz.func53
end
theorem wP (q:Rat):bA (-q)=bA q:=by
 unfold bA
 rw [Rat.neg_den,Rat.neg_num,Int.natAbs_neg]
theorem zs_len {k:Nat} {q:Rat} (h:Zs k q):(writeB q).size≤2*k+4:=by
 have h1:=tE h.1
 have h2:=tE h.2
 have:=kV q
 have:=tW q.num
 split at * <;> omega
theorem negR {q:Rat} (hs:(writeB q).size≤1000000000):jF 122 [rS (writeB q)] (rS (writeB (-q))):=by
 by_cases h:q.num<0
 ·rw [eD (q := -q) (by rw [Rat.neg_num];omega),wP]
  have hg:=signFn h
  obtain ⟨f1,hc,f3,f4,f5⟩:=iI h
  generalize bA q=u at *
  generalize writeB q=s at *
  refine jT Tryz.func122 fun w00=>?_
  refine jB 66 [rS s] hg ?_
  refine rsl1 6 22 Tryz.underlying22 s u f1 f3 ?_
  exact jS Tryz.func122
 ·by_cases h0:q.num=0
  ·have e:-q=q:=by
    have:q=0:=Rat.num_eq_zero.1 h0
    rw [this]
    rfl
   rw [e]
   have hg:=signF0 h0
   generalize writeB q=s at *
   refine jT Tryz.func122 fun w00=>?_
   refine jB 66 [rS s] hg ?_
   refine jB 66 [rS s] hg ?_
   exact jS Tryz.func122
  ·rw [mV (q := -q) (by rw [Rat.neg_num];omega),wP,← eD h]
   have hg:=signFp (q:=q) (by omega)
   have hcat:(⟨#[45]⟩:ByteArray).size+(writeB q).size≤9223372036854775807:=by rw [size45];omega
   generalize writeB q=s at *
   refine jT Tryz.func122 fun w00=>?_
   refine jB 66 [rS s] hg ?_
   refine jB 66 [rS s] hg ?_
   refine jL (.binOp .add 22 (.const (.string ⟨#[45]⟩)) (.tmp 12) 22) (.const (.string ⟨#[45]⟩)) (.tmp 12) (.fv (.sc (.lit (.string ⟨#[45]⟩)))) (rS s) (rS (⟨#[45]⟩++s)) (fun ρ o β w ho hx hy=>⟨_,eZ ho (cD hx) (bB hy) hcat,cU⟩) ?_
   exact jS Tryz.func122
theorem zs_neg {k:Nat} {q:Rat} (h:Zs k q):Zs k (-q):=by
 unfold Zs
 rw [Rat.neg_den,Rat.neg_num,Int.natAbs_neg]
 exact h
theorem subR {p q:Rat} (hp:Zs 10000 p) (hq:Zs 10000 q):jF 55 [rS (writeB p),rS (writeB q)] (rS (writeB (p-q))):=by
 have h1:=negR (q:=q) (by have:=zs_len hq;omega)
 have h2:=oG hp (zs_neg hq)
 rw [← Rat.sub_eq_add_neg] at h2
 generalize writeB (p-q)=x at *
 generalize writeB (-q)=y at *
 generalize writeB p=a at *
 generalize writeB q=b at *
 refine jT Tryz.func55 fun w00=>?_
 refine jB 122 [rS b] h1 ?_
 refine jB 49 [rS a,rS y] h2 ?_
 exact jS Tryz.func55
section
variable {a b c d e f:ByteArray} {x y z u v:ByteArray}
theorem subVecR (h1:jF 55 [tx a,tx d] (tx x)) (h2:jF 55 [tx b,tx e] (tx y)) (h3:jF 55 [tx c,tx f] (tx z)):jF 63 [t3 a b c,t3 d e f] (t3 x y z):=by
 refine jG Tryz.func63 fun w00=>?_
 refine jC 55 [tx a,tx d] (h1) ?_
 refine jC 55 [tx b,tx e] (h2) ?_
 refine jC 55 [tx c,tx f] (h3) ?_
 exact jR Tryz.func63
theorem dotR (h1:jF 50 [tx a,tx d] (tx x)) (h2:jF 50 [tx b,tx e] (tx y)) (h3:jF 49 [tx x,tx y] (tx u)) (h4:jF 50 [tx c,tx f] (tx z)) (h5:jF 49 [tx u,tx z] (tx v)):jF 57 [t3 a b c,t3 d e f] (tx v):=by
 refine jG Tryz.func57 fun w00=>?_
 refine jC 50 [tx a,tx d] (h1) ?_
 refine jC 50 [tx b,tx e] (h2) ?_
 refine jC 49 [tx x,tx y] (h3) ?_
 refine jC 50 [tx c,tx f] (h4) ?_
 refine jC 49 [tx u,tx z] (h5) ?_
 exact jR Tryz.func57
theorem squareR (h:jF 57 [t3 a b c,t3 a b c] (tx v)):jF 51 [t3 a b c] (tx v):=by
 refine jG Tryz.func51 fun w00=>?_
 refine jC 57 [t3 a b c,t3 a b c] (h) ?_
 exact jR Tryz.func51
end
end Ab
section
open Go.RowKit Pl
end
namespace Ab
open Go.RowKit Pl
theorem cutPrefixNo {s:ByteArray} (h:Lib.hasPrefix s.data.toList [45]=false):jF 70 [tx s,lt ⟨#[45]⟩] (.tup [.sc (bK s),.sc (.lit (.bool false))]):=by
 intro β w vs hv
 obtain ⟨v,u,rfl,h1,h2⟩:=eB hv
 rw [aP h1,aN h2]
 have es:(⟨(Lib.trimPrefix s.data.toList [45]).toArray⟩:ByteArray)=s:=ba_ext (by unfold Lib.trimPrefix;rw [h];simp)
 refine (Tryz.strings_CutPrefix s ⟨#[45]⟩ w).mono fun e w' ⟨e1,e2⟩=>⟨_,e1,by rw [e2];exact aB _ _,?_⟩
 rw [show (⟨#[45]⟩:ByteArray).data.toList = [45] from rfl,es,h]
 exact ⟨[.string s,.bool false],rfl,_,_,rfl,bF (β:=β),_,_,rfl,⟨rfl,rfl⟩,rfl⟩
theorem ascii_two:∀ (j:Nat) (b:UInt8),(⟨#[47,46]⟩:ByteArray).data.toList[j]?=some b→b.toNat<128:=by
 intro j b h
 have:=List.mem_of_getElem? h
 simp at this
 rcases this with rfl|rfl <;> decide
theorem indexAnyF {s:ByteArray} {k:Int} (hs:s.size<4294967281) (ha:∀ (j:Nat) (b:UInt8),s.data.toList[j]?=some b→b.toNat<128) (h:Lib.indexAny s.data.toList [47,46]=k):jF 128 [tx s,lt ⟨#[47,46]⟩] (.fv (.sc (gY k))):=by
 intro β w vs hv
 obtain ⟨v,u,rfl,h1,h2⟩:=eB hv
 rw [aP h1,aN h2]
 refine (Tryz.strings_IndexAny_laid s ⟨#[47,46]⟩ w hs (by decide) ha ascii_two).mono fun e w' ⟨e1,e2⟩=>⟨_,e1,e2,?_⟩
 rw [show (⟨#[47,46]⟩:ByteArray).data.toList = [47,46] from rfl,h]
 exact bF
theorem repeatF {c:Nat} {z:ByteArray} (h2:2≤c) (hc:c≤100000) (hz:(⟨(Lib.repeatL [48] c).toArray⟩:ByteArray)=z):jF 130 [lt ⟨#[48]⟩,.fv (.sc (gY c))] (tx z):=by
 intro β w vs hv
 obtain ⟨v,u,rfl,h1,h3⟩:=eB hv
 rw [aN h1,aP h3]
 have hsz:(⟨#[48]⟩:ByteArray).size=1:=rfl
 refine (Tryz.strings_Repeat_main ⟨#[48]⟩ c w h2 (by omega) (by rw [hsz];omega) (by rw [hsz];omega)).mono fun e w' ⟨e1,e2⟩=>⟨_,e1,e2,?_⟩
 rw [show (⟨#[48]⟩:ByteArray).data.toList = [48] from rfl,hz]
 exact bF
section
variable {s a b z:ByteArray} {k:Nat}
theorem partsDot (hi:jF 128 [tx s,lt ⟨#[47,46]⟩] (.fv (.sc (gY k)))) (hk:k<s.size) (hs:s.size≤10000) (ha:s.extract 0 k=a) (hb:s.extract (k+1) s.size=b) (da:AllDig (aC a)) (da0:0<a.size) (db:AllDig (aC b)) (db0:0<b.size)
 (hdot:s[k]?=some 46) (hr:jF 130 [lt ⟨#[48]⟩,.fv (.sc (gY b.size))] (tx z)) (hz:z.size≤10000):jF 71 [tx s] (.tup [.sc (bK (a++b)),.sc (bK (⟨#[49]⟩++z)),.sc z0]):=by
 have hasz:a.size≤s.size:=by rw [← ha,ByteArray.size_extract];omega
 have hbsz:b.size≤s.size:=by rw [← hb,ByteArray.size_extract];omega
 refine jG Tryz.func71 fun w00=>?_
 refine jC 128 [tx s,lt ⟨#[47,46]⟩] (hi) ?_
 refine jK (.binOp .lss 3 (.tmp 10) (.const (.int .i64 0)) 3) (.tmp 10) (.const (.int .i64 0)) (.fv (.sc (gY k))) (it 0) (bl false) (fun ρ o β w ho hx hy=>⟨_,lss_run ho (aP hx) (aN hy) (by rw [decide_eq_false_iff_not];omega),aY rfl⟩) ?_
 refine jK (.slice 9 (.tmp 16) none (some (.tmp 17)) none) (.tmp 16) (.tmp 17) (tx s) (.fv (.sc (gY k))) (tx a) (fun ρ o β w ho hx hy=>?_) ?_
 ·have:=pR (w:=w) ho Tryz.underlying9 (aP hx) (aP hy) (by omega)
  rw [ha] at this
  exact ⟨_,this,bF⟩
 refine jK (.binOp .add 3 (.tmp 20) (.const (.int .i64 1)) 3) (.tmp 20) (.const (.int .i64 1)) (.fv (.sc (gY k))) (it 1) (.fv (.sc (gY ((k+1:Nat):Int)))) (fun ρ o β w ho hx hy=>⟨_,tP ho (aP hx) (aN hy) (by omega),bF⟩) ?_
 refine jK (.slice 9 (.tmp 19) (some (.tmp 21)) none none) (.tmp 19) (.tmp 21) (tx s) (.fv (.sc (gY ((k+1:Nat):Int)))) (tx b) (fun ρ o β w ho hx hy=>?_) ?_
 ·have:=pS (w:=w) ho Tryz.underlying9 (aP hx) (aP hy) (by omega)
  rw [hb] at this
  exact ⟨_,this,bF⟩
 refine jC 129 [tx a] (qJ da da0) ?_
 refine jC 129 [tx b] (qJ db db0) ?_
 refine jK (.index 9 (.tmp 33) (.tmp 34)) (.tmp 33) (.tmp 34) (tx s) (.fv (.sc (gY k))) (.fv (.sc (.lit (.int .u8 46)))) (fun ρ o β w ho hx hy=>⟨_,mT ho Tryz.underlying9 (aP hx) (aP hy) hdot,aY rfl⟩) ?_
 refine jK (.binOp .add 9 (.tmp 37) (.tmp 38) 9) (.tmp 37) (.tmp 38) (tx a) (tx b) (tx (a++b)) (fun ρ o β w ho hx hy=>⟨_,eZ ho (aP hx) (aP hy) (by omega),bF⟩) ?_
 refine jO 40 b ?_
 refine jC 130 [lt ⟨#[48]⟩,.fv (.sc (gY b.size))] (hr) ?_
 refine jK (.binOp .add 9 (.const (.string ⟨#[49]⟩)) (.tmp 42) 9) (.const (.string ⟨#[49]⟩)) (.tmp 42) (lt ⟨#[49]⟩) (tx z) (tx (⟨#[49]⟩++z)) (fun ρ o β w ho hx hy=>⟨_,eZ ho (aN hx) (aP hy) (by have:(⟨#[49]⟩:ByteArray).size=1:=rfl;omega),bF⟩) ?_
 exact jR Tryz.func71
theorem parseF' {n d:Nat} (hs:s.size≤4096) (hp:Lib.hasPrefix s.data.toList [45]=false) (hpt:jF 71 [tx s] (.tup [.sc (bK (decB n)),.sc (bK (decB d)),.sc z0])) (hn:(decB n).size≤100000) (hd:(decB d).size≤100000) (ln:Lv 40 n) (ld:Lv 40 d) (d0:0<d)
 (lq:Lf 20 (mkRat (sg false n) d)) (w1:(decB (mkRat (sg false n) d).num.natAbs).size≤600) (w2:(decB (mkRat (sg false n) d).den).size≤600):jX 17 [tx s] (.tup [.sc (bK (writeB (mkRat (sg false n) d))),.sc z0]):=by
 refine jY Tryz.func17 fun w00 hI=>?_
 refine jO 9 s ?_
 refine jM 10 s.size 4096 false (by rw [decide_eq_false_iff_not];omega) ?_
 refine jC 70 [tx s,lt ⟨#[45]⟩] (cutPrefixNo hp) ?_
 refine jC 71 [tx s] (hpt) ?_
 refine jC 73 [tx (decB n)] (bY hn) ?_
 refine jC 73 [tx (decB d)] (bY hd) ?_
 refine jC 72 [bl false,nt n,nt d] (pM ln ld d0) ?_
 refine jC 74 [fra (mkRat (sg false n) d)] (kL) ?_
 refine jW hI 75 [num (mkRat (sg false n) d)] (uY lq w1 w2) ?_
 exact jR Tryz.func17
end
end Ab
namespace Fr
open Go.RowKit Go.Shelf
attribute [local go_sem] Oper.semAt_some
def axV (x1 x2 x3 y1 y2 y3 z1 z2 z3:ByteArray):Fin 3→Value
 | 0 => .agg #[.string x1,.string x2,.string x3]
 | 1 => .agg #[.string y1,.string y2,.string y3]
 | 2 => .agg #[.string z1,.string z2,.string z3]
def axE (x1 x2 x3 y1 y2 y3 z1 z2 z3:ByteArray) (i:Fin 3):Array Value := #[.int .i64 ((i.val:Nat):Int),axV x1 x2 x3 y1 y2 y3 z1 z2 z3 i]
theorem ix0 (w:World) (x1 x2 x3 y1 y2 y3 z1 z2 z3:ByteArray):(Sem.run Tryz.prog (Instr.index 89 (.agg #[.string x1,.string x2,.string x3,.string y1,.string y2,.string y3,.string z1,.string z2,.string z3]) (.int .i64 0)) w) = .ok (.agg #[.string x1,.string x2,.string x3]) w:=by
 kernel_rfl
theorem ix1 (w:World) (x1 x2 x3 y1 y2 y3 z1 z2 z3:ByteArray):(Sem.run Tryz.prog (Instr.index 89 (.agg #[.string x1,.string x2,.string x3,.string y1,.string y2,.string y3,.string z1,.string z2,.string z3]) (.int .i64 1)) w) = .ok (.agg #[.string y1,.string y2,.string y3]) w:=by
 kernel_rfl
theorem ix2 (w:World) (x1 x2 x3 y1 y2 y3 z1 z2 z3:ByteArray):(Sem.run Tryz.prog (Instr.index 89 (.agg #[.string x1,.string x2,.string x3,.string y1,.string y2,.string y3,.string z1,.string z2,.string z3]) (.int .i64 2)) w) = .ok (.agg #[.string z1,.string z2,.string z3]) w:=by
 kernel_rfl
set_option maxRecDepth 100000 in
theorem axes1_in (F:Fence) (n:Nat) (h8:F.fn 158) (hro:F.round=none) (hn:1≤n) (l Bf n₀:Nat) (o1 o2 o3 x1 x2 x3 y1 y2 y3 z1 z2 z3:ByteArray) (J Jx:List (Fin 3)→World→Prop)
 (hY:∀ pre x W,J pre W→pre.length<3→YieldAt F (n-1) Tryz.prog l (axE x1 x2 x3 y1 y2 y3 z1 z2 z3 x) W fun e W' =>
  (e = .returned (.bool true)∧J (pre ++ [x]) W'∧Below n₀ W W')∨(e = .returned (.bool false)∧Jx (pre ++ [x]) W'))
 (W:World) (hJ:AbidesFrom W.heap.size J) (hn0:n₀≤W.heap.size) (hB:W.heap[Bf]?=some (.cells #[.string o1,.string o2,.string o3,.string x1,.string x2,.string x3,.string y1,.string y2,.string y3,.string z1,.string z2,.string z3] 26 (0,0))) (h0:J [] W) :
 CallsIn F n Tryz.prog 158 #[.func (.yield l) #[] #[],.pointer (some ⟨Bf,0,none⟩)] W fun e W'=>(∃ v,e = .returned v) ∧
  ((∃ ys,ys = [0,1,2]∧J ys W')∨(∃ pre,True∧Jx pre W')):=by
 refine callsIn_of_wp Tryz.func158 rfl h8 ?_ hro
 simp only [Tryz.ntmps158,List.size_toArray,List.length_cons,List.length_nil,Nat.reduceAdd,Nat.reduceSub,Array.replicate_succ,Array.replicate_zero,List.push_toArray,List.append_toArray,List.nil_append,List.cons_append]
 have c3:W.cell? ⟨Bf,3,none⟩=some (.string x1):=by simp [World.cell?,hB]
 have c4:W.cell? ⟨Bf,4,none⟩=some (.string x2):=by simp [World.cell?,hB]
 have c5:W.cell? ⟨Bf,5,none⟩=some (.string x3):=by simp [World.cell?,hB]
 have c6:W.cell? ⟨Bf,6,none⟩=some (.string y1):=by simp [World.cell?,hB]
 have c7:W.cell? ⟨Bf,7,none⟩=some (.string y2):=by simp [World.cell?,hB]
 have c8:W.cell? ⟨Bf,8,none⟩=some (.string y3):=by simp [World.cell?,hB]
 have c9:W.cell? ⟨Bf,9,none⟩=some (.string z1):=by simp [World.cell?,hB]
 have c10:W.cell? ⟨Bf,10,none⟩=some (.string z2):=by simp [World.cell?,hB]
 have c11:W.cell? ⟨Bf,11,none⟩=some (.string z3):=by simp [World.cell?,hB]
 clear hB
 gi_wp2
 gi_loopw [12] (fun i wr=>(i = .int .i64 0∧J [] wr∨i = .int .i64 1∧J [0] wr∨i = .int .i64 2∧J [0,1] wr∨i = .int .i64 3∧J [0,1,2] wr)∧n₀≤wr.heap.size) (fun i _=>3-(intOf i).toNat)
 case atStart=>exact ⟨.inl ⟨rfl,h0⟩,hn0⟩
 case round =>
  obtain ⟨hc,hnr⟩:=hrel
  rcases hc with ⟨rfl,hJs⟩|⟨rfl,hJs⟩|⟨rfl,hJs⟩|⟨rfl,hJs⟩
  ·have hix:=ix0 wr x1 x2 x3 y1 y2 y3 z1 z2 z3
   have hJa:=hJ [] wr (wr.alloc (.cells #[.string x1,.string x2,.string x3] 24)) none hJs (World.grownBy_alloc _ _ none) (fun r e=>by cases e)
   obtain ⟨fn,tmps,assign,body,hy,hR⟩:=hY [] 0 _ hJa (by simp)
   change (Sem.run Tryz.prog (Instr.yield l #[.int .i64 0,.agg #[.string x1,.string x2,.string x3]]) _)=_ at hy
   gi_wp2
   refine hR.mono ?_
   rintro e W3 (⟨rfl,hJ3,hk3⟩|⟨rfl,hJx3⟩)
   ·have hs3:n₀≤W3.heap.size:=by have:=hk3.size;simp at this;omega
    gi_wp2
    go_roundw
    case rel=>exact ⟨.inr (.inl ⟨rfl,hJ3⟩),hs3⟩
    case measure=>simp [intOf]
   ·gi_wp2
    refine bodyPost_ret (results_none rfl _ _ _) rfl ?_
    exact ⟨⟨_,rfl⟩,.inr ⟨_,trivial,hJx3⟩⟩
  ·have hix:=ix1 wr x1 x2 x3 y1 y2 y3 z1 z2 z3
   have hJa:=hJ [0] wr (wr.alloc (.cells #[.string y1,.string y2,.string y3] 24)) none hJs (World.grownBy_alloc _ _ none) (fun r e=>by cases e)
   obtain ⟨fn,tmps,assign,body,hy,hR⟩:=hY [0] 1 _ hJa (by simp)
   change (Sem.run Tryz.prog (Instr.yield l #[.int .i64 1,.agg #[.string y1,.string y2,.string y3]]) _)=_ at hy
   gi_wp2
   refine hR.mono ?_
   rintro e W3 (⟨rfl,hJ3,hk3⟩|⟨rfl,hJx3⟩)
   ·have hs3:n₀≤W3.heap.size:=by have:=hk3.size;simp at this;omega
    gi_wp2
    go_roundw
    case rel=>exact ⟨.inr (.inr (.inl ⟨rfl,hJ3⟩)),hs3⟩
    case measure=>simp [intOf]
   ·gi_wp2
    refine bodyPost_ret (results_none rfl _ _ _) rfl ?_
    exact ⟨⟨_,rfl⟩,.inr ⟨_,trivial,hJx3⟩⟩
  ·have hix:=ix2 wr x1 x2 x3 y1 y2 y3 z1 z2 z3
   have hJa:=hJ [0,1] wr (wr.alloc (.cells #[.string z1,.string z2,.string z3] 24)) none hJs (World.grownBy_alloc _ _ none) (fun r e=>by cases e)
   obtain ⟨fn,tmps,assign,body,hy,hR⟩:=hY [0,1] 2 _ hJa (by simp)
   change (Sem.run Tryz.prog (Instr.yield l #[.int .i64 2,.agg #[.string z1,.string z2,.string z3]]) _)=_ at hy
   gi_wp2
   refine hR.mono ?_
   rintro e W3 (⟨rfl,hJ3,hk3⟩|⟨rfl,hJx3⟩)
   ·have hs3:n₀≤W3.heap.size:=by have:=hk3.size;simp at this;omega
    gi_wp2
    go_roundw
    case rel=>exact ⟨.inr (.inr (.inr ⟨rfl,hJ3⟩)),hs3⟩
    case measure=>simp [intOf]
   ·gi_wp2
    refine bodyPost_ret (results_none rfl _ _ _) rfl ?_
    exact ⟨⟨_,rfl⟩,.inr ⟨_,trivial,hJx3⟩⟩
  ·gi_wp2
   go_end0
   exact ⟨⟨_,rfl⟩,.inl ⟨_,rfl,hJs⟩⟩
theorem axes_stops (F:Fence) (n:Nat) (h8:F.fn 158) (hro:F.round=none) (hn:1≤n) (Bf n₀:Nat) (o1 o2 o3 x1 x2 x3 y1 y2 y3 z1 z2 z3:ByteArray) (w:World) (hn0:n₀≤w.heap.size)
 (hB:w.heap[Bf]?=some (.cells #[.string o1,.string o2,.string o3,.string x1,.string x2,.string x3,.string y1,.string y2,.string y3,.string z1,.string z2,.string z3] 26 (0,0))) :
 SeqStopsK F n Tryz.prog 158 #[.pointer (some ⟨Bf,0,none⟩)] (axE x1 x2 x3 y1 y2 y3 z1 z2 z3) (Below n₀) (fun ys=>ys = [0,1,2]) (fun _=>True) 3 w:=fun l J Jx W hW hJ _ hY h0 =>
 axes1_in F n h8 hro hn l Bf n₀ o1 o2 o3 x1 x2 x3 y1 y2 y3 z1 z2 z3 J Jx hY W hJ (Nat.le_trans hn0 hW.size) ((hW.block Bf (by rcases Nat.lt_or_ge Bf w.heap.size with h|h;exact h;rw [Array.getElem?_eq_none h] at hB;cases hB)).trans hB) h0
theorem axes_any (o1 o2 o3 x1 x2 x3 y1 y2 y3 z1 z2 z3:ByteArray) (w:World):Calls Tryz.prog 101 #[.agg #[.string o1,.string o2,.string o3,.string x1,.string x2,.string x3,.string y1,.string y2,.string y3,.string z1,.string z2,.string z3]] w fun e w' =>
 e = .returned (.func (.func 158) #[] #[.pointer (some ⟨w.heap.size,0,none⟩)])∧w'=w.alloc (.cells #[.string o1,.string o2,.string o3,.string x1,.string x2,.string x3,.string y1,.string y2,.string y3,.string z1,.string z2,.string z3] 26 (0,0)):=by
 refine (callsIn_wide (n:=3)).1 ?_
 refine callsIn_of_wp Tryz.func101 rfl trivial ?_ rfl
 simp only [Tryz.ntmps101,List.size_toArray,List.length_cons,List.length_nil,Nat.reduceAdd,Nat.reduceSub,Array.replicate_succ,Array.replicate_zero,List.push_toArray,List.append_toArray,List.nil_append,List.cons_append]
 gi_wp2
 refine bodyPost_ret (results_tmp rfl _ _ _) rfl ?_
 exact ⟨rfl,rfl⟩
end Fr
namespace Fr
open Go.RowKit Go.Shelf Ab Pl
structure C9 where
 n1:Int
 d1:Int
 p1:Option Addr
 n2:Int
 d2:Int
 p2:Option Addr
 n3:Int
 d3:Int
 p3:Option Addr
def C9.cells (k:C9):List Value := [.int .i64 k.n1,.int .i64 k.d1,.pointer k.p1,.int .i64 k.n2,.int .i64 k.d2,.pointer k.p2,.int .i64 k.n3,.int .i64 k.d3,.pointer k.p3]
def C9.val (k:C9):Value := .agg #[.int .i64 k.n1,.int .i64 k.d1,.pointer k.p1,.int .i64 k.n2,.int .i64 k.d2,.pointer k.p2,.int .i64 k.n3,.int .i64 k.d3,.pointer k.p3]
def C9.zero:C9:=⟨0,0,none,0,0,none,0,0,none⟩
theorem vc9 {w:World} {v:Value} {a b c:Rat} (h:Vc w v a b c):∃ k:C9,v=k.val∧Vc w k.val a b c:=by
 obtain ⟨n1,d1,p1,n2,d2,p2,n3,d3,p3,rfl,h1,h2,h3⟩:=h
 exact ⟨⟨n1,d1,p1,n2,d2,p2,n3,d3,p3⟩,rfl,n1,d1,p1,n2,d2,p2,n3,d3,p3,rfl,h1,h2,h3⟩
theorem tX {β:List Nat} {w:World} {k:C9} {a b c:Rat} (h:Vc w k.val a b c):holdsL β [nb a,nb b,nb c] k.cells w:=by
 obtain ⟨cs,e,hl⟩:=(tA (β:=β)).2 h
 injection e with e
 have e:=congrArg Array.toList e
 have e:k.cells=cs:=e
 rw [e]
 exact hl
def frL (o x y z:C9):List Value:=o.cells++x.cells++y.cells++z.cells
theorem lX {a b c:Rat} (h:oP a b c) (w:World) (hG:Gl w):Calls Tryz.prog 42 #[.agg #[.string (writeB a),.string (writeB b),.string (writeB c)]] w fun e w' => ∃ k:C9,e = .returned (.tuple #[k.val,.int .i64 0])∧Vc w' k.val a b c∧Below w.heap.size w w':=by
 refine (gR h [] w [.agg #[.string (writeB a),.string (writeB b),.string (writeB c)]] hG ⟨_,_,rfl,⟨[.string (writeB a),.string (writeB b),.string (writeB c)],rfl,[.string (writeB a)],_,rfl,rfl,[.string (writeB b)],_,rfl,rfl,[.string (writeB c)],_,rfl,rfl,rfl⟩,rfl⟩).mono ?_
 rintro e w' ⟨v,e1,e2,vs,rfl,u,r,rfl,h1,u2,r2,rfl,h2,h3⟩
 obtain ⟨k,rfl,h4⟩:=vc9 (tA.1 h1)
 have h5:[u2] = [.int .i64 0]:=h2.1
 injection h5 with h5
 rw [show r2 = [] from h3,h5] at e1
 exact ⟨k,e1,h4,e2⟩
section
variable {o1 o2 o3 x1 x2 x3 y1 y2 y3 z1 z2 z3:Rat}
theorem fr_holds {β:List Nat} {w:World} {o x y z:C9} (ho:Vc w o.val o1 o2 o3) (hx:Vc w x.val x1 x2 x3) (hy:Vc w y.val y1 y2 y3) (hz:Vc w z.val z1 z2 z3) :
 (iF o1 o2 o3 x1 x2 x3 y1 y2 y3 z1 z2 z3).holds β (.agg (frL o x y z).toArray) w :=
 ⟨frL o x y z,rfl,(((tX ho).append (tX hx)).append (tX hy)).append (tX hz)⟩
theorem check_any {w:World} {o x y z:C9} (ho:Vc w o.val o1 o2 o3) (hx:Vc w x.val x1 x2 x3) (hy:Vc w y.val y1 y2 y3) (hz:Vc w z.val z1 z2 z3) (l:Lm 25 x1 x2 x3 y1 y2 y3 z1 z2 z3) (h:Ax x1 x2 x3 y1 y2 y3 z1 z2 z3) :
 Calls Tryz.prog 102 #[.agg (frL o x y z).toArray] w fun e w'=>e = .returned (.int .i64 0)∧Below w.heap.size w w':=by
 refine (checkF (o1:=o1) (o2:=o2) (o3:=o3) l h [] w [.agg (frL o x y z).toArray] ⟨_,_,rfl,fr_holds ho hx hy hz,rfl⟩).mono ?_
 rintro e w' ⟨v,e1,e2,h1⟩
 have h5:[v] = [.int .i64 0]:=h1.1
 injection h5 with h5
 exact ⟨by rw [e1,h5],e2⟩
end
attribute [local go_sem] Oper.semAt_some
theorem aAh {P:Program} {ops:Array Oper} {rest:List Oper} {o:Oper} {a:Act} {w:World} {Q:Exit→Act→World→Prop} (hg:o.guard=none) (t:TypeId) (parts:Array (Nat×Operand)) (ho:o.op = .build t parts) (cs:Array Value)
 (hb:P.built t (parts.map fun (i,x)=>(i,a.eval x)).toList=some cs) (h:wpList P ops Q rest (a.put o.dst (.agg cs)) w):wpList P ops Q (o::rest) a w :=
 wpList_build hg t parts ho (by rw [hb];rfl) (by rw [hb];exact h)
theorem store_new3 {P:Program} {ops:Array Oper} {rest:List Oper} {o:Oper} {a:Act} {Q:Exit→Act→World→Prop} (hgd:o.guard=none) (ty:TypeId) (x y:Operand) (ho:o.op = .store ty x y) (w1:World) (A B:Obj) (old cells:Array Value)
 (hx:a.eval x = .pointer (some ⟨w1.heap.size+1+1,0,none⟩)) (hy:a.eval y = .agg cells) (hi:(P.info? ty).map (·.size)=some cells.size) (hold:old.size=cells.size) (h1:cells.all (·.oneCell')=true)
 (h:∀ W3:World,W3.heap.size=w1.heap.size+3→Below w1.heap.size w1 W3→W3.heap[w1.heap.size]?=some A→W3.heap[w1.heap.size+1]?=some B→W3.heap[w1.heap.size+2]?=some (.cells cells ty (0,0))→wpList P ops Q rest (a.put o.dst undef) W3) :
 wpList P ops Q (o::rest) a (((w1.alloc A).alloc B).alloc (.cells old ty (0,0))):=by
 have hg:(((w1.alloc A).alloc B).alloc (.cells old ty (0,0))).heap[w1.heap.size+1+1]?=some (.cells old ty (0,0)):=by
  have:=World.alloc_heap_new ((w1.alloc A).alloc B) (.cells old ty (0,0))
  rwa [World.size_alloc,World.size_alloc] at this
 refine wpList_store_row hgd ty x y ho (w1.heap.size+1+1) cells hx hy ty old hg hi hold h1 (h _ (by rw [setRow_size];simp) ?_ ?_ ?_ (setRow_heap _ _ _ _ _ _ hg))
 ·exact below_setRow ((((aB _ w1).alloc (aR _) _).alloc (by simp) _).alloc (by simp;omega) _) (by omega) _
 ·rw [setRow_other _ _ _ _ (by omega)]
  exact (Below.heap_alloc _ _ _ (by simp;omega)).trans ((Below.heap_alloc _ _ _ (by simp)).trans (World.alloc_heap_new w1 A))
 ·rw [setRow_other _ _ _ _ (by omega)]
  refine (Below.heap_alloc _ _ _ (by simp)).trans ?_
  have:=World.alloc_heap_new (w1.alloc A) B
  rwa [World.size_alloc] at this
structure Stopped (p:Prop):Prop where
 out:p
theorem stop_store {P:Program} {ops:Array Oper} {rest:List Oper} {o:Oper} {a:Act} {w:World} {Q:Exit→Act→World→Prop} (ty:TypeId) (x y:Operand) (ho:o.op = .store ty x y) (h:Stopped (wpList P ops Q (o::rest) a w)):wpList P ops Q (o::rest) a w:=h.out
theorem vK {W W' : World} {row:Option Nat} (hg:W.grownBy W' row) (hrow:∀ r,row=some r→∃ o:Obj,W.heap[r]?=some o∧o.isCells=false):Go.Proofs.YtnghdaemmlagpaaGreatDoor.Ext Kn W W':=by
 refine ⟨hg.size,fun g o h ho=>?_⟩
 have hc:o.isCells=true:=by cases o <;> first|rfl|(simp [Go.Proofs.YtnghdaemmlagpaaGreatDoor.hotObj] at ho)
 exact (grownBy_keeps_cells hg hrow h hc).trans h
theorem Vc.kext {w w' : World} {v:Value} {a b c:Rat} (h:Vc w v a b c) (hx:Go.Proofs.YtnghdaemmlagpaaGreatDoor.Ext Kn w w'):Vc w' v a b c:=h.ext (fun _=>rfl) (fun _=>rfl) hx
theorem load_all {P:Program} {ρ:Operand→Value} {o:Oper} {w:World} {T T' : TypeId} {x:Operand} {g:Nat} {cs:List Value} {d:TypeDesc} (ho:o.op = .load T x) (hx:ρ x = .pointer (some ⟨g,0,none⟩)) (hg:w.heap[g]?=some (.cells cs.toArray T' (0,0)))
 (hd:P.underlying T=some d) (hr:d.isRow=true) (hi:(P.info? T).map (·.size)=some cs.length):(execOp ρ o).run P w = .ok (.value (.agg cs.toArray)) w:=by
 have h:=run_loadVar_mid w g 0 T ((cs.drop 0).take cs.length) d (sO hg 0 cs.length) hd hr (by rw [hi,List.drop_zero,List.take_length])
 rw [List.drop_zero,List.take_length] at h
 simp only [execOp,ho,Instr.loadAt,hx,Instr.sureAddr]
 exact bQ (by simpa [Sem.run_bind] using h)
theorem frL_one (o x y z:C9):∀ c∈frL o x y z,c.oneCell'=true:=by
 have h:(frL o x y z).all (·.oneCell')=true:=rfl
 exact fun c hc=>List.all_eq_true.1 h c hc
theorem fin3:∀ x:Fin 3,x=0∨x=1∨x=2:=by decide
theorem tY {w:World} {b i:Nat} {v:Value} (hlt:b<w.heap.size) (h:w.cell? ⟨b,i,none⟩=some v) (o:Obj):(w.alloc o).cell? ⟨b,i,none⟩=some v :=
 (((aB _ w).alloc (aR _) o).cell (p:=⟨b,i,none⟩) hlt).trans h
theorem gU {w:World} {b i:Nat} {cs:Array Value} {t:TypeId} (hlt:b<w.heap.size) (h:w.heap[b]?=some (.cells cs t (0,0))) (o:Obj):(w.alloc o).frozen? ⟨b,i,none⟩=false :=
 aZ ((((aB _ w).alloc (aR _) o).block b hlt).trans h) i
theorem tZ {n g:Nat} {o:Obj} {A X Y:World} (hb:Below n A X) (h:Turned g o X Y) (hn:n≤g):Below n A Y :=
 ⟨h.os.trans hb.os,h.tape.trans hb.tape,h.output.trans hb.output,by rw [h.size];exact hb.size,fun k hk=>(h.block k (by omega)).trans (hb.block k hk)⟩
theorem uA {g S:Nat} {o o0:Obj} {X Y:World} (h:Turned g o X Y) (h0:X.heap[g]?=some o0) (hc:o0.isCells=true):KeepsFrom S X Y:=by
 refine ⟨by rw [h.size];exact aR _,fun k o' _ hk ho=>?_⟩
 have:k≠g:=by
  rintro rfl
  rw [h0] at hk
  injection hk with hk
  rw [hk,ho] at hc
  cases hc
 exact (h.block k this).trans hk
theorem fV {S:Nat} {W W' : World} (h:Below W.heap.size W W'):KeepsFrom S W W':=⟨h.size,fun k o _ hk _=>(h.block k (Array.getElem?_eq_some_iff.1 hk).1).trans hk⟩
section
variable {w:World} {k:C9} {B E R:Nat} {o1 o2 o3 x1 x2 x3 y1 y2 y3 z1 z2 z3:Rat}
theorem nI (o x y z:C9) (T:TypeId):Go.Proofs.YtnghdaemmlagpaaGreatDoor.hotObj Kn (.cells (frL o x y z).toArray T (0,0))=false:=by simp [Go.Proofs.YtnghdaemmlagpaaGreatDoor.hotObj,frL,C9.cells,Kn]
theorem turn9 {w:World} {B:Nat} {T:TypeId} {cs cs' : Array Value} (off:Nat) (h:w.heap[B]?=some (.cells cs T (0,0))) (u0 u1 u2 u3 u4 u5 u6 u7 u8:Value)
 (e:((((((((cs.setIfInBounds off u0).setIfInBounds (off+1) u1).setIfInBounds (off+2) u2).setIfInBounds (off+3) u3).setIfInBounds (off+4) u4).setIfInBounds (off+5) u5).setIfInBounds (off+6) u6).setIfInBounds (off+7) u7).setIfInBounds (off+8) u8=cs') :
 Turned B (.cells cs' T (0,0)) w (((((((((w.setCell ⟨B,off,none⟩ u0).setCell ⟨B,off+1,none⟩ u1).setCell ⟨B,off+2,none⟩ u2).setCell ⟨B,off+3,none⟩ u3).setCell ⟨B,off+4,none⟩ u4).setCell ⟨B,off+5,none⟩ u5).setCell ⟨B,off+6,none⟩ u6).setCell ⟨B,off+7,none⟩ u7).setCell ⟨B,off+8,none⟩ u8):=by
 subst e
 have t0:=dC (i:=off) h u0
 have t1:=t0.trans (dC (i:=off+1) t0.at_ u1)
 have t2:=t1.trans (dC (i:=off+2) t1.at_ u2)
 have t3:=t2.trans (dC (i:=off+3) t2.at_ u3)
 have t4:=t3.trans (dC (i:=off+4) t3.at_ u4)
 have t5:=t4.trans (dC (i:=off+5) t4.at_ u5)
 have t6:=t5.trans (dC (i:=off+6) t5.at_ u6)
 have t7:=t6.trans (dC (i:=off+7) t6.at_ u7)
 exact t7.trans (dC (i:=off+8) t7.at_ u8)
end
end Fr
section
open Go.RowKit Pl
def dig (c:Nat):Bool:=decide (48≤c)&&decide (c≤57)
theorem digitsB_all {s:ByteArray} (h:∀ (j:Nat) (hj:j<s.size),dig (s[j]'hj).toNat=true):dT s=true:=by
 unfold dT
 rw [List.all_eq_true]
 intro c hc
 obtain ⟨j,hj,e⟩:=List.mem_iff_getElem.1 hc
 have hj2:j<s.size:=by rw [← aE];exact hj
 have h1:=cR hj2
 rw [List.getElem?_eq_getElem hj,e] at h1
 injection h1 with h1
 rw [h1]
 exact h j hj2
theorem dig_bad {c:Nat} (h:dig c=false):c<48∨57<c:=by
 simp only [dig,Bool.and_eq_false_iff,decide_eq_false_iff_not] at h
 omega
set_option maxRecDepth 100000 in
theorem isDigits_all (s:ByteArray) (w:World):Calls Tryz.prog 129 #[.string s] w fun e w'=>e = .returned (.bool (dT s&&decide (s.size≠0)))∧Below w.heap.size w w':=by
 have hne:(!(s.toList==(⟨#[]⟩:ByteArray).toList))=decide (s.size≠0):=by
  rw [Go.ByteArray.toList_eq,Go.ByteArray.toList_eq]
  have hl:=aE s
  unfold aC at hl
  cases hb:s.data.toList with
  | nil=>rw [hb] at hl;simp at hl;simp [← hl]
  | cons c l =>
    rw [hb] at hl
    simp at hl
    have:s.size≠0:=by omega
    simp [this]
 go_enter Tryz.func129,Tryz.ntmps129
 go_wp2
 go_loopw [4] (fun _ wr => ∃ pos:Nat,wr=w.iter s pos∧pos≤s.size∧∀ (j:Nat) (hj:j<s.size),j<pos→dig (s[j]'hj).toNat=true) (fun _ wr=>s.size-wr.iterPos w.heap.size)
 case atStart=>exact ⟨0,rfl,Nat.zero_le _,fun j _ h=>absurd h (Nat.not_lt_zero _)⟩
 case round =>
  obtain ⟨pos,rfl,hpos,hok⟩:=hrel
  by_cases hp:pos<s.size
  ·obtain ⟨c,k,hdc,hk,hgood⟩:∃ c k,Utf8.decode s pos=(c,k)∧1≤k∧(dig c=true→(∀ hj:pos<s.size,dig (s[pos]'hj).toNat=true)∧k=1)∧(dig c=false→∀ hj:pos<s.size,dig (s[pos]'hj).toNat=false):=by
    by_cases ha:(s[pos]'hp).toNat<128
    ·exact ⟨_,_,decode_ascii s pos hp ha,aR _,fun h=>⟨fun _=>h,rfl⟩,fun h _=>h⟩
    ·obtain ⟨h1,h2⟩:=decode_high s pos hp (by omega)
     refine ⟨(Utf8.decode s pos).1,(Utf8.decode s pos).2,rfl,h2,fun h=>?_,fun _ _=>?_⟩
     ·simp [dig] at h
      omega
     ·simp [dig]
      omega
   have hnx:∀ ty,(Instr.next (.pointer (some ⟨w.heap.size,0,none⟩)) true ty).run Tryz.prog (w.iter s pos) = .ok (.tuple #[.bool true,.int .i64 pos,.int .i32 (c:Int)]) (w.iter s (pos+k)):=fun ty=>by
    have:=run_next_any (P:=Tryz.prog) w s pos ty hp
    rw [hdc] at this
    exact this
   have HH:=aH (aI hp (aI hpos (aI hok (aI hk hgood))))
   clear hdc hp hpos hok hk hgood hne
   by_cases g1:48≤c
   ·by_cases g2:c≤57
    ·have k1:(48:Int)≤c:=by omega
     have k2:(c:Int)≤57:=by omega
     have G:=aH (show dig c=true by simp [dig,g1,g2])
     clear g1 g2
     go_wp2
     go_roundw
     case rel =>
      obtain ⟨hp,hpos,hok,hk,hg,_⟩:=HH.out
      obtain ⟨g1,rfl⟩:=hg G.out
      refine ⟨pos+1,rfl,hp,fun j hj hjp=>?_⟩
      by_cases hjj:j=pos
      ·subst hjj;exact g1 hj
      ·exact hok j hj (by omega)
     case measure =>
      have:=HH.out.1
      have:=HH.out.2.2.2.1
      simp
      omega
    ·have k1:(48:Int)≤c:=by omega
     have k2:(57:Int)<c:=by omega
     have G:=aH (show dig c=false by simp [dig];omega)
     clear g1 g2
     go_wp2
     go_ret
     obtain ⟨hp,_,_,_,_,hg⟩:=HH.out
     exact ⟨by rw [lR hp (dig_bad (hg G.out hp))];rfl,fC _ _ _⟩
   ·have k1:(c:Int)<48:=by omega
    have G:=aH (show dig c=false by simp [dig];omega)
    clear g1
    go_wp2
    go_ret
    obtain ⟨hp,_,_,_,_,hg⟩:=HH.out
    exact ⟨by rw [lR hp (dig_bad (hg G.out hp))];rfl,fC _ _ _⟩
  ·have hnx:∀ ty,(Instr.next (.pointer (some ⟨w.heap.size,0,none⟩)) true ty).run Tryz.prog (w.iter s pos)=_:=fun ty=>run_next_end w s pos ty hp
   have H2:=aH (show dT s=true from digitsB_all fun j hj=>hok j hj (by omega))
   have H3:=aH hne
   clear hok hp hpos hne
   obtain ⟨b,hb⟩:∃ b,b=(!(s.toList==(⟨#[]⟩:ByteArray).toList)):=⟨_,rfl⟩
   go_wp2
   go_ret
   refine ⟨?_,fC _ _ _⟩
   have e:=H3.out
   rw [H2.out,Bool.true_and,← e]
   simp
end
namespace Ab
open Go.RowKit Pl
theorem oH {s:ByteArray} {b:Bool} (h:(dT s&&decide (s.size≠0))=b):jF 129 [tx s] (bl b):=by
 intro β w vs hv
 obtain ⟨v,rfl,h1⟩:=dF hv
 rw [aP h1]
 exact (isDigits_all s w).mono fun e w' ⟨e1,e2⟩=>⟨_,e1,e2,by rw [h];exact aY rfl⟩
theorem bH {s:ByteArray} {b:Bool} (h:decF s=b):jF 108 [tx s] (bl b):=by
 by_cases h0:(dT s&&decide (s.size≠0))=false
 ·have:b=false:=by
   rw [← h]
   unfold decF
   split
   ·rfl
   ·rename_i hz
    split
    ·rfl
    ·rw [decide_eq_true hz,Bool.and_true] at h0
     exact h0
  subst this
  refine jG Tryz.func108 fun w00=>?_
  refine jC 129 [tx s] (oH h0) ?_
  exact jR Tryz.func108
 rw [Bool.not_eq_false] at h0
 obtain ⟨h1,h2⟩:=Bool.and_eq_true_iff.1 h0
 have h2:s.size≠0:=of_decide_eq_true h2
 have hp:0<s.size:=by omega
 obtain ⟨c,hc⟩:∃ c,s[0]?=some c:=⟨_,getElem?_pos s 0 hp⟩
 have hh:(aC s).head?=some c:=by
  rw [List.head?_eq_getElem?,cR hp,← hc,getElem?_pos s 0 hp]
 unfold decF at h
 rw [if_neg h2,hh,h1] at h
 by_cases e:c=48
 ·have q1:(((c.toNat:Nat):Int) != 48)=false:=by rw [e];rfl
  have q2:(((s.size:Nat):Int)==1)=b:=by
   rw [← h,e]
   by_cases g:1<s.size
   ·rw [if_pos ⟨g,rfl⟩,beq_eq_false_iff_ne];omega
   ·rw [if_neg (fun k=>g k.1),beq_iff_eq];omega
  refine jG Tryz.func108 fun w00=>?_
  refine jC 129 [tx s] (oH h0) ?_
  refine jK (.index 9 (.tmp 6) (.const (.int .i64 0))) (.tmp 6) (.const (.int .i64 0)) (tx s) (it 0) (.fv (.sc (isB c.toNat))) (fun ρ o β w ho hx hy=>⟨_,mT (i:=0) ho Tryz.underlying9 (aP hx) (aN hy) hc,bF⟩) ?_
  refine jK (.binOp .neq 5 (.tmp 7) (.const (.int .u8 48)) 5) (.tmp 7) (.const (.int .u8 48)) (.fv (.sc (isB c.toNat))) (.fv (.sc (.lit (.int .u8 48)))) (bl false) (fun ρ o β w ho hx hy=>⟨_,nY ho (aP hx) (aN hy) q1,aY rfl⟩) ?_
  refine jO 10 s ?_
  refine jK (.binOp .eql 3 (.tmp 11) (.const (.int .i64 1)) 3) (.tmp 11) (.const (.int .i64 1)) (.fv (.sc (gY s.size))) (it 1) (bl b) (fun ρ o β w ho hx hy=>⟨_,intEq_run ho (aP hx) (aN hy) q2,aY rfl⟩) ?_
  exact jR Tryz.func108
 ·have q1:(((c.toNat:Nat):Int) != 48)=true:=by
   rw [bne_iff_ne]
   intro k
   exact e (UInt8.toNat_inj.1 (by have:(48:UInt8).toNat=48:=rfl;omega))
  rw [if_neg (fun k=>e (by injection k.2))] at h
  subst h
  refine jG Tryz.func108 fun w00=>?_
  refine jC 129 [tx s] (oH h0) ?_
  refine jK (.index 9 (.tmp 6) (.const (.int .i64 0))) (.tmp 6) (.const (.int .i64 0)) (tx s) (it 0) (.fv (.sc (isB c.toNat))) (fun ρ o β w ho hx hy=>⟨_,mT (i:=0) ho Tryz.underlying9 (aP hx) (aN hy) hc,bF⟩) ?_
  refine jK (.binOp .neq 5 (.tmp 7) (.const (.int .u8 48)) 5) (.tmp 7) (.const (.int .u8 48)) (.fv (.sc (isB c.toNat))) (.fv (.sc (.lit (.int .u8 48)))) (bl true) (fun ρ o β w ho hx hy=>⟨_,nY ho (aP hx) (aN hy) q1,aY rfl⟩) ?_
  exact jR Tryz.func108
end Ab
end Go.Proofs.YtnghdaemmlagpaaGreatDoor
