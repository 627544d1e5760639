/- Parts of the proof, joined. -/
import Derived.Test.YtjiadfgfnmeabaaGreatDoorJ6
import Derived.Test.YtjiadfgfnmeabaaGreatDoorJ1
import Derived.Laws.Tables
import Derived.Laws.StructEq
import Derived.Test.YtjiadfgfnmeabaaGreatDoorJ5
set_option maxHeartbeats 4000000
set_option linter.unusedSimpArgs false
set_option linter.unusedVariables false
set_option linter.constructorNameAsVariable false
namespace Go.Proofs.YtjiadfgfnmeabaaGreatDoor
namespace Ab
open Go.RowKit Pl
abbrev pz (d:Nat):AV Kr := .fv (.ag [.lit (.bool false),.sp (pS d)])
theorem lM {o:Oper} {ρ:Operand→Value} {w:World} {t:Tmp} {A:Option Addr} {n c:Nat} (ho:o.op = .call ⟨.builtin .len,#[.tmp t],#[86]⟩) (hx:ρ (.tmp t) = .slice A n c) :
 (execOp ρ o).run Tryz.prog w = .ok (.value (.int .i64 n)) w:=by
 have hm:(#[Operand.tmp t].map ρ) = #[.slice A n c]:=by simp [hx]
 simp only [execOp,ho,resolve,Sem.run_bind,Sem.run_pure,Result.andThen,hm,invoke,builtin,Builtin.len_]
 simp [Sem.run_bind,run_underlying Tryz.underlying86,Result.andThen,goInt,Builtin.lenOf]
theorem mK {o:Oper} {ρ:Operand→Value} {w:World} {t:Tmp} {ad:Addr} {n c:Nat} (ho:o.op = .indexAddr 86 (.tmp t) (.const (.int .i64 0))) (hx:ρ (.tmp t) = .slice (some ad) n c) (hy:ρ (.const (.int .i64 0)) = .int .i64 0) (hn:0<n) :
 (execOp ρ o).run Tryz.prog w = .ok (.value (.pointer (some ad))) w:=by
 simp only [execOp,ho,hx,hy]
 refine bI ?_
 have h0:¬ n=0:=by omega
 simp [go_sem,run_underlying Tryz.underlying86,hn,h0]
 done
def csP (x:Nat):CS Kr where
 size:=1
 cold:=true
 pred cs w := ∃ ad:Addr,cs = [.pointer (some ad)]∧w.cell? ad=some (.int .i64 (x:Int))
 stable cs w w' h hx:=by obtain ⟨ad,e,h⟩:=h;exact ⟨ad,e,hx.cell h rfl⟩
 len cs w h:=by obtain ⟨v,e,_⟩:=h;rw [e];rfl
 one cs w h:=by obtain ⟨v,e,_⟩:=h;rw [e];intro d hd;rw [List.mem_singleton] at hd;rw [hd];rfl
 iscold _ cs w h:=by obtain ⟨v,e,_⟩:=h;rw [e];intro d hd;rw [List.mem_singleton] at hd;rw [hd];rfl
def csNe:CS Kr where
 size:=1
 cold:=false
 pred cs _ := ∃ n:Int,cs = [.int .i64 n]∧n≠1
 stable _ _ _ h _:=h
 len cs w h:=by obtain ⟨v,e,_⟩:=h;rw [e];rfl
 one cs w h:=by obtain ⟨v,e,_⟩:=h;rw [e];intro d hd;rw [List.mem_singleton] at hd;rw [hd];rfl
 iscold h:=by cases h
abbrev rP (x:Nat):AV Kr := .fv (.sc (.sp (csP x)))
abbrev rNe:AV Kr := .fv (.sc (.sp csNe))
theorem iV {w:World} {v:Value} {q:Nat} (h:Di w v q) (h0:0<q) (hq:q<B9):∃ ad c,v = .slice (some ad) 1 c∧w.cell? ad=some (.int .i64 (q:Int)):=by
 obtain ⟨A,n,c,xs,rfl,hr,hd,hn,rfl⟩:=h
 have hl:=aW dS hn (L:=1) (by rw [Nat.pow_one];exact hq)
 match xs,hl,hr with
 | [],_,_=>simp [val] at h0
 | [x],_,hr =>
   obtain rfl:n=1:=hr.len.symm
   obtain ⟨ad,y,rfl,_,hy,hc⟩:=hr.at_ (k:=0) (by omega)
   simp at hy
   subst hy
   exact ⟨ad,c,rfl,by simpa [val,Addr.add] using hc⟩
theorem wL {w:World} {v:Value} {q:Nat} (h:Di w v q) (hq:B9≤q):∃ A n c,v = .slice A n c∧n≠1:=by
 obtain ⟨A,n,c,xs,rfl,hr,hd,hn,rfl⟩:=h
 refine ⟨A,n,c,rfl,fun e=>?_⟩
 have h1:=bS hd
 rw [hr.len,e,Nat.pow_one] at h1
 omega
theorem uI {o:Oper} {ρ:Operand→Value} {w:World} {t:Tmp} {ad:Addr} {x:Int} (ho:o.op = .load 3 (.tmp t)) (hx:ρ (.tmp t) = .pointer (some ad)) (hc:w.cell? ad=some (.int .i64 x)) :
 (execOp ρ o).run Tryz.prog w = .ok (.value (.int .i64 x)) w:=by
 simp only [execOp,ho,hx]
 refine bI ?_
 simp [go_sem,hc]
theorem jJ {o:Oper} {ρ:Operand→Value} {w:World} {x y:Operand} {a b:Int} {r:Bool} (ho:o.op = .binOp .eql 3 x y 3) (hx:ρ x = .int .i64 a) (hy:ρ y = .int .i64 b) (h:(a==b)=r) :
 (execOp ρ o).run Tryz.prog w = .ok (.value (.bool r)) w:=by
 simp only [execOp,ho,hx,hy]
 refine bI ?_
 rw [← h]
 exact bO (by kernel_rfl) w
theorem oR {a:Nat}:jF 171 [rl false,di a] (iz (a:Int)):=by
 intro β w vs hv
 obtain ⟨v,u,rfl,h1,h2⟩:=eB hv
 rw [bY h1]
 have := @eZ false a β w [.bool false,u] ⟨_,_,rfl,cQ,u,[],rfl,h2,rfl⟩
 simpa [gY] using this
section
variable {n:Int} {d:Nat}
theorem fractionF (hn:Bd n.natAbs) (hd:Bd d) (hd0:0<d) (hp:n.natAbs<B9^100000000) (hq:d<B9^100000000) (hs1:(aQ (gY (decide (n<0)) (n.natAbs/Nat.gcd n.natAbs d))).size≤1000000000) (hs2:(aQ ((d/Nat.gcd n.natAbs d:Nat):Int)).size≤1000000000) :
 jF 118 [iz n,pz d] (rS (if d/Nat.gcd n.natAbs d=1 then aQ (gY (decide (n<0)) (n.natAbs/Nat.gcd n.natAbs d)) else aQ (gY (decide (n<0)) (n.natAbs/Nat.gcd n.natAbs d))++⟨#[47]⟩++aQ ((d/Nat.gcd n.natAbs d:Nat):Int))):=by
 have hg:0<Nat.gcd n.natAbs d:=Nat.gcd_pos_of_pos_right _ hd0
 have hq0:0<d/Nat.gcd n.natAbs d:=Nat.div_pos (Nat.gcd_le_right _ hd0) hg
 have hq1:d/Nat.gcd n.natAbs d≤d:=Nat.div_le_self _ _
 have hp1:(gY (decide (n<0)) (n.natAbs/Nat.gcd n.natAbs d)).natAbs<B9^100000000:=by rw [sS];exact Nat.lt_of_le_of_lt (Nat.div_le_self _ _) hp
 have hq2:((d/Nat.gcd n.natAbs d:Nat):Int).natAbs<B9^100000000:=by rw [Int.natAbs_natCast];exact Nat.lt_of_le_of_lt hq1 hq
 generalize hG:Nat.gcd n.natAbs d=g at *
 generalize hP:gY (decide (n<0)) (n.natAbs/g)=p at *
 generalize hQ:d/g=q at *
 by_cases h1:q=1
 ·rw [if_pos h1]
  refine jT Tryz.func118 fun w00=>?_
  refine jB 109 [di n.natAbs,di d] (by have:=kX hn hd;rw [hG] at this;exact this) ?_
  refine jB 163 [di n.natAbs,di g] (vW hn hg) ?_
  refine jB 163 [di d,di g] (by have:=vW (a:=d) (b:=g) hd hg;rw [hQ] at this;exact this) ?_
  refine jB 171 [rb (decide (n<0)),di (n.natAbs/g)] (by have := @eZ (decide (n<0)) (n.natAbs/g);rw [hP] at this;exact this) ?_
  refine jB 170 [iz p] (qI hp1) ?_
  refine jL (.call ⟨.builtin .len,#[.tmp 41],#[86]⟩) (.tmp 41) (.tmp 41) (di q) (di q) (.fv (.sc (.lit (.int .i64 1)))) (fun ρ o β w ho hx _=>?_) ?_
  ·obtain ⟨ad,c,e,_⟩:=iV (bC.1 hx) hq0 (by rw [h1];exact dS)
   exact ⟨_,lM ho e,fA rfl⟩
  refine jL (.indexAddr 86 (.tmp 45) (.const (.int .i64 0))) (.tmp 45) (.const (.int .i64 0)) (di q) (.fv (.sc (.lit (.int .i64 0)))) (rP q) (fun ρ o β w ho hx hy=>?_) ?_
  ·obtain ⟨ad,c,e,hc⟩:=iV (bC.1 hx) hq0 (by rw [h1];exact dS)
   exact ⟨_,mK ho e (bY hy) (by omega),⟨ad,rfl,hc⟩⟩
  refine jL (.load 3 (.tmp 46)) (.tmp 46) (.tmp 46) (rP q) (rP q) (.fv (.sc (.lit (.int .i64 1)))) (fun ρ o β w ho hx _=>?_) ?_
  ·obtain ⟨ad,e,hc⟩:=hx
   injection e with e
   rw [h1] at hc
   exact ⟨_,uI ho e hc,fA rfl⟩
  exact jS Tryz.func118
 ·rw [if_neg h1]
  have hcat1:(aQ p).size+(⟨#[47]⟩:ByteArray).size≤9223372036854775807:=by
   have:(⟨#[47]⟩:ByteArray).size=1:=rfl
   omega
  have hcat2:(aQ p++⟨#[47]⟩:ByteArray).size+(aQ (q:Int)).size≤9223372036854775807:=by
   have:(⟨#[47]⟩:ByteArray).size=1:=rfl
   rw [ByteArray.size_append]
   omega
  by_cases h2:q<B9
  ·refine jT Tryz.func118 fun w00=>?_
   refine jB 109 [di n.natAbs,di d] (by have:=kX hn hd;rw [hG] at this;exact this) ?_
   refine jB 163 [di n.natAbs,di g] (vW hn hg) ?_
   refine jB 163 [di d,di g] (by have:=vW (a:=d) (b:=g) hd hg;rw [hQ] at this;exact this) ?_
   refine jB 171 [rb (decide (n<0)),di (n.natAbs/g)] (by have := @eZ (decide (n<0)) (n.natAbs/g);rw [hP] at this;exact this) ?_
   refine jB 170 [iz p] (qI hp1) ?_
   refine jL (.call ⟨.builtin .len,#[.tmp 41],#[86]⟩) (.tmp 41) (.tmp 41) (di q) (di q) (.fv (.sc (.lit (.int .i64 1)))) (fun ρ o β w ho hx _=>?_) ?_
   ·obtain ⟨ad,c,e,_⟩:=iV (bC.1 hx) hq0 h2
    exact ⟨_,lM ho e,fA rfl⟩
   refine jL (.indexAddr 86 (.tmp 45) (.const (.int .i64 0))) (.tmp 45) (.const (.int .i64 0)) (di q) (.fv (.sc (.lit (.int .i64 0)))) (rP q) (fun ρ o β w ho hx hy=>?_) ?_
   ·obtain ⟨ad,c,e,hc⟩:=iV (bC.1 hx) hq0 h2
    exact ⟨_,mK ho e (bY hy) (by omega),⟨ad,rfl,hc⟩⟩
   refine jL (.load 3 (.tmp 46)) (.tmp 46) (.tmp 46) (rP q) (rP q) (rI q) (fun ρ o β w ho hx _=>?_) ?_
   ·obtain ⟨ad,e,hc⟩:=hx
    injection e with e
    exact ⟨_,uI ho e hc,cQ⟩
   refine jL (.binOp .eql 3 (.tmp 47) (.const (.int .i64 1)) 3) (.tmp 47) (.const (.int .i64 1)) (rI q) (.fv (.sc (.lit (.int .i64 1)))) (rl false) (fun ρ o β w ho hx hy=>⟨.bool false,jJ ho (bB hx) (bY hy) (by simp;omega),fA rfl⟩) ?_
   refine jL (.binOp .add 9 (.tmp 51) (.const (.string ⟨#[47]⟩)) 9) (.tmp 51) (.const (.string ⟨#[47]⟩)) (rS (aQ p)) (.fv (.sc (.lit (.string ⟨#[47]⟩)))) (rS (aQ p++⟨#[47]⟩)) (fun ρ o β w ho hx hy=>⟨_,eU ho (bB hx) (bY hy) hcat1,cQ⟩) ?_
   refine jB 171 [rl false,di q] oR ?_
   refine jB 170 [iz (q:Int)] (qI hq2) ?_
   refine jL (.binOp .add 9 (.tmp 52) (.tmp 55) 9) (.tmp 52) (.tmp 55) (rS (aQ p++⟨#[47]⟩)) (rS (aQ (q:Int))) (rS (aQ p++⟨#[47]⟩++aQ (q:Int))) (fun ρ o β w ho hx hy=>⟨_,eU ho (bB hx) (bB hy) hcat2,cQ⟩) ?_
   exact jS Tryz.func118
  ·refine jT Tryz.func118 fun w00=>?_
   refine jB 109 [di n.natAbs,di d] (by have:=kX hn hd;rw [hG] at this;exact this) ?_
   refine jB 163 [di n.natAbs,di g] (vW hn hg) ?_
   refine jB 163 [di d,di g] (by have:=vW (a:=d) (b:=g) hd hg;rw [hQ] at this;exact this) ?_
   refine jB 171 [rb (decide (n<0)),di (n.natAbs/g)] (by have := @eZ (decide (n<0)) (n.natAbs/g);rw [hP] at this;exact this) ?_
   refine jB 170 [iz p] (qI hp1) ?_
   refine jL (.call ⟨.builtin .len,#[.tmp 41],#[86]⟩) (.tmp 41) (.tmp 41) (di q) (di q) rNe (fun ρ o β w ho hx _=>?_) ?_
   ·obtain ⟨A,m,c,e,hm⟩:=wL (bC.1 hx) (Nat.le_of_not_lt h2)
    exact ⟨_,lM ho e,⟨(m:Int),rfl,by omega⟩⟩
   refine jL (.binOp .eql 3 (.tmp 42) (.const (.int .i64 1)) 3) (.tmp 42) (.const (.int .i64 1)) rNe (.fv (.sc (.lit (.int .i64 1)))) (rl false) (fun ρ o β w ho hx hy=>?_) ?_
   ·obtain ⟨m,e,hm⟩:=hx
    injection e with e
    exact ⟨.bool false,jJ ho e (bY hy) (by simpa using hm),fA rfl⟩
   refine jL (.binOp .add 9 (.tmp 51) (.const (.string ⟨#[47]⟩)) 9) (.tmp 51) (.const (.string ⟨#[47]⟩)) (rS (aQ p)) (.fv (.sc (.lit (.string ⟨#[47]⟩)))) (rS (aQ p++⟨#[47]⟩)) (fun ρ o β w ho hx hy=>⟨_,eU ho (bB hx) (bY hy) hcat1,cQ⟩) ?_
   refine jB 171 [rl false,di q] oR ?_
   refine jB 170 [iz (q:Int)] (qI hq2) ?_
   refine jL (.binOp .add 9 (.tmp 52) (.tmp 55) 9) (.tmp 52) (.tmp 55) (rS (aQ p++⟨#[47]⟩)) (rS (aQ (q:Int))) (rS (aQ p++⟨#[47]⟩++aQ (q:Int))) (fun ρ o β w ho hx hy=>⟨_,eU ho (bB hx) (bB hy) hcat2,cQ⟩) ?_
   exact jS Tryz.func118
end
end Ab
section
open Go.RowKit Pl
def ParseNext (w:World) (r r' : ByteArray) (ws:List Nat):Prop :=
 Dig B9 ws∧AllDig (aC r')∧aU (aC r)=val B9 ws+B9^ws.length*aU (aC r')∧r'.size+9*ws.length=r.size
def ParseAt (w:World) (r:ByteArray) (dv wv:Value) (wr:World):Prop :=
 ∃ (r' : ByteArray) (ws:List Nat),dv = .string r'∧wr.ownsRow (w.heap.size+1) 3 1 wv ws.length (ws.map dW)∧Dig B9 ws∧AllDig (aC r')∧aU (aC r)=val B9 ws+B9^ws.length*aU (aC r')∧r'.size+9*ws.length=r.size ∧
   Below w.heap.size w wr∧wr.heap[w.heap.size]?=some (.cells #[.bool false,.slice none 0 0] 154 (0,0))∧w.heap.size<wr.heap.size
set_option maxRecDepth 100000 in
theorem vK (r:ByteArray) (w:World) (hd:AllDig (aC r)) (h0:0<r.size) (hs:r.size≤100000):Calls Tryz.prog 161 #[.string r] w fun e w' => ∃ v,e = .returned v∧In w' v (gY false (aU (aC r)))∧Below w.heap.size w w':=by
 have HD:=aH (aI hd hs)
 have k0:(0:Int)<r.size:=by omega
 obtain ⟨c,hc⟩:∃ c:Nat,(r[0]'h0).toNat=c:=⟨_,rfl⟩
 have k45:((c:Int)==45)=false:=by
  have:=hd _ (List.mem_of_getElem? (cL h0))
  rw [hc] at this
  simp;omega
 clear hd hs
 go_enter Tryz.func161,Tryz.ntmps161
 go_wp2
 clear hc k45
 go_loopw [0,4] (fun dv wv wr=>ParseAt w r dv wv wr) (fun dv _ _=>nE dv)
 case atStart=>exact ⟨r,[],rfl,⟨rfl,.inl ⟨rfl,rfl⟩⟩,Dig.nil _,HD.out.1,by simp [val],by simp,(aB _ _).alloc (aR _) _,heap_alloc_new w _,by simp⟩
 case round =>
  obtain ⟨r',ws,rfl,hrow,hdw,hd',hval,hsz,hb,hh,hs⟩:=hrel
  have hr1:r'.size≤100000:=by have:=HD.out.2;omega
  have hw1:ws.length≤100000:=by have:=HD.out.2;omega
  by_cases h9:9<r'.size
  ·have k1:(9:Int)<r'.size:=by omega
   have k2:(r'.size:Int)≤100000:=by omega
   have hlt:aU (aC (r'.extract (r'.size-9) r'.size))<B9:=by
    have e1:aC (r'.extract (r'.size-9) r'.size)=(aC r').drop (r'.size-9):=by rw [aS,List.take_of_length_le (by rw [aE];exact aR _)]
    rw [e1]
    have h1:=gA (hd'.drop (r'.size-9))
    rw [List.length_drop,aE,show r'.size-(r'.size-9)=9 by omega] at h1
    exact h1
   have hnat:aU (aC r')=aU (aC (r'.extract 0 (r'.size-9)))*B9+aU (aC (r'.extract (r'.size-9) r'.size)):=by
    have e1:aC (r'.extract (r'.size-9) r'.size)=(aC r').drop (r'.size-9):=by rw [aS,List.take_of_length_le (by rw [aE];exact aR _)]
    have e2:aC (r'.extract 0 (r'.size-9))=(aC r').take (r'.size-9):=by rw [aS,List.drop_zero]
    rw [e1,e2]
    conv=>lhs;rw [← List.take_append_drop (r'.size-9) (aC r'),fE]
    rw [List.length_drop,aE,show r'.size-(r'.size-9)=9 by omega]
    rfl
   have cv:=aH (fun W=>mG (r'.extract (r'.size-9) r'.size) W (by rw [aS];exact (hd'.take _).drop _) (by simp;omega))
   obtain ⟨x,hx⟩:∃ x,x=aU (aC (r'.extract (r'.size-9) r'.size)):=⟨_,rfl⟩
   rw [← hx] at cv hlt hnat
   have hnext:ParseNext w r (r'.extract 0 (r'.size-9)) (ws ++ [x]):=by
    refine ⟨hdw.app (Dig.cons hlt (Dig.nil _)),by rw [aS,List.drop_zero];exact hd'.take _,?_,?_⟩
    ·rw [cI,List.length_append,List.length_singleton,Nat.pow_succ,hval,hnat]
     generalize aU (aC (r'.extract 0 (r'.size-9)))=m
     generalize B9^ws.length=P
     generalize B9=V
     grind
    ·rw [List.length_append,List.length_singleton];simp;omega
   have HE:=aH (aI hrow (aI hnext (aI hb (aI hh (aI hs (by omega:ws.length≤2199023255999))))))
   clear hrow hnext hb hh hs hdw hd' hval hsz hlt hnat hx hw1 hr1
   go_wp2_with fail
   refine (cv.out _).mono ?_
   rintro e w' ⟨rfl,rfl⟩
   go_wp2_with (at_builtin;refine fT (r:=x) (B:=w.heap.size) rfl _ _ rfl rfl HE.out.1 rfl HE.out.2.2.2.2.2 HE.out.2.2.1 (Nat.le_succ _) HE.out.2.2.2.2.1 ?_)
   intro v' w3 hr3 hbw hg3
   have hr3' : w3.ownsRow (w.heap.size+1) 3 1 v' (ws ++ [x]).length ((ws ++ [x]).map dW):=by
    rw [List.length_append,List.length_singleton,List.map_append];exact hr3
   have hh3:w3.heap[w.heap.size]?=some (.cells #[.bool false,.slice none 0 0] 154 (0,0)):=by
    have h2:=(Below.heap_alloc w' (.cells #[.int .i64 (x:Int)] 3) _ HE.out.2.2.2.2.1).trans HE.out.2.2.2.1
    refine fX hg3 h2 ?_
    intro he
    have:=mH HE.out.1 _ he.symm
    omega
   have hs3:w.heap.size<w3.heap.size:=by have:=hg3.size;have:=HE.out.2.2.2.2.1;simp at *;omega
   have HX:=aH (aI hr3' (aI hbw (aI hh3 hs3)))
   clear hr3 hr3' hbw hg3 hh3 hs3
   go_wp2
   go_roundw
   case rel =>
    obtain ⟨h1,h2,h3,h4⟩:=HE.out.2.1
    exact ⟨_,ws ++ [x],rfl,HX.out.1,h1,h2,h3,h4,HX.out.2.1,HX.out.2.2.1,HX.out.2.2.2⟩
   case measure =>
    clear HX HE
    simp [nE];omega
  ·have k1:¬ (9:Int)<r'.size:=by omega
   have cv:=aH (fun W=>mG r' W hd' (by omega))
   have hlt:aU (aC r')<B9:=by
    have h1:=gA hd'
    rw [aE] at h1
    refine Nat.lt_of_lt_of_le h1 ?_
    have:10^r'.size≤10^9:=Nat.pow_le_pow_right (by omega) (by omega)
    exact this
   obtain ⟨x,hx⟩:∃ x,x=aU (aC r'):=⟨_,rfl⟩
   rw [← hx] at cv hlt hval
   have hfin:gY false (val B9 (ws ++ [x]))=gY false (aU (aC r)):=by rw [cI,hval]
   have HE:=aH (aI hrow (aI hfin (aI hb (aI hh (aI hs (aI (by omega:ws.length≤2199023255999) (hdw.app (Dig.cons hlt (Dig.nil _)))))))))
   clear hrow hfin hb hh hs hdw hd' hval hsz hlt hx hw1 hr1 h9
   go_wp2_with fail
   refine (cv.out _).mono ?_
   rintro e w' ⟨rfl,rfl⟩
   go_wp2_with (at_builtin;refine fT (r:=x) (B:=w.heap.size) rfl _ _ rfl rfl HE.out.1 rfl HE.out.2.2.2.2.2.1 HE.out.2.2.1 (Nat.le_succ _) HE.out.2.2.2.2.1 ?_)
   intro v' w3 hr3 hbw hg3
   have hr3' : w3.ownsRow (w.heap.size+1) 3 1 v' (ws.length+1) ((ws ++ [x]).map dW):=by
    rw [List.map_append];exact hr3
   obtain ⟨A3,c3,rfl,hri⟩:=wJ hr3'
   have hh3:w3.heap[w.heap.size]?=some (.cells #[.bool false,.slice none 0 0] 154 (0,0)):=by
    have h2:=(Below.heap_alloc w' (.cells #[.int .i64 (x:Int)] 3) _ HE.out.2.2.2.2.1).trans HE.out.2.2.2.1
    refine fX hg3 h2 ?_
    intro he
    have:=mH HE.out.1 _ he.symm
    omega
   have hs3:w.heap.size<w3.heap.size:=by have:=hg3.size;have:=HE.out.2.2.2.2.1;simp at *;omega
   have HX:=aH (aI hri (aI hbw (aI hh3 hs3)))
   clear hr3 hr3' hbw hg3 hh3 hs3 hri
   go_wp2_with fail
   refine (kK false A3 _ c3 (ws ++ [x]) _ HX.out.1 HE.out.2.2.2.2.2.2).mono ?_
   rintro e w2 ⟨v,rfl,q,b⟩
   rw [HE.out.2.1] at q
   have hh2:w2.heap[w.heap.size]?=some (.cells #[.bool false,.slice none 0 0] 154 (0,0)):=(b.block _ HX.out.2.2.2).trans HX.out.2.2.1
   have hb2:Below w.heap.size w w2:=HX.out.2.1.trans (b.mono (Nat.le_of_lt HX.out.2.2.2))
   obtain ⟨A',n',c',xs',rfl,q'⟩:=id q
   have Q:=aH (aI q (aI hh2 hb2))
   clear q q' b hh2 hb2
   obtain ⟨⟨b0,b1⟩,f0,f1⟩:=blk2i Q.out.2.1
   go_wp2
   obtain ⟨q,hh2,hb2⟩:=Q.out
   obtain ⟨⟨g0,g1⟩,_⟩:=blk2i (uH hh2 (x := .bool (decide (gY false (aU (aC r))<0))) (y := .slice A' n' c'))
   refine bodyPost_ret (v := .agg #[.bool (decide (gY false (aU (aC r))<0)),.slice A' n' c']) (by simp [results,Tryz.results161,go_sem,g0,g1]) rfl ⟨_,rfl,q.set2 hh2 (fun n h=>by cases h) (fun n h=>by cases h),?_⟩
   exact (hb2.setCell (p:=⟨w.heap.size,0,none⟩) (aR _) _).setCell (p:=⟨w.heap.size,1,none⟩) (aR _) _
set_option maxRecDepth 100000 in
theorem parse_minus (r : ByteArray) (w : World) (hd:AllDig (aC r)) (hs:r.size≤100000):Calls Tryz.prog 161 #[.string (⟨#[45]⟩++r)] w fun e w' => ∃ v,e = .returned v∧In w' v (gY true (aU (aC r)))∧Below w.heap.size w w':=by
 have HD:=aH (aI hd hs)
 obtain ⟨s,hs'⟩:∃ s,s=(⟨#[45]⟩++r:ByteArray):=⟨_,rfl⟩
 have hsz : s.size = r.size + 1 := by rw [hs',ByteArray.size_append];have:(⟨#[45]⟩:ByteArray).size=1:=rfl
                                      omega
 have h0:0<s.size:=by omega
 have k0:(0:Int)<s.size:=by omega
 have k1:(s.size:Int)≤100001:=by omega
 have hbs:aC s=45::aC r:=by rw [hs'];simp [aC]
 have hc:(s[0]'h0).toNat=45:=by
  have h1:=cL h0
  rw [hbs] at h1
  simp at h1
  rw [← h1];rfl
 have hext:s.extract 1 (r.size+1)=r:=by
  subst hs'
  apply Ab.ba_ext
  simp [hsz]
  exact List.take_of_length_le (Nat.le_of_eq rfl)
 rw [← hs']
 clear hd hs hs' hbs
 go_enter Tryz.func161,Tryz.ntmps161
 go_wp2
 try rw [hext]
 clear hc hext
 go_loopw [0,4] (fun dv wv wr=>ParseAt w r dv wv wr) (fun dv _ _=>nE dv)
 case atStart=>exact ⟨r,[],rfl,⟨rfl,.inl ⟨rfl,rfl⟩⟩,Dig.nil _,HD.out.1,by simp [val],by simp,(aB _ _).alloc (aR _) _,heap_alloc_new w _,by simp⟩
 case round =>
  obtain ⟨r',ws,rfl,hrow,hdw,hd',hval,hsz,hb,hh,hs⟩:=hrel
  have hr1:r'.size≤100000:=by have:=HD.out.2;omega
  have hw1:ws.length≤100000:=by have:=HD.out.2;omega
  by_cases h9:9<r'.size
  ·have k1:(9:Int)<r'.size:=by omega
   have k2:(r'.size:Int)≤100000:=by omega
   have hlt:aU (aC (r'.extract (r'.size-9) r'.size))<B9:=by
    have e1:aC (r'.extract (r'.size-9) r'.size)=(aC r').drop (r'.size-9):=by rw [aS,List.take_of_length_le (by rw [aE];exact aR _)]
    rw [e1]
    have h1:=gA (hd'.drop (r'.size-9))
    rw [List.length_drop,aE,show r'.size-(r'.size-9)=9 by omega] at h1
    exact h1
   have hnat:aU (aC r')=aU (aC (r'.extract 0 (r'.size-9)))*B9+aU (aC (r'.extract (r'.size-9) r'.size)):=by
    have e1:aC (r'.extract (r'.size-9) r'.size)=(aC r').drop (r'.size-9):=by rw [aS,List.take_of_length_le (by rw [aE];exact aR _)]
    have e2:aC (r'.extract 0 (r'.size-9))=(aC r').take (r'.size-9):=by rw [aS,List.drop_zero]
    rw [e1,e2]
    conv=>lhs;rw [← List.take_append_drop (r'.size-9) (aC r'),fE]
    rw [List.length_drop,aE,show r'.size-(r'.size-9)=9 by omega]
    rfl
   have cv:=aH (fun W=>mG (r'.extract (r'.size-9) r'.size) W (by rw [aS];exact (hd'.take _).drop _) (by simp;omega))
   obtain ⟨x,hx⟩:∃ x,x=aU (aC (r'.extract (r'.size-9) r'.size)):=⟨_,rfl⟩
   rw [← hx] at cv hlt hnat
   have hnext:ParseNext w r (r'.extract 0 (r'.size-9)) (ws ++ [x]):=by
    refine ⟨hdw.app (Dig.cons hlt (Dig.nil _)),by rw [aS,List.drop_zero];exact hd'.take _,?_,?_⟩
    ·rw [cI,List.length_append,List.length_singleton,Nat.pow_succ,hval,hnat]
     generalize aU (aC (r'.extract 0 (r'.size-9)))=m
     generalize B9^ws.length=P
     generalize B9=V
     grind
    ·rw [List.length_append,List.length_singleton];simp;omega
   have HE:=aH (aI hrow (aI hnext (aI hb (aI hh (aI hs (by omega:ws.length≤2199023255999))))))
   clear hrow hnext hb hh hs hdw hd' hval hsz hlt hnat hx hw1 hr1
   go_wp2_with fail
   refine (cv.out _).mono ?_
   rintro e w' ⟨rfl,rfl⟩
   go_wp2_with (at_builtin;refine fT (r:=x) (B:=w.heap.size) rfl _ _ rfl rfl HE.out.1 rfl HE.out.2.2.2.2.2 HE.out.2.2.1 (Nat.le_succ _) HE.out.2.2.2.2.1 ?_)
   intro v' w3 hr3 hbw hg3
   have hr3' : w3.ownsRow (w.heap.size+1) 3 1 v' (ws ++ [x]).length ((ws ++ [x]).map dW):=by
    rw [List.length_append,List.length_singleton,List.map_append];exact hr3
   have hh3:w3.heap[w.heap.size]?=some (.cells #[.bool false,.slice none 0 0] 154 (0,0)):=by
    have h2:=(Below.heap_alloc w' (.cells #[.int .i64 (x:Int)] 3) _ HE.out.2.2.2.2.1).trans HE.out.2.2.2.1
    refine fX hg3 h2 ?_
    intro he
    have:=mH HE.out.1 _ he.symm
    omega
   have hs3:w.heap.size<w3.heap.size:=by have:=hg3.size;have:=HE.out.2.2.2.2.1;simp at *;omega
   have HX:=aH (aI hr3' (aI hbw (aI hh3 hs3)))
   clear hr3 hr3' hbw hg3 hh3 hs3
   go_wp2
   go_roundw
   case rel =>
    obtain ⟨h1,h2,h3,h4⟩:=HE.out.2.1
    exact ⟨_,ws ++ [x],rfl,HX.out.1,h1,h2,h3,h4,HX.out.2.1,HX.out.2.2.1,HX.out.2.2.2⟩
   case measure =>
    clear HX HE
    simp [nE];omega
  ·have k1:¬ (9:Int)<r'.size:=by omega
   have cv:=aH (fun W=>mG r' W hd' (by omega))
   have hlt:aU (aC r')<B9:=by
    have h1:=gA hd'
    rw [aE] at h1
    refine Nat.lt_of_lt_of_le h1 ?_
    have:10^r'.size≤10^9:=Nat.pow_le_pow_right (by omega) (by omega)
    exact this
   obtain ⟨x,hx⟩:∃ x,x=aU (aC r'):=⟨_,rfl⟩
   rw [← hx] at cv hlt hval
   have hfin:gY true (val B9 (ws ++ [x]))=gY true (aU (aC r)):=by rw [cI,hval]
   have HE:=aH (aI hrow (aI hfin (aI hb (aI hh (aI hs (aI (by omega:ws.length≤2199023255999) (hdw.app (Dig.cons hlt (Dig.nil _)))))))))
   clear hrow hfin hb hh hs hdw hd' hval hsz hlt hx hw1 hr1 h9
   go_wp2_with fail
   refine (cv.out _).mono ?_
   rintro e w' ⟨rfl,rfl⟩
   go_wp2_with (at_builtin;refine fT (r:=x) (B:=w.heap.size) rfl _ _ rfl rfl HE.out.1 rfl HE.out.2.2.2.2.2.1 HE.out.2.2.1 (Nat.le_succ _) HE.out.2.2.2.2.1 ?_)
   intro v' w3 hr3 hbw hg3
   have hr3' : w3.ownsRow (w.heap.size+1) 3 1 v' (ws.length+1) ((ws ++ [x]).map dW):=by
    rw [List.map_append];exact hr3
   obtain ⟨A3,c3,rfl,hri⟩:=wJ hr3'
   have hh3:w3.heap[w.heap.size]?=some (.cells #[.bool false,.slice none 0 0] 154 (0,0)):=by
    have h2:=(Below.heap_alloc w' (.cells #[.int .i64 (x:Int)] 3) _ HE.out.2.2.2.2.1).trans HE.out.2.2.2.1
    refine fX hg3 h2 ?_
    intro he
    have:=mH HE.out.1 _ he.symm
    omega
   have hs3:w.heap.size<w3.heap.size:=by have:=hg3.size;have:=HE.out.2.2.2.2.1;simp at *;omega
   have HX:=aH (aI hri (aI hbw (aI hh3 hs3)))
   clear hr3 hr3' hbw hg3 hh3 hs3 hri
   go_wp2_with fail
   refine (kK true A3 _ c3 (ws ++ [x]) _ HX.out.1 HE.out.2.2.2.2.2.2).mono ?_
   rintro e w2 ⟨v,rfl,q,b⟩
   rw [HE.out.2.1] at q
   have hh2:w2.heap[w.heap.size]?=some (.cells #[.bool false,.slice none 0 0] 154 (0,0)):=(b.block _ HX.out.2.2.2).trans HX.out.2.2.1
   have hb2:Below w.heap.size w w2:=HX.out.2.1.trans (b.mono (Nat.le_of_lt HX.out.2.2.2))
   obtain ⟨A',n',c',xs',rfl,q'⟩:=id q
   have Q:=aH (aI q (aI hh2 hb2))
   clear q q' b hh2 hb2
   obtain ⟨⟨b0,b1⟩,f0,f1⟩:=blk2i Q.out.2.1
   go_wp2
   obtain ⟨q,hh2,hb2⟩:=Q.out
   obtain ⟨⟨g0,g1⟩,_⟩:=blk2i (uH hh2 (x := .bool (decide (gY true (aU (aC r))<0))) (y := .slice A' n' c'))
   refine bodyPost_ret (v := .agg #[.bool (decide (gY true (aU (aC r))<0)),.slice A' n' c']) (by simp [results,Tryz.results161,go_sem,g0,g1]) rfl ⟨_,rfl,q.set2 hh2 (fun n h=>by cases h) (fun n h=>by cases h),?_⟩
   exact (hb2.setCell (p:=⟨w.heap.size,0,none⟩) (aR _) _).setCell (p:=⟨w.heap.size,1,none⟩) (aR _) _
end
namespace Ab
open Go.RowKit Pl
theorem gM (n:Nat):AllDig (aC (decB n)):=by
 have:aC (decB n)=Lib.decDigits n:=dC n
 rw [this];exact (cB n).2.1
theorem gN (n:Nat):aU (aC (decB n))=n:=by
 have:aC (decB n)=Lib.decDigits n:=dC n
 rw [this];exact (cB n).1
theorem yQ (n:Nat):0<(decB n).size:=by
 have h:(decB n).size=(Lib.decDigits n).length:=by simp [decB,ByteArray.size]
 rw [h];exact List.length_pos_iff.2 (cB n).2.2
theorem pz_of {β:List Nat} {v:Value} {w:World} {d:Nat} (h:In w v (d:Int)):(pz d).holds β v w:=by
 obtain ⟨A,n,c,xs,rfl,hr,hd,hn,hv⟩:=h
 have e:decide ((d:Int)<0)=false:=decide_eq_false (wK d)
 rw [e]
 exact ⟨[.bool false,.slice A n c],rfl,[.bool false],_,rfl,⟨rfl,rfl⟩,[.slice A n c],[],rfl,⟨_,rfl,A,n,c,xs,rfl,hr,hd,hn,by simpa using hv⟩,rfl⟩
theorem parseF {z:Int} (hz:(decB z.natAbs).size≤100000):jF 161 [rS (aQ z)] (iz z):=by
 intro β w vs hv
 obtain ⟨v,rfl,h1⟩:=dH hv
 rw [bB h1]
 unfold aQ
 split
 ·rename_i h
  refine (parse_minus (decB z.natAbs) w (gM _) hz).mono fun e w' ⟨v,e1,e2,e3⟩=>⟨v,e1,e3,mJ.2 ?_⟩
  rw [gN] at e2
  have:gY true z.natAbs=z:=by simp [gY];omega
  rwa [this] at e2
 ·rename_i h
  refine (vK (decB z.natAbs) w (gM _) (yQ _) hz).mono fun e w' ⟨v,e1,e2,e3⟩=>⟨v,e1,e3,mJ.2 ?_⟩
  rw [gN] at e2
  have:gY false z.natAbs=z:=by simp [gY];omega
  rwa [this] at e2
theorem parseDF {d:Nat} (hz:(decB d).size≤100000):jF 161 [rS (decB d)] (pz d):=by
 intro β w vs hv
 obtain ⟨v,rfl,h1⟩:=dH hv
 rw [bB h1]
 refine (vK (decB d) w (gM _) (yQ _) hz).mono fun e w' ⟨v,e1,e2,e3⟩=>⟨v,e1,e3,pz_of ?_⟩
 rw [gN] at e2
 exact e2
theorem wholeOneF:jF 162 [.fv (.sc (.lit (.int .i64 1)))] (pz 1):=by
 intro β w vs hv
 obtain ⟨v,rfl,h1⟩:=dH hv
 rw [bY h1]
 exact (whole_any 1 w (by constructor <;> omega)).mono fun e w' ⟨v,e1,e2,e3⟩=>⟨v,e1,e3,pz_of e2⟩
theorem fB {s:ByteArray} (hs:s.size≤9223372036854775807):jF 106 [rS s] (rI (aJ s:Nat)):=by
 intro β w vs hv
 obtain ⟨v,rfl,h1⟩:=dH hv
 rw [bB h1]
 exact (slash_any s w hs).mono fun e w' ⟨e1,e2⟩=>⟨_,e1,by rw [e2];exact aB _ _,cQ⟩
theorem sT {o:Oper} {ρ:Operand→Value} {w:World} {t:Tmp} {T:TypeId} {s:ByteArray} (ho:o.op = .call ⟨.builtin .len,#[.tmp t],#[T]⟩) (hT:Tryz.prog.underlying T=some .string) (hx:ρ (.tmp t) = .string s) :
 (execOp ρ o).run Tryz.prog w = .ok (.value (.int .i64 s.size)) w:=wH ho hT hx
theorem oS {o:Oper} {ρ:Operand→Value} {w:World} {T:TypeId} {x y:Operand} {s:ByteArray} {k:Nat} (ho:o.op = .slice T x none (some y) none) (hT:Tryz.prog.underlying T=some .string) (hx:ρ x = .string s) (hy:ρ y = .int .i64 (k:Int)) (hk:k≤s.size) :
 (execOp ρ o).run Tryz.prog w = .ok (.value (.string (s.extract 0 k))) w:=by
 simp only [execOp,ho,hx]
 refine bI ?_
 have h1:(k:Int)≤s.size:=by omega
 simp only [Option.map,hy]
 rw [run_sliceAt_string w _ _ _ _ _ hT]
 simp [Instr.slice,run_underlying hT,Instr.sliceBounds,run_sliceBound,h1,hk]
theorem oT {o:Oper} {ρ:Operand→Value} {w:World} {T:TypeId} {x y:Operand} {s:ByteArray} {k:Nat} (ho:o.op = .slice T x (some y) none none) (hT:Tryz.prog.underlying T=some .string) (hx:ρ x = .string s) (hy:ρ y = .int .i64 (k:Int)) (hk:k≤s.size) :
 (execOp ρ o).run Tryz.prog w = .ok (.value (.string (s.extract k s.size))) w:=by
 simp only [execOp,ho,hx]
 refine bI ?_
 have h1:(k:Int)≤s.size:=by omega
 simp only [Option.map,hy]
 rw [run_sliceAt_string w _ _ _ _ _ hT]
 simp [Instr.slice,run_underlying hT,Instr.sliceBounds,run_sliceBound,h1,hk]
theorem sU {o:Oper} {ρ:Operand→Value} {w:World} {x:Operand} {a:Nat} (ho:o.op = .binOp .add 3 x (.const (.int .i64 1)) 3) (hx:ρ x = .int .i64 (a:Int)) (hy:ρ (.const (.int .i64 1)) = .int .i64 1) (ha:a<9223372036854775807) :
 (execOp ρ o).run Tryz.prog w = .ok (.value (.int .i64 ((a+1:Nat):Int))) w:=by
 simp only [execOp,ho,hx,hy]
 refine bI ?_
 have e:IntKind.i64.wrap ((a:Int)+1)=((a+1:Nat):Int):=by
  rw [IntWalk.i64_left,IntWalk.wrap64_in _ ⟨by omega,by omega⟩];omega
 simp [go_sem,e]
theorem jZ {q:Rat} (h:q.den=1):writeB q=aQ q.num:=by
 unfold writeB aQ overB
 rw [if_pos h]
theorem fC {q:Rat} (h:q.den≠1):writeB q=aQ q.num++(⟨#[47]⟩++decB q.den):=by
 unfold writeB aQ overB
 rw [if_neg h]
theorem dig47 {l:List UInt8} (h:AllDig l):∀ c∈l,(c==47)=false:=by
 intro c hc
 have:=h c hc
 rw [beq_eq_false_iff_ne]
 rintro rfl
 revert this
 decide
theorem text47 (z:Int):∀ c∈aC (aQ z),(c==47)=false:=by
 unfold aQ
 split
 ·intro c hc
  have e:aC (⟨#[45]⟩++decB z.natAbs:ByteArray)=45::aC (decB z.natAbs):=by simp [aC]
  rw [e] at hc
  rcases List.mem_cons.1 hc with rfl|hc
  ·rfl
  ·exact dig47 (gM _) c hc
 ·exact dig47 (gM _)
theorem uJ (z:Int):aJ (aQ z)=(aQ z).size:=by
 unfold aJ
 rw [← aE,List.findIdx_eq_length]
 exact text47 z
theorem uK (z:Int) (r:ByteArray):aJ (aQ z++(⟨#[47]⟩++r))=(aQ z).size:=by
 unfold aJ
 have e:aC (aQ z++(⟨#[47]⟩++r))=aC (aQ z)++47::aC r:=by simp [aC]
 rw [e,List.findIdx_append,if_neg (by
  rw [Nat.not_lt,Nat.le_iff_lt_or_eq]
  right
  exact ((List.findIdx_eq_length).2 (text47 z)).symm),List.findIdx_cons]
 simp [← aE]
theorem ext_lo (a b:ByteArray):(a++b).extract 0 a.size=a:=by
 apply ba_ext
 simp
 exact List.take_of_length_le (Nat.le_of_eq rfl)
theorem ext_hi (a b:ByteArray):(a++(⟨#[47]⟩++b)).extract (a.size+1) (a++(⟨#[47]⟩++b)).size=b:=by
 have h:aC ((a++(⟨#[47]⟩++b)).extract (a.size+1) (a++(⟨#[47]⟩++b)).size)=aC b:=by
  rw [aS,List.take_of_length_le (by rw [aE];exact aR _)]
  have e:aC (a++(⟨#[47]⟩++b))=aC a++47::aC b:=by simp [aC]
  rw [e,List.drop_append,List.drop_of_length_le (by rw [aE];omega),List.nil_append,aE,Nat.add_sub_cancel_left]
  rfl
 exact ba_ext h
abbrev prt (q:Rat):AV Kr := .tup [.ag [rB (decide (q.num<0)),.sp (pS q.num.natAbs)],.ag [.lit (.bool false),.sp (pS q.den)]]
theorem yR {q:Rat} (hn:(decB q.num.natAbs).size≤100000) (hd:(decB q.den).size≤100000):jF 108 [rS (writeB q)] (prt q):=by
 have hts:(aQ q.num).size≤100001:=by
  unfold aQ
  split
  ·rw [ByteArray.size_append]
   have:(⟨#[45]⟩:ByteArray).size=1:=rfl
   omega
  ·omega
 by_cases h1:q.den=1
 ·have e1:q.den=1:=h1
  rw [jZ h1]
  have hsl:=uJ q.num
  have hres:prt q = .tup [.ag [rB (decide (q.num<0)),.sp (pS q.num.natAbs)],.ag [.lit (.bool false),.sp (pS 1)]]:=by show AV.tup _=AV.tup _;rw [e1]
  rw [hres]
  generalize hs:aQ q.num=s at *
  refine jT Tryz.func108 fun w00=>?_
  refine jB 106 [rS s] (fB (by omega)) ?_
  refine jL (.call ⟨.builtin .len,#[.tmp 10],#[9]⟩) (.tmp 10) (.tmp 10) (rS s) (rS s) (rI s.size) (fun ρ o β w ho hx _=>⟨_,sT ho Tryz.underlying9 (bB hx),cQ⟩) ?_
  refine jL (.binOp .eql 3 (.tmp 9) (.tmp 11) 3) (.tmp 9) (.tmp 11) (rI (aJ s:Nat)) (rI s.size) (rl true) (fun ρ o β w ho hx hy=>⟨.bool true,jJ ho (bB hx) (bB hy) (by rw [hsl];simp),fA rfl⟩) ?_
  refine jB 161 [rS s] (by rw [← hs];exact parseF hn) ?_
  refine jB 162 [.fv (.sc (.lit (.int .i64 1)))] wholeOneF ?_
  exact jS Tryz.func108
 ·rw [fC h1]
  have hsl:=uK q.num (decB q.den)
  have hx1:=ext_lo (aQ q.num) (⟨#[47]⟩++decB q.den)
  have hx2:=ext_hi (aQ q.num) (decB q.den)
  have hsz:(aQ q.num++(⟨#[47]⟩++decB q.den):ByteArray).size=(aQ q.num).size+1+(decB q.den).size:=by
   rw [ByteArray.size_append,ByteArray.size_append]
   have:(⟨#[47]⟩:ByteArray).size=1:=rfl
   omega
  generalize hs:(aQ q.num++(⟨#[47]⟩++decB q.den):ByteArray)=s at *
  generalize hk:(aQ q.num).size=k at *
  refine jT Tryz.func108 fun w00=>?_
  refine jB 106 [rS s] (fB (by omega)) ?_
  refine jL (.call ⟨.builtin .len,#[.tmp 10],#[9]⟩) (.tmp 10) (.tmp 10) (rS s) (rS s) (rI s.size) (fun ρ o β w ho hx _=>⟨_,sT ho Tryz.underlying9 (bB hx),cQ⟩) ?_
  refine jL (.binOp .eql 3 (.tmp 9) (.tmp 11) 3) (.tmp 9) (.tmp 11) (rI (aJ s:Nat)) (rI s.size) (rl false) (fun ρ o β w ho hx hy=>⟨.bool false,jJ ho (bB hx) (bB hy) (by rw [hsl,hsz];simp;omega),fA rfl⟩) ?_
  refine jL (.slice 9 (.tmp 16) none (some (.tmp 17)) none) (.tmp 16) (.tmp 17) (rS s) (rI (aJ s:Nat)) (rS (aQ q.num)) (fun ρ o β w ho hx hy=>?_) ?_
  ·have:=oS (w:=w) ho Tryz.underlying9 (bB hx) (by have:=bB hy;rwa [hsl] at this) (by omega)
   rw [hx1] at this
   exact ⟨_,this,cQ⟩
  refine jB 161 [rS (aQ q.num)] (parseF hn) ?_
  refine jL (.binOp .add 3 (.tmp 21) (.const (.int .i64 1)) 3) (.tmp 21) (.const (.int .i64 1)) (rI (aJ s:Nat)) (.fv (.sc (.lit (.int .i64 1)))) (rI ((k+1:Nat):Int)) (fun ρ o β w ho hx hy=>⟨_,sU ho (by have:=bB hx;rwa [hsl] at this) (bY hy) (by omega),cQ⟩) ?_
  refine jL (.slice 9 (.tmp 20) (some (.tmp 22)) none none) (.tmp 20) (.tmp 22) (rS s) (rI ((k+1:Nat):Int)) (rS (decB q.den)) (fun ρ o β w ho hx hy=>?_) ?_
  ·have:=oT (w:=w) ho Tryz.underlying9 (bB hx) (bB hy) (by omega)
   rw [hx2] at this
   exact ⟨_,this,cQ⟩
  refine jB 161 [rS (decB q.den)] (parseDF hd) ?_
  exact jS Tryz.func108
theorem sV (n:Int) {d:Nat} (h:d≠0):(mkRat n d).num=n/(Nat.gcd n.natAbs d:Nat)∧(mkRat n d).den=d/Nat.gcd n.natAbs d:=by
 rw [← Rat.normalize_eq_mkRat h,Rat.normalize_eq]
 exact ⟨rfl,rfl⟩
theorem sgz_div (n:Int) {g:Nat} (hg:g ∣ n.natAbs) (h0:0<g):gY (decide (n<0)) (n.natAbs/g)=n/(g:Int):=by
 obtain ⟨k,hk⟩:=hg
 have e:n.natAbs/g=k:=by rw [hk];exact Nat.mul_div_cancel_left _ h0
 rw [e]
 unfold gY
 split
 ·rename_i h
  have hn:n=(g:Int)*(-(k:Int)):=by
   have:n = -(n.natAbs:Int):=by simp at h;omega
   rw [this,hk];simp [Int.mul_neg]
  rw [hn,Int.mul_ediv_cancel_left _ (by omega)]
 ·rename_i h
  have hn:n=(g:Int)*(k:Int):=by
   have:n=(n.natAbs:Int):=by simp at h;omega
   rw [this,hk];simp
  rw [hn,Int.mul_ediv_cancel_left _ (by omega)]
theorem cE (d:Nat):aQ (d:Int)=decB d:=by unfold aQ;rw [if_neg (wK d)];rfl
theorem rG (n:Int) {d:Nat} (h:0<d):(if d/Nat.gcd n.natAbs d=1 then aQ (gY (decide (n<0)) (n.natAbs/Nat.gcd n.natAbs d)) else aQ (gY (decide (n<0)) (n.natAbs/Nat.gcd n.natAbs d))++⟨#[47]⟩++aQ ((d/Nat.gcd n.natAbs d:Nat):Int))=writeB (mkRat n d):=by
 obtain ⟨e1,e2⟩:=sV n (Nat.ne_of_gt h)
 have hg:0<Nat.gcd n.natAbs d:=Nat.gcd_pos_of_pos_right _ h
 rw [sgz_div n (Nat.gcd_dvd_left _ _) hg,← e1,← e2,cE]
 split
 ·rename_i h1;rw [jZ h1]
 ·rename_i h1;rw [fC h1,ByteArray.append_assoc]
theorem rargs {P:Program} {f:FuncId} {l l' : List (AV Kr)} {x:AV Kr} (h:Fits P f l x) (hl:∀ β vs w,holdsA β l' vs w→holdsA β l vs w):Fits P f l' x:=fun β w vs hv=>h β w vs (hl β vs w hv)
theorem mM {P:Program} {f:FuncId} {l:List (AV Kr)} {x y:AV Kr} (h:Fits P f l x) (hl:∀ β v w,x.holds β v w→y.holds β v w):Fits P f l y:=fun β w vs hv=>(h β w vs hv).mono fun _ _ ⟨v,e1,e2,e3⟩=>⟨v,e1,e2,hl β v _ e3⟩
theorem pz_iz {β:List Nat} {v:Value} {w:World} {d:Nat} (h:(pz d).holds β v w):(iz (d:Int)).holds β v w:=by
 obtain ⟨cs,rfl,a,r,rfl,h1,b,r2,rfl,h2,h3⟩:=h
 have h1':=h1.1
 subst h1'
 refine ⟨_,rfl,[.bool false],_,rfl,?_,b,r2,rfl,?_,h3⟩
 ·show [Value.bool false] = [.bool (decide ((d:Int)<0))]
  rw [decide_eq_false (wK d)]
 ·obtain ⟨u,e,hu⟩:=h2
  exact ⟨u,e,by simpa using hu⟩
theorem iz_pz {β:List Nat} {v:Value} {w:World} {d:Nat} (h:(iz (d:Int)).holds β v w):(pz d).holds β v w:=pz_of (mJ.1 h)
theorem timesZP {a:Int} {b:Nat} (ha:Bd a.natAbs) (hb:Bd b):jF 119 [iz a,pz b] (iz (a*b)) :=
 rargs (timesZ ha (by simpa using hb)) fun β vs w ⟨v,r,e,h1,u,r2,e2,h2,h3⟩=>⟨v,r,e,h1,u,r2,e2,pz_iz h2,h3⟩
theorem timesPP {a b:Nat} (ha:Bd a) (hb:Bd b):jF 119 [pz a,pz b] (pz (a*b)) :=
 mM (rargs (timesZ (a:=(a:Int)) (b:=(b:Int)) (by simpa using ha) (by simpa using hb)) fun β vs w ⟨v,r,e,h1,u,r2,e2,h2,h3⟩=>⟨v,r,e,pz_iz h1,u,r2,e2,pz_iz h2,h3⟩)
  fun β v w h=>iz_pz (d:=a*b) (by simpa using h)
abbrev rU (n:Nat):AV Kr := .fv (.sc (.sp (iN (.int .u8 (n:Int)) rfl true (fun _=>rfl))))
theorem index_s {o:Oper} {ρ:Operand→Value} {w:World} {t:Tmp} {s:ByteArray} {c:Nat} (ho:o.op = .index 9 (.tmp t) (.const (.int .i64 0))) (hx:ρ (.tmp t) = .string s) (hy:ρ (.const (.int .i64 0)) = .int .i64 0) (hc:∃ h:0<s.size,(s[0]'h).toNat=c) :
 (execOp ρ o).run Tryz.prog w = .ok (.value (.int .u8 (c:Int))) w:=by
 obtain ⟨h,hc⟩:=hc
 simp only [execOp,ho,hx,hy]
 refine bI ?_
 have h0:¬ s.size=0:=by omega
 simp [go_sem,run_underlying Tryz.underlying9,h,h0,hc]
theorem ueq_run {o:Oper} {ρ:Operand→Value} {w:World} {x y:Operand} {a b:Int} {r:Bool} (ho:o.op = .binOp .eql 5 x y 5) (hx:ρ x = .int .u8 a) (hy:ρ y = .int .u8 b) (h:(a==b)=r) :
 (execOp ρ o).run Tryz.prog w = .ok (.value (.bool r)) w:=by
 simp only [execOp,ho,hx,hy]
 refine bI ?_
 rw [← h]
 exact bO (by kernel_rfl) w
theorem subn_run {o:Oper} {ρ:Operand→Value} {w:World} {x y:Operand} {a b:Nat} (ho:o.op = .binOp .sub 3 x y 3) (hx:ρ x = .int .i64 (a:Int)) (hy:ρ y = .int .i64 (b:Int)) (hle:b≤a) (ha:a≤9223372036854775807) :
 (execOp ρ o).run Tryz.prog w = .ok (.value (.int .i64 ((a-b:Nat):Int))) w:=by
 simp only [execOp,ho,hx,hy]
 refine bI ?_
 have e:IntKind.i64.wrap ((a:Int)-b)=((a-b:Nat):Int):=by
  rw [IntWalk.i64_left,IntWalk.wrap64_in _ ⟨by omega,by omega⟩];omega
 simp [go_sem,e]
theorem lss_run {o:Oper} {ρ:Operand→Value} {w:World} {x y:Operand} {a b:Int} {r:Bool} (ho:o.op = .binOp .lss 3 x y 3) (hx:ρ x = .int .i64 a) (hy:ρ y = .int .i64 b) (h:decide (a<b)=r) :
 (execOp ρ o).run Tryz.prog w = .ok (.value (.bool r)) w:=by
 simp only [execOp,ho,hx,hy]
 refine bI ?_
 rw [← h]
 exact bO (by kernel_rfl) w
theorem index_26 {o:Oper} {ρ:Operand→Value} {w:World} {t:Tmp} {s:ByteArray} {c:Nat} (ho:o.op = .index 23 (.tmp t) (.const (.int .i64 0))) (hx:ρ (.tmp t) = .string s) (hy:ρ (.const (.int .i64 0)) = .int .i64 0) (hc:∃ h:0<s.size,(s[0]'h).toNat=c) :
 (execOp ρ o).run Tryz.prog w = .ok (.value (.int .u8 (c:Int))) w:=by
 obtain ⟨h,hc⟩:=hc
 simp only [execOp,ho,hx,hy]
 refine bI ?_
 have h0:¬ s.size=0:=by omega
 simp [go_sem,run_underlying Tryz.underlying23,h,h0,hc]
section
variable {f:FuncId} {w00:World} {Out:Value→World→Prop} {c:Cfg Kr}
abbrev rli (n:Int):AV Kr := .fv (.sc (.lit (.int .i64 n)))
theorem dR (t:Tmp) (T:TypeId) (hT:Tryz.prog.underlying T=some .string) (s:ByteArray) (hg:Ok Tryz.prog f w00 Out (cJ Tryz.prog 1000 (c.give (rI (s.size:Nat)))))
 (hc:(c.op.map fun o=>o.op,c.okT (rI (s.size:Nat)),c.ev (.tmp t),c.ev (.tmp t))=(some (.call ⟨.builtin .len,#[.tmp t],#[T]⟩),true,(rS s),(rS s)):=by kernel_rfl):Ok Tryz.prog f w00 Out c :=
 rE (.call ⟨.builtin .len,#[.tmp t],#[T]⟩) (.tmp t) (.tmp t) (rS s) (rS s) (rI (s.size:Nat)) hc (by simp [Op.operands,Call.operands]) (by simp [Op.operands,Call.operands]) (fun ρ o β w ho hx hy=>⟨_,sT ho hT (bB hx),cQ⟩) hg
theorem iX (t:Tmp) (n a:Int) (r:Bool) (h:decide (n<a)=r) (hg:Ok Tryz.prog f w00 Out (cJ Tryz.prog 1000 (c.give (rl r))))
 (hc:(c.op.map fun o=>o.op,c.okT (rl r),c.ev (.tmp t),c.ev (.const (.int .i64 n)))=(some (.binOp .gtr 3 (.tmp t) (.const (.int .i64 n)) 3),true,(rI a),(rli n)):=by kernel_rfl):Ok Tryz.prog f w00 Out c :=
 rE (.binOp .gtr 3 (.tmp t) (.const (.int .i64 n)) 3) (.tmp t) (.const (.int .i64 n)) (rI a) (rli n) (rl r) hc (by simp [Op.operands]) (by simp [Op.operands]) (fun ρ o β w ho hx hy=>⟨_,yE ho (bB hx) (bY hy) h,fA rfl⟩) hg
theorem ridn (t:Tmp) (s:ByteArray) (h:∃ h:0<s.size,(s[0]'h).toNat=45) (hg:Ok Tryz.prog f w00 Out (cJ Tryz.prog 1000 (c.give (.fv (.sc (.lit (.int .u8 45)))))))
 (hc:(c.op.map fun o=>o.op,c.okT (.fv (.sc (.lit (.int .u8 45)))),c.ev (.tmp t),c.ev (.const (.int .i64 0)))=(some (.index 9 (.tmp t) (.const (.int .i64 0))),true,(rS s),(rli 0)):=by kernel_rfl):Ok Tryz.prog f w00 Out c :=
 rE (.index 9 (.tmp t) (.const (.int .i64 0))) (.tmp t) (.const (.int .i64 0)) (rS s) (rli 0) (.fv (.sc (.lit (.int .u8 45)))) hc (by simp [Op.operands]) (by simp [Op.operands]) (fun ρ o β w ho hx hy=>⟨_,index_s ho (bB hx) (bY hy) h,fA rfl⟩) hg
theorem ridp (t:Tmp) (s:ByteArray) (n:Nat) (h:∃ h:0<s.size,(s[0]'h).toNat=n) (hg:Ok Tryz.prog f w00 Out (cJ Tryz.prog 1000 (c.give (rU n))))
 (hc:(c.op.map fun o=>o.op,c.okT (rU n),c.ev (.tmp t),c.ev (.const (.int .i64 0)))=(some (.index 9 (.tmp t) (.const (.int .i64 0))),true,(rS s),(rli 0)):=by kernel_rfl):Ok Tryz.prog f w00 Out c :=
 rE (.index 9 (.tmp t) (.const (.int .i64 0))) (.tmp t) (.const (.int .i64 0)) (rS s) (rli 0) (rU n) hc (by simp [Op.operands]) (by simp [Op.operands]) (fun ρ o β w ho hx hy=>⟨_,index_s ho (bB hx) (bY hy) h,cQ⟩) hg
theorem ridnR (t:Tmp) (s:ByteArray) (h:∃ h:0<s.size,(s[0]'h).toNat=45) (hg:Ok Tryz.prog f w00 Out (cJ Tryz.prog 1000 (c.give (.fv (.sc (.lit (.int .u8 45)))))))
 (hc:(c.op.map fun o=>o.op,c.okT (.fv (.sc (.lit (.int .u8 45)))),c.ev (.tmp t),c.ev (.const (.int .i64 0)))=(some (.index 23 (.tmp t) (.const (.int .i64 0))),true,(rS s),(rli 0)):=by kernel_rfl):Ok Tryz.prog f w00 Out c :=
 rE (.index 23 (.tmp t) (.const (.int .i64 0))) (.tmp t) (.const (.int .i64 0)) (rS s) (rli 0) (.fv (.sc (.lit (.int .u8 45)))) hc (by simp [Op.operands]) (by simp [Op.operands]) (fun ρ o β w ho hx hy=>⟨_,index_26 ho (bB hx) (bY hy) h,fA rfl⟩) hg
theorem ridpR (t:Tmp) (s:ByteArray) (n:Nat) (h:∃ h:0<s.size,(s[0]'h).toNat=n) (hg:Ok Tryz.prog f w00 Out (cJ Tryz.prog 1000 (c.give (rU n))))
 (hc:(c.op.map fun o=>o.op,c.okT (rU n),c.ev (.tmp t),c.ev (.const (.int .i64 0)))=(some (.index 23 (.tmp t) (.const (.int .i64 0))),true,(rS s),(rli 0)):=by kernel_rfl):Ok Tryz.prog f w00 Out c :=
 rE (.index 23 (.tmp t) (.const (.int .i64 0))) (.tmp t) (.const (.int .i64 0)) (rS s) (rli 0) (rU n) hc (by simp [Op.operands]) (by simp [Op.operands]) (fun ρ o β w ho hx hy=>⟨_,index_26 ho (bB hx) (bY hy) h,cQ⟩) hg
theorem rueq (t:Tmp) (n:Nat) (h:((n:Int)==45)=false) (hg:Ok Tryz.prog f w00 Out (cJ Tryz.prog 1000 (c.give (rl false))))
 (hc:(c.op.map fun o=>o.op,c.okT (rl false),c.ev (.tmp t),c.ev (.const (.int .u8 45)))=(some (.binOp .eql 5 (.tmp t) (.const (.int .u8 45)) 5),true,(rU n),(.fv (.sc (.lit (.int .u8 45))))):=by kernel_rfl):Ok Tryz.prog f w00 Out c :=
 rE (.binOp .eql 5 (.tmp t) (.const (.int .u8 45)) 5) (.tmp t) (.const (.int .u8 45)) (rU n) (.fv (.sc (.lit (.int .u8 45)))) (rl false) hc (by simp [Op.operands]) (by simp [Op.operands]) (fun ρ o β w ho hx hy=>⟨.bool false,ueq_run ho (bB hx) (bY hy) h,fA rfl⟩) hg
theorem rshi (t i:Tmp) (T:TypeId) (hT:Tryz.prog.underlying T=some .string) (s:ByteArray) (k:Nat) (a:ByteArray) (hk:k≤s.size) (ha:s.extract 0 k=a) (hg:Ok Tryz.prog f w00 Out (cJ Tryz.prog 1000 (c.give (rS a))))
 (hc:(c.op.map fun o=>o.op,c.okT (rS a),c.ev (.tmp t),c.ev (.tmp i))=(some (.slice T (.tmp t) none (some (.tmp i)) none),true,(rS s),(rI (k:Int))):=by kernel_rfl):Ok Tryz.prog f w00 Out c :=
 rE (.slice T (.tmp t) none (some (.tmp i)) none) (.tmp t) (.tmp i) (rS s) (rI (k:Int)) (rS a) hc (by simp [Op.operands]) (by simp [Op.operands]) (fun ρ o β w ho hx hy=>⟨_,ha▸oS ho hT (bB hx) (bB hy) hk,cQ⟩) hg
theorem rslo (t i:Tmp) (T:TypeId) (hT:Tryz.prog.underlying T=some .string) (s:ByteArray) (k:Nat) (d:ByteArray) (hk:k≤s.size) (hd:s.extract k s.size=d) (hg:Ok Tryz.prog f w00 Out (cJ Tryz.prog 1000 (c.give (rS d))))
 (hc:(c.op.map fun o=>o.op,c.okT (rS d),c.ev (.tmp t),c.ev (.tmp i))=(some (.slice T (.tmp t) (some (.tmp i)) none none),true,(rS s),(rI (k:Int))):=by kernel_rfl):Ok Tryz.prog f w00 Out c :=
 rE (.slice T (.tmp t) (some (.tmp i)) none none) (.tmp t) (.tmp i) (rS s) (rI (k:Int)) (rS d) hc (by simp [Op.operands]) (by simp [Op.operands]) (fun ρ o β w ho hx hy=>⟨_,hd▸oT ho hT (bB hx) (bB hy) hk,cQ⟩) hg
theorem rsl1 (t:Tmp) (T:TypeId) (hT:Tryz.prog.underlying T=some .string) (s d:ByteArray) (hk:1≤s.size) (hd:s.extract 1 s.size=d) (hg:Ok Tryz.prog f w00 Out (cJ Tryz.prog 1000 (c.give (rS d))))
 (hc:(c.op.map fun o=>o.op,c.okT (rS d),c.ev (.tmp t),c.ev (.const (.int .i64 1)))=(some (.slice T (.tmp t) (some (.const (.int .i64 1))) none none),true,(rS s),(rli 1)):=by kernel_rfl):Ok Tryz.prog f w00 Out c :=
 rE (.slice T (.tmp t) (some (.const (.int .i64 1))) none none) (.tmp t) (.const (.int .i64 1)) (rS s) (rli 1) (rS d) hc (by simp [Op.operands]) (by simp [Op.operands]) (fun ρ o β w ho hx hy=>⟨_,hd▸oT (k:=1) ho hT (bB hx) (bY hy) hk,cQ⟩) hg
theorem radd (t:Tmp) (k:Nat) (h:k<9223372036854775807) (hg:Ok Tryz.prog f w00 Out (cJ Tryz.prog 1000 (c.give (rI ((k+1:Nat):Int)))))
 (hc:(c.op.map fun o=>o.op,c.okT (rI ((k+1:Nat):Int)),c.ev (.tmp t),c.ev (.const (.int .i64 1)))=(some (.binOp .add 3 (.tmp t) (.const (.int .i64 1)) 3),true,(rI (k:Int)),(rli 1)):=by kernel_rfl):Ok Tryz.prog f w00 Out c :=
 rE (.binOp .add 3 (.tmp t) (.const (.int .i64 1)) 3) (.tmp t) (.const (.int .i64 1)) (rI (k:Int)) (rli 1) (rI ((k+1:Nat):Int)) hc (by simp [Op.operands]) (by simp [Op.operands]) (fun ρ o β w ho hx hy=>⟨_,sU ho (bB hx) (bY hy) h,cQ⟩) hg
theorem uL (t:Tmp) (T:TypeId) (s b:ByteArray) (r:Bool) (h:(s.toList==b.toList)=r) (hg:Ok Tryz.prog f w00 Out (cJ Tryz.prog 1000 (c.give (rl r))))
 (hc:(c.op.map fun o=>o.op,c.okT (rl r),c.ev (.tmp t),c.ev (.const (.string b)))=(some (.binOp .eql T (.tmp t) (.const (.string b)) T),true,(rS s),(.fv (.sc (.lit (.string b))))):=by kernel_rfl):Ok Tryz.prog f w00 Out c :=
 rE (.binOp .eql T (.tmp t) (.const (.string b)) T) (.tmp t) (.const (.string b)) (rS s) (.fv (.sc (.lit (.string b)))) (rl r) hc (by simp [Op.operands]) (by simp [Op.operands]) (fun ρ o β w ho hx hy=>⟨_,pK ho (bB hx) (bY hy) h,fA rfl⟩) hg
theorem vX (t i:Tmp) (a b:Int) (r:Bool) (h:decide (a<b)=r) (hg:Ok Tryz.prog f w00 Out (cJ Tryz.prog 1000 (c.give (rl r))))
 (hc:(c.op.map fun o=>o.op,c.okT (rl r),c.ev (.tmp t),c.ev (.tmp i))=(some (.binOp .lss 3 (.tmp t) (.tmp i) 3),true,(rI a),(rI b)):=by kernel_rfl):Ok Tryz.prog f w00 Out c :=
 rE (.binOp .lss 3 (.tmp t) (.tmp i) 3) (.tmp t) (.tmp i) (rI a) (rI b) (rl r) hc (by simp [Op.operands]) (by simp [Op.operands]) (fun ρ o β w ho hx hy=>⟨_,lss_run ho (bB hx) (bB hy) h,fA rfl⟩) hg
theorem zI (t i:Tmp) (a b:Nat) (hle:b≤a) (ha:a≤9223372036854775807) (hg:Ok Tryz.prog f w00 Out (cJ Tryz.prog 1000 (c.give (rI ((a-b:Nat):Int)))))
 (hc:(c.op.map fun o=>o.op,c.okT (rI ((a-b:Nat):Int)),c.ev (.tmp t),c.ev (.tmp i))=(some (.binOp .sub 3 (.tmp t) (.tmp i) 3),true,(rI (a:Int)),(rI (b:Int))):=by kernel_rfl):Ok Tryz.prog f w00 Out c :=
 rE (.binOp .sub 3 (.tmp t) (.tmp i) 3) (.tmp t) (.tmp i) (rI (a:Int)) (rI (b:Int)) (rI ((a-b:Nat):Int)) hc (by simp [Op.operands]) (by simp [Op.operands]) (fun ρ o β w ho hx hy=>⟨_,subn_run ho (bB hx) (bB hy) hle ha,cQ⟩) hg
end
abbrev qno:AV Kr := .tup [.sc (.lit (.int .i64 0)),.sc (.lit (.int .i64 0)),.sc (.lit (.bool false))]
section
variable {s u:ByteArray} {c:Nat}
theorem quick_long (h20:decide ((20:Int)<s.size)=true):jF 116 [rS s] qno:=by
 refine jT Tryz.func116 fun w00=>?_
 refine dR 11 9 Tryz.underlying9 s ?_
 refine iX 12 20 s.size true h20 ?_
 exact jS Tryz.func116
theorem quick_k9n (h20:decide ((20:Int)<s.size)=false) (h0:decide ((0:Int)<s.size)=true) (h1:1≤s.size) (hc:∃ h:0<s.size,(s[0]'h).toNat=45) (hext:s.extract 1 s.size=u) (hus:u.size≤s.size) (h9:decide ((9:Int)<(aJ u:Nat))=true):jF 116 [rS s] qno:=by
 have hs20:s.size≤20:=by rw [decide_eq_false_iff_not] at h20;omega
 refine jT Tryz.func116 fun w00=>?_
 refine dR 11 9 Tryz.underlying9 s ?_
 refine iX 12 20 s.size false h20 ?_
 refine dR 14 9 Tryz.underlying9 s ?_
 refine iX 15 0 s.size true h0 ?_
 refine ridn 18 s hc ?_
 refine rsl1 23 9 Tryz.underlying9 s u h1 hext ?_
 refine jB 106 [rS u] (fB (by omega)) ?_
 refine iX 27 9 (aJ u:Nat) true h9 ?_
 exact jS Tryz.func116
theorem quick_l10n (h20:decide ((20:Int)<s.size)=false) (h0:decide ((0:Int)<s.size)=true) (h1:1≤s.size) (hc:∃ h:0<s.size,(s[0]'h).toNat=45) (hext:s.extract 1 s.size=u) (hus:u.size≤s.size) (h9:decide ((9:Int)<(aJ u:Nat))=false) (h10:decide ((10:Int)<((u.size-aJ u:Nat):Int))=true):jF 116 [rS s] qno:=by
 have hs20:s.size≤20:=by rw [decide_eq_false_iff_not] at h20;omega
 refine jT Tryz.func116 fun w00=>?_
 refine dR 11 9 Tryz.underlying9 s ?_
 refine iX 12 20 s.size false h20 ?_
 refine dR 14 9 Tryz.underlying9 s ?_
 refine iX 15 0 s.size true h0 ?_
 refine ridn 18 s hc ?_
 refine rsl1 23 9 Tryz.underlying9 s u h1 hext ?_
 refine jB 106 [rS u] (fB (by omega)) ?_
 refine iX 27 9 (aJ u:Nat) false h9 ?_
 refine dR 30 9 Tryz.underlying9 u ?_
 refine zI 31 32 (u.size) (aJ u) (cC _) (by omega) ?_
 refine iX 33 10 ((u.size-aJ u:Nat):Int) true h10 ?_
 exact jS Tryz.func116
theorem quick_k9p (h20:decide ((20:Int)<s.size)=false) (h0:decide ((0:Int)<s.size)=true) (hc:∃ h:0<s.size,(s[0]'h).toNat=c) (hc45:((c:Int)==45)=false) (h9:decide ((9:Int)<(aJ s:Nat))=true):jF 116 [rS s] qno:=by
 have hs20:s.size≤20:=by rw [decide_eq_false_iff_not] at h20;omega
 refine jT Tryz.func116 fun w00=>?_
 refine dR 11 9 Tryz.underlying9 s ?_
 refine iX 12 20 s.size false h20 ?_
 refine dR 14 9 Tryz.underlying9 s ?_
 refine iX 15 0 s.size true h0 ?_
 refine ridp 18 s c hc ?_
 refine rueq 19 c hc45 ?_
 refine jB 106 [rS s] (fB (by omega)) ?_
 refine iX 27 9 (aJ s:Nat) true h9 ?_
 exact jS Tryz.func116
theorem quick_l10p (h20:decide ((20:Int)<s.size)=false) (h0:decide ((0:Int)<s.size)=true) (hc:∃ h:0<s.size,(s[0]'h).toNat=c) (hc45:((c:Int)==45)=false) (h9:decide ((9:Int)<(aJ s:Nat))=false) (h10:decide ((10:Int)<((s.size-aJ s:Nat):Int))=true):jF 116 [rS s] qno:=by
 have hs20:s.size≤20:=by rw [decide_eq_false_iff_not] at h20;omega
 refine jT Tryz.func116 fun w00=>?_
 refine dR 11 9 Tryz.underlying9 s ?_
 refine iX 12 20 s.size false h20 ?_
 refine dR 14 9 Tryz.underlying9 s ?_
 refine iX 15 0 s.size true h0 ?_
 refine ridp 18 s c hc ?_
 refine rueq 19 c hc45 ?_
 refine jB 106 [rS s] (fB (by omega)) ?_
 refine iX 27 9 (aJ s:Nat) false h9 ?_
 refine dR 30 9 Tryz.underlying9 s ?_
 refine zI 31 32 (s.size) (aJ s) (cC _) (by omega) ?_
 refine iX 33 10 ((s.size-aJ s:Nat):Int) true h10 ?_
 exact jS Tryz.func116
end
theorem valueF {d:ByteArray} {n:Nat} (hd:AllDig (aC d)) (hs:d.size≤17) (hn:aU (aC d)=n):jF 166 [rS d] (rI n):=by
 intro β w vs hv
 obtain ⟨v,rfl,h1⟩:=dH hv
 rw [bB h1]
 exact (mG d w hd hs).mono fun e w' ⟨e1,e2⟩=>⟨_,e1,by rw [e2];exact aB _ _,by rw [hn];exact cQ⟩
theorem neg_run {o:Oper} {ρ:Operand→Value} {w:World} {x y:Operand} {a:Nat} (ho:o.op = .binOp .sub 3 x y 3) (hx:ρ x = .int .i64 0) (hy:ρ y = .int .i64 (a:Int)) (ha:a<4611686018427387904) :
 (execOp ρ o).run Tryz.prog w = .ok (.value (.int .i64 (-(a:Int)))) w:=by
 simp only [execOp,ho,hx,hy]
 refine bI ?_
 have e:IntKind.i64.wrap (0-(a:Int)) = -(a:Int):=by
  rw [IntWalk.i64_left,IntWalk.wrap64_in _ ⟨by omega,by omega⟩];omega
 rw [Int.zero_sub] at e
 simp [go_sem,e]
section
variable {s u d1 d2:ByteArray} {c n1 n2:Nat}
theorem quick_yes1n (h20:decide ((20:Int)<s.size)=false) (h0:decide ((0:Int)<s.size)=true) (h1:1≤s.size) (hc:∃ h:0<s.size,(s[0]'h).toNat=45) (hext:s.extract 1 s.size=u) (hus:u.size≤s.size) (hn1:n1<4611686018427387904) (h9:decide ((9:Int)<(aJ u:Nat))=false) (h10:decide ((10:Int)<((u.size-aJ u:Nat):Int))=false) (hd1:u.extract 0 (aJ u)=d1) (v1:jF 166 [rS d1] (rI n1)) (hlt:decide (((aJ u:Nat):Int)<(u.size:Nat))=false):jF 116 [rS s] (.tup [.sc (.sp (iN (.int .i64 (-(n1:Int))) rfl false (fun h=>by cases h))),.sc (.lit (.int .i64 1)),.sc (.lit (.bool true))]):=by
 have hs20:s.size≤20:=by rw [decide_eq_false_iff_not] at h20;omega
 refine jT Tryz.func116 fun w00=>?_
 refine dR 11 9 Tryz.underlying9 s ?_
 refine iX 12 20 s.size false h20 ?_
 refine dR 14 9 Tryz.underlying9 s ?_
 refine iX 15 0 s.size true h0 ?_
 refine ridn 18 s hc ?_
 refine rsl1 23 9 Tryz.underlying9 s u h1 hext ?_
 refine jB 106 [rS u] (fB (by omega)) ?_
 refine iX 27 9 (aJ u:Nat) false h9 ?_
 refine dR 30 9 Tryz.underlying9 u ?_
 refine zI 31 32 (u.size) (aJ u) (cC _) (by omega) ?_
 refine iX 33 10 ((u.size-aJ u:Nat):Int) false h10 ?_
 refine rshi 36 37 9 Tryz.underlying9 u (aJ u) d1 (cC _) hd1 ?_
 refine jB 166 [rS d1] v1 ?_
 refine dR 41 9 Tryz.underlying9 u ?_
 refine vX 40 42 (aJ u:Nat) (u.size:Nat) false hlt ?_
 refine jL (.binOp .sub 3 (.const (.int .i64 0)) (.tmp 50) 3) (.const (.int .i64 0)) (.tmp 50) (.fv (.sc (.lit (.int .i64 0)))) (rI n1) (rI (-(n1:Int))) (fun ρ o β w ho hx hy=>⟨_,neg_run ho (bY hx) (bB hy) hn1,cQ⟩) ?_
 exact jS Tryz.func116
theorem quick_yes2n (h20:decide ((20:Int)<s.size)=false) (h0:decide ((0:Int)<s.size)=true) (h1:1≤s.size) (hc:∃ h:0<s.size,(s[0]'h).toNat=45) (hext:s.extract 1 s.size=u) (hus:u.size≤s.size) (hn1:n1<4611686018427387904) (h9:decide ((9:Int)<(aJ u:Nat))=false) (h10:decide ((10:Int)<((u.size-aJ u:Nat):Int))=false) (hd1:u.extract 0 (aJ u)=d1) (v1:jF 166 [rS d1] (rI n1)) (hlt:decide (((aJ u:Nat):Int)<(u.size:Nat))=true) (hd2:u.extract (aJ u+1) u.size=d2) (v2:jF 166 [rS d2] (rI n2)):jF 116 [rS s] (.tup [.sc (.sp (iN (.int .i64 (-(n1:Int))) rfl false (fun h=>by cases h))),.sc (.sp (iN (.int .i64 (n2:Int)) rfl false (fun h=>by cases h))),.sc (.lit (.bool true))]):=by
 have hs20:s.size≤20:=by rw [decide_eq_false_iff_not] at h20;omega
 refine jT Tryz.func116 fun w00=>?_
 refine dR 11 9 Tryz.underlying9 s ?_
 refine iX 12 20 s.size false h20 ?_
 refine dR 14 9 Tryz.underlying9 s ?_
 refine iX 15 0 s.size true h0 ?_
 refine ridn 18 s hc ?_
 refine rsl1 23 9 Tryz.underlying9 s u h1 hext ?_
 refine jB 106 [rS u] (fB (by omega)) ?_
 refine iX 27 9 (aJ u:Nat) false h9 ?_
 refine dR 30 9 Tryz.underlying9 u ?_
 refine zI 31 32 (u.size) (aJ u) (cC _) (by omega) ?_
 refine iX 33 10 ((u.size-aJ u:Nat):Int) false h10 ?_
 refine rshi 36 37 9 Tryz.underlying9 u (aJ u) d1 (cC _) hd1 ?_
 refine jB 166 [rS d1] v1 ?_
 refine dR 41 9 Tryz.underlying9 u ?_
 refine vX 40 42 (aJ u:Nat) (u.size:Nat) true hlt ?_
 refine radd 45 (aJ u) (by have:=cC u;omega) ?_
 refine rslo 44 46 9 Tryz.underlying9 u (aJ u+1) d2 (by have:=of_decide_eq_true hlt;omega) hd2 ?_
 refine jB 166 [rS d2] v2 ?_
 refine jL (.binOp .sub 3 (.const (.int .i64 0)) (.tmp 50) 3) (.const (.int .i64 0)) (.tmp 50) (.fv (.sc (.lit (.int .i64 0)))) (rI n1) (rI (-(n1:Int))) (fun ρ o β w ho hx hy=>⟨_,neg_run ho (bY hx) (bB hy) hn1,cQ⟩) ?_
 exact jS Tryz.func116
theorem quick_yes1p (h20:decide ((20:Int)<s.size)=false) (h0:decide ((0:Int)<s.size)=true) (hc:∃ h:0<s.size,(s[0]'h).toNat=c) (hc45:((c:Int)==45)=false) (h9:decide ((9:Int)<(aJ s:Nat))=false) (h10:decide ((10:Int)<((s.size-aJ s:Nat):Int))=false) (hd1:s.extract 0 (aJ s)=d1) (v1:jF 166 [rS d1] (rI n1)) (hlt:decide (((aJ s:Nat):Int)<(s.size:Nat))=false):jF 116 [rS s] (.tup [.sc (.sp (iN (.int .i64 (n1:Int)) rfl false (fun h=>by cases h))),.sc (.lit (.int .i64 1)),.sc (.lit (.bool true))]):=by
 have hs20:s.size≤20:=by rw [decide_eq_false_iff_not] at h20;omega
 refine jT Tryz.func116 fun w00=>?_
 refine dR 11 9 Tryz.underlying9 s ?_
 refine iX 12 20 s.size false h20 ?_
 refine dR 14 9 Tryz.underlying9 s ?_
 refine iX 15 0 s.size true h0 ?_
 refine ridp 18 s c hc ?_
 refine rueq 19 c hc45 ?_
 refine jB 106 [rS s] (fB (by omega)) ?_
 refine iX 27 9 (aJ s:Nat) false h9 ?_
 refine dR 30 9 Tryz.underlying9 s ?_
 refine zI 31 32 (s.size) (aJ s) (cC _) (by omega) ?_
 refine iX 33 10 ((s.size-aJ s:Nat):Int) false h10 ?_
 refine rshi 36 37 9 Tryz.underlying9 s (aJ s) d1 (cC _) hd1 ?_
 refine jB 166 [rS d1] v1 ?_
 refine dR 41 9 Tryz.underlying9 s ?_
 refine vX 40 42 (aJ s:Nat) (s.size:Nat) false hlt ?_
 exact jS Tryz.func116
theorem quick_yes2p (h20:decide ((20:Int)<s.size)=false) (h0:decide ((0:Int)<s.size)=true) (hc:∃ h:0<s.size,(s[0]'h).toNat=c) (hc45:((c:Int)==45)=false) (h9:decide ((9:Int)<(aJ s:Nat))=false) (h10:decide ((10:Int)<((s.size-aJ s:Nat):Int))=false) (hd1:s.extract 0 (aJ s)=d1) (v1:jF 166 [rS d1] (rI n1)) (hlt:decide (((aJ s:Nat):Int)<(s.size:Nat))=true) (hd2:s.extract (aJ s+1) s.size=d2) (v2:jF 166 [rS d2] (rI n2)):jF 116 [rS s] (.tup [.sc (.sp (iN (.int .i64 (n1:Int)) rfl false (fun h=>by cases h))),.sc (.sp (iN (.int .i64 (n2:Int)) rfl false (fun h=>by cases h))),.sc (.lit (.bool true))]):=by
 have hs20:s.size≤20:=by rw [decide_eq_false_iff_not] at h20;omega
 refine jT Tryz.func116 fun w00=>?_
 refine dR 11 9 Tryz.underlying9 s ?_
 refine iX 12 20 s.size false h20 ?_
 refine dR 14 9 Tryz.underlying9 s ?_
 refine iX 15 0 s.size true h0 ?_
 refine ridp 18 s c hc ?_
 refine rueq 19 c hc45 ?_
 refine jB 106 [rS s] (fB (by omega)) ?_
 refine iX 27 9 (aJ s:Nat) false h9 ?_
 refine dR 30 9 Tryz.underlying9 s ?_
 refine zI 31 32 (s.size) (aJ s) (cC _) (by omega) ?_
 refine iX 33 10 ((s.size-aJ s:Nat):Int) false h10 ?_
 refine rshi 36 37 9 Tryz.underlying9 s (aJ s) d1 (cC _) hd1 ?_
 refine jB 166 [rS d1] v1 ?_
 refine dR 41 9 Tryz.underlying9 s ?_
 refine vX 40 42 (aJ s:Nat) (s.size:Nat) true hlt ?_
 refine radd 45 (aJ s) (by have:=cC s;omega) ?_
 refine rslo 44 46 9 Tryz.underlying9 s (aJ s+1) d2 (by have:=of_decide_eq_true hlt;omega) hd2 ?_
 refine jB 166 [rS d2] v2 ?_
 exact jS Tryz.func116
end
def Sq (q:Rat):Prop:=(decB q.num.natAbs).size≤9∧(q.den=1∨(decB q.den).size≤9)
theorem mN {q:Rat} (h:q.den=1):bA q=aQ (q.num.natAbs:Int):=by unfold bA;rw [if_pos h,cE]
theorem oU {q:Rat} (h:q.den≠1):bA q=aQ (q.num.natAbs:Int)++(⟨#[47]⟩++decB q.den):=by unfold bA;rw [if_neg h,cE]
theorem rH (q:Rat):aJ (bA q)=(decB q.num.natAbs).size:=by
 by_cases h:q.den=1
 ·rw [mN h,uJ,cE]
 ·rw [oU h,uK,cE]
theorem size47:(⟨#[47]⟩:ByteArray).size=1:=rfl
theorem size45:(⟨#[45]⟩:ByteArray).size=1:=rfl
theorem sW (q:Rat):(bA q).size=(decB q.num.natAbs).size+if q.den=1 then 0 else 1+(decB q.den).size:=by
 by_cases h:q.den=1
 ·rw [mN h,cE,if_pos h];rfl
 ·rw [oU h,if_neg h,ByteArray.size_append,ByteArray.size_append,cE,size47]
theorem uM (q:Rat):∃ c:Nat,(∃ h:0<(bA q).size,((bA q)[0]'h).toNat=c)∧((c:Int)==45)=false:=by
 obtain ⟨c,r,e,hc⟩:=uA q
 have h0:0<(bA q).size:=by
  have:(bA q).size=(bA q).data.toList.length:=rfl
  rw [this,e];simp
 have h1:=cL h0
 have h2:aC (bA q)=c::r:=e
 rw [h2] at h1
 simp at h1
 refine ⟨c.toNat,⟨h0,by rw [← h1]⟩,?_⟩
 simp;omega
theorem gZ {q:Rat} (h:q.num<0):1≤(writeB q).size∧(∃ h:0<(writeB q).size,((writeB q)[0]'h).toNat=45)∧(writeB q).extract 1 (writeB q).size=bA q∧(bA q).size≤(writeB q).size∧(writeB q).size=(bA q).size+1:=by
 have e:writeB q=⟨#[45]⟩++bA q:=mE h
 have hsz:(writeB q).size=(bA q).size+1:=by rw [e,ByteArray.size_append,size45];omega
 have h0:0<(writeB q).size:=by omega
 refine ⟨h0,⟨h0,?_⟩,?_,by omega,hsz⟩
 ·have h1:=cL h0
  have h2:aC (writeB q)=45::aC (bA q):=by rw [e];simp [aC]
  rw [h2] at h1
  simp at h1
  rw [← h1];rfl
 ·have h2:aC (writeB q)=45::aC (bA q):=by rw [e];simp [aC]
  have:aC ((writeB q).extract 1 (writeB q).size)=aC (bA q):=by
   rw [aS,List.take_of_length_le (by rw [aE];exact aR _),h2];rfl
  exact ba_ext this
theorem kY {q:Rat} (hq:¬ Sq q):jF 116 [rS (writeB q)] qno:=by
 by_cases h20:20<(writeB q).size
 ·exact quick_long (by rw [decide_eq_true_iff];omega)
 have hbs:=sW q
 have hsl:=rH q
 by_cases hn:q.num<0
 ·obtain ⟨f1,f2,f3,f4,f5⟩:=gZ hn
  by_cases h9:9<(decB q.num.natAbs).size
  ·exact quick_k9n (by rw [decide_eq_false_iff_not];omega) (by rw [decide_eq_true_iff];omega) f1 f2 f3 f4 (by rw [hsl,decide_eq_true_iff];omega)
  ·refine quick_l10n (by rw [decide_eq_false_iff_not];omega) (by rw [decide_eq_true_iff];omega) f1 f2 f3 f4 (by rw [hsl,decide_eq_false_iff_not];omega) ?_
   rw [hsl,decide_eq_true_iff,hbs]
   have hd:¬ (q.den=1∨(decB q.den).size≤9):=fun h=>hq ⟨by omega,h⟩
   rw [if_neg (fun h=>hd (.inl h))]
   have:¬ (decB q.den).size≤9:=fun h=>hd (.inr h)
   omega
 ·have hw:=dX hn
  obtain ⟨c,c1,c2⟩:=uM q
  have h0:0<(bA q).size:=c1.1
  rw [hw] at h20 ⊢
  by_cases h9:9<(decB q.num.natAbs).size
  ·exact quick_k9p (by rw [decide_eq_false_iff_not];omega) (by rw [decide_eq_true_iff];omega) c1 c2 (by rw [hsl,decide_eq_true_iff];omega)
  ·refine quick_l10p (by rw [decide_eq_false_iff_not];omega) (by rw [decide_eq_true_iff];omega) c1 c2 (by rw [hsl,decide_eq_false_iff_not];omega) ?_
   rw [hsl,decide_eq_true_iff,hbs]
   have hd:¬ (q.den=1∨(decB q.den).size≤9):=fun h=>hq ⟨by omega,h⟩
   rw [if_neg (fun h=>hd (.inl h))]
   have:¬ (decB q.den).size≤9:=fun h=>hd (.inr h)
   omega
def csAny:CS Kr where
 size:=1
 cold:=false
 pred cs _ := ∃ n:Int,cs = [.int .i64 n]
 stable _ _ _ h _:=h
 len cs w h:=by obtain ⟨v,e⟩:=h;rw [e];rfl
 one cs w h:=by obtain ⟨v,e⟩:=h;rw [e];intro d hd;rw [List.mem_singleton] at hd;rw [hd];rfl
 iscold h:=by cases h
abbrev qany (b:Bool):AV Kr := .tup [.sc (.sp csAny),.sc (.sp csAny),.sc (.lit (.bool b))]
theorem kZ {β:List Nat} {v:Value} {w:World} (h:qno.holds β v w):(qany false).holds β v w:=by
 obtain ⟨vs,rfl,a,r,rfl,h1,b,r2,rfl,h2,c,r3,rfl,h3,h4⟩:=h
 exact ⟨_,rfl,a,_,rfl,⟨0,h1.1⟩,b,_,rfl,⟨0,h2.1⟩,c,_,rfl,h3,h4⟩
theorem pow_lift {a k n:Nat} (h:a<10^k) (hk:k≤n):a<B9^n :=
 Nat.lt_of_lt_of_le h (Nat.le_trans (Nat.pow_le_pow_right (by omega) hk) (Nat.pow_le_pow_left (by unfold B9;omega) _))
theorem fY {a k:Nat} (h:a<10^k) (hk:k≤1099511627776):Bd a:=by
 obtain ⟨n,hn⟩:∃ n,n=1099511627776:=⟨_,rfl⟩
 unfold Bd
 rw [← hn] at hk ⊢
 exact pow_lift h hk
theorem bd1_of {a k:Nat} (h:a<10^k) (hk:k≤100000000):a<B9^100000000:=by
 obtain ⟨n,hn⟩:∃ n,n=100000000:=⟨_,rfl⟩
 rw [← hn] at hk ⊢
 exact pow_lift h hk
theorem pO {z:Int} {k:Nat} (h:z.natAbs<10^(k+1)):(aQ z).size≤k+2:=by
 have:=decB_size h
 unfold aQ
 split
 ·rw [ByteArray.size_append,size45];omega
 ·omega
def Zs (k:Nat) (q:Rat):Prop:=q.num.natAbs<10^(k+1)∧q.den<10^(k+1)
theorem fracW {n:Int} {d k:Nat} (hk:k≤1000000) (hn:n.natAbs<10^(k+1)) (hd:d<10^(k+1)) (h0:0<d):jF 118 [iz n,pz d] (rS (writeB (mkRat n d))):=by
 have h:=fractionF (n:=n) (d:=d) (fY hn (by omega)) (fY hd (by omega)) h0 (bd1_of hn (by omega)) (bd1_of hd (by omega))
  (by have:=pO (k:=k) (z:=gY (decide (n<0)) (n.natAbs/Nat.gcd n.natAbs d)) (by rw [sS];exact Nat.lt_of_le_of_lt (Nat.div_le_self _ _) hn);omega)
  (by have:=pO (k:=k) (z:=((d/Nat.gcd n.natAbs d:Nat):Int)) (by rw [Int.natAbs_natCast];exact Nat.lt_of_le_of_lt (Nat.div_le_self _ _) hd);omega)
 rw [rG n h0] at h
 exact h
theorem oV {a b k:Nat} (ha:a<10^(k+1)) (hb:b<10^(k+1)):a*b<10^(2*k+1+1):=by
 have:10^(2*k+1+1)=10^(k+1)*10^(k+1):=by rw [← Nat.pow_add];congr 1;omega
 rw [this]
 exact Nat.mul_lt_mul'' ha hb
theorem add_lt10 {a b k:Nat} (ha:a<10^(k+1)) (hb:b<10^(k+1)):a+b<10^(k+1+1):=by
 have:10^(k+1+1)=10^(k+1)*10:=Nat.pow_succ _ _
 omega
theorem sX {k:Nat} {q:Rat} (h:Zs k q) (hk:k≤10000):(decB q.num.natAbs).size≤100000∧(decB q.den).size≤100000:=by
 have h1:=decB_size h.1
 have h2:=decB_size h.2
 omega
section
variable {p q:Rat} {b1 b2:Bool}
theorem mulBig (hp:Zs 10000 p) (hq:Zs 10000 q) (q1:jF 116 [rS (writeB p)] (qany b1)) (q2:jF 116 [rS (writeB q)] (qany b2)) (hb:(b1&&b2)=false) :
 jF 58 [rS (writeB p),rS (writeB q)] (rS (writeB (p*q))):=by
 have hn:=oV hp.1 hq.1
 rw [← Int.natAbs_mul] at hn
 have hd:=oV hp.2 hq.2
 have s1:=sX hp (aR _)
 have s2:=sX hq (aR _)
 have hf:=fracW (by omega) hn hd (Nat.mul_pos p.den_pos q.den_pos)
 rw [← Rat.mul_def'] at hf
 have w1:=yR s1.1 s1.2
 have w2:=yR s2.1 s2.2
 have t1:=timesZ (fY hp.1 (by omega)) (fY hq.1 (by omega))
 have t2:=timesPP (fY hp.2 (by omega)) (fY hq.2 (by omega))
 generalize writeB p=s at *
 generalize writeB q=u at *
 cases b1 <;> cases b2 <;> first|cases hb|skip
 all_goals
  refine jT Tryz.func58 fun w00=>?_
  refine jB 116 [rS s] q1 ?_
  refine jB 116 [rS u] q2 ?_
  refine jB 108 [rS s] w1 ?_
  refine jB 108 [rS u] w2 ?_
  refine jB 119 [iz p.num,iz q.num] t1 ?_
  refine jB 119 [pz p.den,pz q.den] t2 ?_
  refine jB 118 [iz (p.num*q.num),pz (p.den*q.den)] hf ?_
  exact jS Tryz.func58
theorem addBig (hp:Zs 10000 p) (hq:Zs 10000 q) (q1:jF 116 [rS (writeB p)] (qany b1)) (q2:jF 116 [rS (writeB q)] (qany b2)) (hb:(b1&&b2)=false) :
 jF 120 [rS (writeB p),rS (writeB q)] (rS (writeB (p+q))):=by
 obtain ⟨K,hK⟩:∃ K,K=10000:=⟨_,rfl⟩
 rw [← hK] at hp hq
 have hn1:(p.num*(q.den:Int)).natAbs<10^(2*K+1+1):=Nat.lt_of_le_of_lt (Nat.le_of_eq (by rw [Int.natAbs_mul,Int.natAbs_natCast])) (oV hp.1 hq.2)
 have hn2:(q.num*(p.den:Int)).natAbs<10^(2*K+1+1):=Nat.lt_of_le_of_lt (Nat.le_of_eq (by rw [Int.natAbs_mul,Int.natAbs_natCast])) (oV hq.1 hp.2)
 have hn:(p.num*(q.den:Int)+q.num*(p.den:Int)).natAbs<10^(2*K+1+1+1):=Nat.lt_of_le_of_lt (Int.natAbs_add_le _ _) (add_lt10 hn1 hn2)
 have hd:p.den*q.den<10^(2*K+1+1+1):=Nat.lt_of_lt_of_le (oV hp.2 hq.2) (Nat.pow_le_pow_right (by omega) (by omega))
 have s1:=sX hp (by omega)
 have s2:=sX hq (by omega)
 have hf:=fracW (by omega) hn hd (Nat.mul_pos p.den_pos q.den_pos)
 rw [← Rat.add_def'] at hf
 have w1:=yR s1.1 s1.2
 have w2:=yR s2.1 s2.2
 have t1:=timesZP (a:=p.num) (b:=q.den) (fY hp.1 (by omega)) (fY hq.2 (by omega))
 have t2:=timesZP (a:=q.num) (b:=p.den) (fY hq.1 (by omega)) (fY hp.2 (by omega))
 have t3:=timesPP (fY hp.2 (by omega)) (fY hq.2 (by omega))
 have t4:=plusZ (fY hn1 (by omega)) (fY hn2 (by omega))
 generalize writeB p=s at *
 generalize writeB q=u at *
 cases b1 <;> cases b2 <;> first|cases hb|skip
 all_goals
  refine jT Tryz.func120 fun w00=>?_
  refine jB 116 [rS s] q1 ?_
  refine jB 116 [rS u] q2 ?_
  refine jB 108 [rS s] w1 ?_
  refine jB 108 [rS u] w2 ?_
  refine jB 119 [iz p.num,pz q.den] t1 ?_
  refine jB 119 [iz q.num,pz p.den] t2 ?_
  refine jB 173 [iz (p.num*(q.den:Int)),iz (q.num*(p.den:Int))] t4 ?_
  refine jB 119 [pz p.den,pz q.den] t3 ?_
  refine jB 118 [iz (p.num*(q.den:Int)+q.num*(p.den:Int)),pz (p.den*q.den)] hf ?_
  exact jS Tryz.func120
end
end Ab
section
open Go.RowKit Pl
theorem empty_app (b:ByteArray):(⟨#[]⟩:ByteArray)++b=b:=Ab.ba_ext (by simp)
set_option maxRecDepth 100000 in
theorem of_pos (a d:Nat) (w:World) (ha:a≤4000000000000000000) (hd:d≤4000000000000000000) (hd0:0<d) (p q g:Nat) (hg:g=Nat.gcd a d) (hp:p=a/g) (hq:q=d/g) :
 Calls Tryz.prog 117 #[.int .i64 (a:Int),.int .i64 (d:Int)] w fun e w'=>e = .returned (.string (if q=1 then Ab.decB p else Ab.decB p++⟨#[47]⟩++Ab.decB q))∧Below w.heap.size w w':=by
 have hg0:0<g:=by rw [hg];exact Nat.gcd_pos_of_pos_right _ hd0
 have hpa:p≤a:=by rw [hp];exact Nat.div_le_self _ _
 have hqd:q≤d:=by rw [hq];exact Nat.div_le_self _ _
 have hq0:0<q:=by rw [hq,hg];exact Nat.div_pos (Nat.gcd_le_right _ hd0) (Nat.gcd_pos_of_pos_right _ hd0)
 have cg:=aH (rgcd_any a d w (by omega) (by omega))
 rw [← hg] at cg
 have c1:=aH (fun W=>oQ p W (by omega))
 have c2:=aH (fun W=>oQ q W (by omega))
 have s1:(Ab.decB p).size≤19:=Ab.decB_size (k:=18) (by omega)
 have s2:(Ab.decB q).size≤19:=Ab.decB_size (k:=18) (by omega)
 have T:=aH (show wrap64 ((a:Int)/(g:Int))=(p:Int)∧wrap64 ((d:Int)/(g:Int))=(q:Int) from by
  have e1:(a:Int)/(g:Int)=(p:Int):=by rw [hp];simp
  have e2:(d:Int)/(g:Int)=(q:Int):=by rw [hq];simp
  rw [e1,e2]
  exact ⟨IntWalk.wrap64_in _ ⟨by omega,by omega⟩,IntWalk.wrap64_in _ ⟨by omega,by omega⟩⟩)
 have hz0:((g:Int)==0)=false:=by simp;omega
 have hz1:¬ (g:Int)=0:=by omega
 have hz3:((g:Int) == -1)=false:=by simp
 have b1:(a:Int)≤4000000000000000000:=by omega
 have b2:(d:Int)≤4000000000000000000:=by omega
 have b3:(p:Int)≤4000000000000000000:=by omega
 have b4:(q:Int)≤4000000000000000000:=by omega
 have b5:(1:Int)≤d:=by omega
 have b6:(1:Int)≤q:=by omega
 have HQ:=aH (aI hq0 (aI s1 s2))
 obtain ⟨res,hqq⟩:∃ res,res=(if q=1 then Ab.decB p else Ab.decB p++⟨#[47]⟩++Ab.decB q):=⟨_,rfl⟩
 rw [← hqq]
 have HQQ:=aH hqq
 clear hqq
 clear hg hp hq hpa hqd hg0 hd0 ha hd hq0 s1 s2
 go_enter Tryz.func117,Tryz.ntmps117
 go_wp2_with fail
 rw [show max (a:Int) (-(a:Int))=(a:Int) by omega]
 refine (cg.out).mono ?_
 rintro e w1 ⟨rfl,hb⟩
 go_wp2
 go_quiet (fail)
 have hb2:=bW hb nq
 clear hb
 generalize w1.drewN nq=w2 at *
 rw [T.out.1,T.out.2]
 go_wp2_with fail
 rw [show max (p:Int) (-(p:Int))=(p:Int) by omega]
 refine (c1.out _).mono ?_
 rintro e w3 ⟨rfl,rfl⟩
 obtain ⟨h0,s1,s2⟩:=HQ.out
 by_cases hq1:q=1
 ·have k1:¬ (1:Int)<q:=by omega
  have hr:=aH (HQQ.out.trans (if_pos hq1))
  clear hq1 h0 HQQ
  go_wp2
  go_ret
  have E:(⟨#[]⟩:ByteArray)++Ab.decB p=res:=by rw [hr.out];rw [empty_app]
  exact ⟨congrArg (fun s=>Ending.returned (Value.string s)) E,hb2⟩
 ·have k1:(1:Int)<q:=by omega
  have hr:=aH (HQQ.out.trans (if_neg hq1))
  clear hq1 h0 HQQ
  go_wp2_with fail
  refine (c2.out _).mono ?_
  rintro e w4 ⟨rfl,rfl⟩
  go_wp2
  go_ret
  have E:(⟨#[]⟩:ByteArray)++Ab.decB p++⟨#[47]⟩++Ab.decB q=res:=by rw [hr.out];rw [empty_app]
  exact ⟨congrArg (fun s=>Ending.returned (Value.string s)) E,hb2⟩
set_option maxRecDepth 100000 in
theorem of_neg (a d:Nat) (w:World) (ha0:0<a) (ha:a≤4000000000000000000) (hd:d≤4000000000000000000) (hd0:0<d) (p q g:Nat) (hg:g=Nat.gcd a d) (hp:p=a/g) (hq:q=d/g) :
 Calls Tryz.prog 117 #[.int .i64 (-(a:Int)),.int .i64 (d:Int)] w fun e w'=>e = .returned (.string (if q=1 then (⟨#[45]⟩++Ab.decB p) else (⟨#[45]⟩++Ab.decB p)++⟨#[47]⟩++Ab.decB q))∧Below w.heap.size w w':=by
 have hg0:0<g:=by rw [hg];exact Nat.gcd_pos_of_pos_right _ hd0
 have hpa:p≤a:=by rw [hp];exact Nat.div_le_self _ _
 have hqd:q≤d:=by rw [hq];exact Nat.div_le_self _ _
 have hq0:0<q:=by rw [hq,hg];exact Nat.div_pos (Nat.gcd_le_right _ hd0) (Nat.gcd_pos_of_pos_right _ hd0)
 have hp0:0<p:=by rw [hp,hg];exact Nat.div_pos (Nat.gcd_le_left _ ha0) (Nat.gcd_pos_of_pos_left _ ha0)
 have cg:=aH (rgcd_any a d w (by omega) (by omega))
 rw [← hg] at cg
 have c1:=aH (fun W=>oQ p W (by omega))
 have c2:=aH (fun W=>oQ q W (by omega))
 have s1:(Ab.decB p).size≤19:=Ab.decB_size (k:=18) (by omega)
 have s2:(Ab.decB q).size≤19:=Ab.decB_size (k:=18) (by omega)
 have T:=aH (show wrap64 (-((a:Int)/(g:Int)))=(-(p:Int))∧wrap64 ((d:Int)/(g:Int))=(q:Int) from by
  have e1:(a:Int)/(g:Int)=(p:Int):=by rw [hp];simp
  have e2:(d:Int)/(g:Int)=(q:Int):=by rw [hq];simp
  rw [e1,e2]
  exact ⟨IntWalk.wrap64_in _ ⟨by omega,by omega⟩,IntWalk.wrap64_in _ ⟨by omega,by omega⟩⟩)
 have hz0:((g:Int)==0)=false:=by simp;omega
 have hz1:¬ (g:Int)=0:=by omega
 have hz3:((g:Int) == -1)=false:=by simp
 have b1:(a:Int)≤4000000000000000000:=by omega
 have b2:(d:Int)≤4000000000000000000:=by omega
 have b3:(p:Int)≤4000000000000000000:=by omega
 have b4:(q:Int)≤4000000000000000000:=by omega
 have b5:(1:Int)≤d:=by omega
 have b6:(1:Int)≤q:=by omega
 have b7:(1:Int)≤a:=by omega
 have b8:(1:Int)≤p:=by omega
 have HQ:=aH (aI hq0 (aI s1 s2))
 obtain ⟨res,hqq⟩:∃ res,res=(if q=1 then (⟨#[45]⟩++Ab.decB p) else (⟨#[45]⟩++Ab.decB p)++⟨#[47]⟩++Ab.decB q):=⟨_,rfl⟩
 rw [← hqq]
 have HQQ:=aH hqq
 clear hqq
 clear hg hp hq hpa hqd hg0 hd0 ha hd hq0 s1 s2
 go_enter Tryz.func117,Tryz.ntmps117
 go_wp2_with fail
 rw [show max (-(a:Int)) (a:Int)=(a:Int) by omega]
 refine (cg.out).mono ?_
 rintro e w1 ⟨rfl,hb⟩
 go_wp2
 go_quiet (fail)
 have hb2:=bW hb nq
 clear hb
 generalize w1.drewN nq=w2 at *
 rw [T.out.1,T.out.2]
 go_wp2_with fail
 rw [show max (-(p:Int)) (p:Int)=(p:Int) by omega]
 refine (c1.out _).mono ?_
 rintro e w3 ⟨rfl,rfl⟩
 obtain ⟨h0,s1,s2⟩:=HQ.out
 by_cases hq1:q=1
 ·have k1:¬ (1:Int)<q:=by omega
  have hr:=aH (HQQ.out.trans (if_pos hq1))
  clear hq1 h0 HQQ
  go_wp2
  go_ret
  have E:(⟨#[45]⟩:ByteArray)++Ab.decB p=res:=by rw [hr.out]
  exact ⟨congrArg (fun s=>Ending.returned (Value.string s)) E,hb2⟩
 ·have k1:(1:Int)<q:=by omega
  have hr:=aH (HQQ.out.trans (if_neg hq1))
  clear hq1 h0 HQQ
  go_wp2_with fail
  refine (c2.out _).mono ?_
  rintro e w4 ⟨rfl,rfl⟩
  go_wp2
  go_ret
  have E:(⟨#[45]⟩:ByteArray)++Ab.decB p++⟨#[47]⟩++Ab.decB q=res:=by rw [hr.out]
  exact ⟨congrArg (fun s=>Ending.returned (Value.string s)) E,hb2⟩
end
namespace Ab
open Go.RowKit Pl
def zeroT:ByteArray:=⟨#[48]⟩
def oneT:ByteArray:=⟨#[49]⟩
def decF (s:ByteArray):Bool:=if s.size=0 then false else if 1<s.size∧(aC s).head?=some 48 then false else dQ s
theorem iH {s:ByteArray} (h:decF s=true):s=decB (aU (aC s)):=by
 unfold decF at h
 split at h
 ·cases h
 ·split at h
  ·cases h
  ·rename_i h0 h1
   have hd:=digitsB_iff.1 h
   refine ba_ext ?_
   rw [dC]
   refine (zU (aC s).length (aC s) rfl hd ?_ ?_).symm
   ·intro e;apply h0;rw [← aE,e];rfl
   ·by_cases hl:(aC s).length=1
    ·exact .inl hl
    ·right;intro e;apply h1
     refine ⟨?_,e⟩
     rw [aE] at hl
     omega
def iA (s:ByteArray):Bool:=(aC s).head?==some 45
def bF (s:ByteArray):ByteArray:=if iA s=true then s.extract 1 s.size else s
def bT (s:ByteArray):Int :=
 if decF ((bF s).extract 0 (aJ (bF s)))=false∨(iA s=true∧(bF s).extract 0 (aJ (bF s))=zeroT) then 1
 else if aJ (bF s)<(bF s).size∧(decF ((bF s).extract (aJ (bF s)+1) (bF s).size)=false∨(bF s).extract (aJ (bF s)+1) (bF s).size=zeroT∨(bF s).extract (aJ (bF s)+1) (bF s).size=oneT) then 1
 else if 600<aJ (bF s)∨600<(bF s).size-aJ (bF s)-1 then 4
 else if aJ (bF s)<(bF s).size∧Nat.gcd (aU (aC ((bF s).extract 0 (aJ (bF s))))) (aU (aC ((bF s).extract (aJ (bF s)+1) (bF s).size)))≠1 then 1 else 0
theorem decB_inj {n m:Nat} (h:decB n=decB m):n=m:=by rw [← gN n,h,gN]
theorem wO (s:ByteArray):s.extract 0 s.size=s:=by
 refine ba_ext ?_
 show aC (s.extract 0 s.size)=aC s
 rw [aS,List.drop_zero,List.take_of_length_le (by rw [aE];exact aR _)]
theorem slash_split {s:ByteArray} (h:aJ s<s.size):s=s.extract 0 (aJ s)++(⟨#[47]⟩++s.extract (aJ s+1) s.size):=by
 refine ba_ext ?_
 show aC s=aC _
 have e1:aC (s.extract 0 (aJ s)++(⟨#[47]⟩++s.extract (aJ s+1) s.size))=aC (s.extract 0 (aJ s))++(47::aC (s.extract (aJ s+1) s.size)):=by simp [aC]
 have e2:(aC s).take s.size=aC s:=List.take_of_length_le (by rw [aE];exact aR _)
 rw [e1,aS,aS,List.drop_zero,e2]
 have hl:aJ s<(aC s).length:=by rw [aE];exact h
 have hk:(aC s)[aJ s]'hl=47:=by
  have:=List.findIdx_getElem (xs:=aC s) (p:=fun c=>c==47) (w:=hl)
  exact eq_of_beq this
 conv=>lhs;rw [← List.take_append_drop (aJ s) (aC s),List.drop_eq_getElem_cons hl,hk]
theorem neg_split {s:ByteArray} (h:iA s=true):s=⟨#[45]⟩++bF s:=by
 have hh:(aC s).head?=some 45:=eq_of_beq h
 refine ba_ext ?_
 show aC s=aC _
 unfold bF
 rw [if_pos h]
 have e1:aC (⟨#[45]⟩++s.extract 1 s.size)=45::aC (s.extract 1 s.size):=by simp [aC]
 rw [e1,aS,List.take_of_length_le (by rw [aE];exact aR _)]
 generalize aC s=l at hh ⊢
 cases l with
 | nil=>cases hh
 | cons c r =>
   injection hh with hh
   rw [hh];rfl
theorem strip_write (q:Rat):iA (writeB q)=decide (q.num<0)∧bF (writeB q)=bA q:=by
 by_cases hn:q.num<0
 ·obtain ⟨f1,⟨h0,hc⟩,f3,f4,f5⟩:=gZ hn
  have e:iA (writeB q)=true:=by
   unfold iA
   have h2:aC (writeB q)=45::aC (bA q):=by rw [mE hn];simp [aC]
   rw [h2];rfl
  refine ⟨by rw [e,decide_eq_true hn],?_⟩
  unfold bF
  rw [if_pos e,f3]
 ·have e:iA (writeB q)=false:=by
   unfold iA
   obtain ⟨c,r,h1,h2⟩:=uA q
   have h3:aC (bA q)=c::r:=h1
   rw [dX hn,h3]
   show (some c==some 45)=false
   rw [beq_eq_false_iff_ne]
   intro h
   injection h with h
   rw [h] at h2
   exact absurd h2 (by decide)
  refine ⟨by rw [e,decide_eq_false hn],?_⟩
  unfold bF
  rw [if_neg (by rw [e];exact Bool.false_ne_true),dX hn]
theorem body_cut (q:Rat):(bA q).extract 0 (aJ (bA q))=decB q.num.natAbs∧(q.den≠1→(bA q).extract (aJ (bA q)+1) (bA q).size=decB q.den)∧(aJ (bA q)<(bA q).size↔q.den≠1):=by
 have hsl:=rH q
 have hsz:=sW q
 refine ⟨?_,fun hd=>?_,?_⟩
 ·rw [hsl]
  by_cases h:q.den=1
  ·rw [mN h,cE,wO]
  ·rw [oU h,cE,ext_lo]
 ·rw [hsl,oU hd,cE]
  exact ext_hi _ _
 ·rw [hsl,hsz]
  by_cases h:q.den=1
  ·rw [if_pos h];simp [h]
  ·rw [if_neg h];simp [h];omega
theorem rJ {s:ByteArray} (h:bT s=0):∃ q:Rat,s=writeB q∧(decB q.num.natAbs).size≤600∧(decB q.den).size≤600:=by
 unfold bT at h
 split at h
 ·exact absurd h (by decide)
 rename_i g1
 split at h
 ·exact absurd h (by decide)
 rename_i g2
 split at h
 ·exact absurd h (by decide)
 rename_i g3
 split at h
 ·exact absurd h (by decide)
 rename_i g4
 clear h
 obtain ⟨t,ht⟩:∃ t,t=bF s:=⟨_,rfl⟩
 rw [← ht] at g1 g2 g3 g4
 obtain ⟨k,hk⟩:∃ k,k=aJ t:=⟨_,rfl⟩
 rw [← hk] at g1 g2 g3 g4
 have ha:decF (t.extract 0 k)=true:=by
  cases e:decF (t.extract 0 k) with
  | true=>rfl
  | false=>exact absurd (.inl e) g1
 have hz:iA s=true→t.extract 0 k≠zeroT:=fun e1 e2=>g1 (.inr ⟨e1,e2⟩)
 have hae:=iH ha
 obtain ⟨n,hn⟩:∃ n,n=aU (aC (t.extract 0 k)):=⟨_,rfl⟩
 rw [← hn] at hae g4
 have hkl:k≤t.size:=by rw [hk];exact cC t
 have hasz:(decB n).size=k:=by rw [← hae,ByteArray.size_extract];omega
 have hn0:iA s=true→n≠0:=by
  intro e1 e2
  apply hz e1
  rw [hae,e2,dec0];rfl
 obtain ⟨z,hz1,hz2⟩:∃ z:Int,z.natAbs=n∧decide (z<0)=iA s:=by
  cases e:iA s with
  | true=>exact ⟨-(n:Int),by simp,by have:=hn0 e;rw [decide_eq_true_iff];omega⟩
  | false=>exact ⟨(n:Int),by simp,by rw [decide_eq_false_iff_not];omega⟩
 have fin:∀ q:Rat,q.num=z→bA q=t→s=writeB q:=by
  intro q e1 e2
  by_cases hneg:iA s=true
  ·have:q.num<0:=by rw [e1];exact of_decide_eq_true (hz2.trans hneg)
   rw [mE this,e2,ht]
   exact neg_split hneg
  ·have h0:iA s=false:=by cases e:iA s with
    | true=>exact absurd e hneg
    | false=>rfl
   have:¬ q.num<0:=by rw [e1];exact of_decide_eq_false (hz2.trans h0)
   rw [dX this,e2,ht]
   unfold bF
   rw [if_neg hneg]
 by_cases hlt:k<t.size
 ·have hd:decF (t.extract (k+1) t.size)=true:=by
   cases e:decF (t.extract (k+1) t.size) with
   | true=>rfl
   | false=>exact absurd ⟨hlt,.inl e⟩ g2
  have hde:=iH hd
  obtain ⟨m,hm⟩:∃ m,m=aU (aC (t.extract (k+1) t.size)):=⟨_,rfl⟩
  rw [← hm] at hde g4
  have hm0:m≠0:=by
   intro e
   exact g2 ⟨hlt,.inr (.inl (by rw [hde,e,dec0];rfl))⟩
  have hm1:m≠1:=by
   intro e
   exact g2 ⟨hlt,.inr (.inr (by rw [hde,e,dec1];rfl))⟩
  have hg:Nat.gcd n m=1:=by
   by_cases e:Nat.gcd n m=1
   ·exact e
   ·exact absurd ⟨hlt,e⟩ g4
  obtain ⟨p1,p2⟩:=sV z hm0
  rw [hz1,hg] at p1 p2
  have q1:(mkRat z m).num=z:=by rw [p1];simp
  have q2:(mkRat z m).den=m:=by rw [p2];simp
  refine ⟨mkRat z m,fin _ q1 ?_,by rw [q1,hz1,hasz];omega,?_⟩
  ·rw [oU (by rw [q2];exact hm1),cE,q1,hz1,q2,← hae,← hde,hk]
   exact (slash_split (hk▸hlt)).symm
  ·rw [q2,← hde,ByteArray.size_extract];omega
 ·have hkt:k=t.size:=by omega
  have q1:((z:Int):Rat).num=z:=rfl
  have q2:((z:Int):Rat).den=1:=rfl
  refine ⟨(z:Rat),fin _ q1 ?_,by rw [q1,hz1,hasz];omega,by rw [q2,dec1];decide⟩
  rw [mN q2,cE,q1,hz1,← hae,hkt,wO]
theorem sY {o:Oper} {ρ:Operand→Value} {w:World} {x y:Operand} {a b:Int} (ho:o.op = .binOp .mul 3 x y 3) (hx:ρ x = .int .i64 a) (hy:ρ y = .int .i64 b) (h:-9223372036854775808≤a*b∧a*b≤9223372036854775807) :
 (execOp ρ o).run Tryz.prog w = .ok (.value (.int .i64 (a*b))) w:=by
 simp only [execOp,ho,hx,hy]
 refine bI ?_
 have e:IntKind.i64.wrap (a*b)=a*b:=by rw [IntWalk.i64_left,IntWalk.wrap64_in _ h]
 simp [go_sem,e]
theorem addi_run {o:Oper} {ρ:Operand→Value} {w:World} {x y:Operand} {a b:Int} (ho:o.op = .binOp .add 3 x y 3) (hx:ρ x = .int .i64 a) (hy:ρ y = .int .i64 b) (h:-9223372036854775808≤a+b∧a+b≤9223372036854775807) :
 (execOp ρ o).run Tryz.prog w = .ok (.value (.int .i64 (a+b))) w:=by
 simp only [execOp,ho,hx,hy]
 refine bI ?_
 have e:IntKind.i64.wrap (a+b)=a+b:=by rw [IntWalk.i64_left,IntWalk.wrap64_in _ h]
 simp [go_sem,e]
theorem nN {n k:Nat} (h:(decB n).size≤k):n<10^k:=by
 have:=gA (gM n)
 rw [gN,aE] at this
 exact Nat.lt_of_lt_of_le this (Nat.pow_le_pow_right (by omega) h)
abbrev qy (q:Rat):AV Kr := .tup [.sc (.sp (iN (.int .i64 q.num) rfl false (fun h=>by cases h))),.sc (.sp (iN (.int .i64 (q.den:Int)) rfl false (fun h=>by cases h))),.sc (.lit (.bool true))]
theorem sZ {q:Rat} {β:List Nat} {v:Value} {w:World} (h:(qy q).holds β v w):(qany true).holds β v w:=by
 obtain ⟨vs,rfl,a,r,rfl,h1,b,r2,rfl,h2,c,r3,rfl,h3,h4⟩:=h
 exact ⟨_,rfl,a,_,rfl,⟨q.num,h1⟩,b,_,rfl,⟨(q.den:Int),h2⟩,c,_,rfl,h3,h4⟩
theorem to_qy1 {q:Rat} {n:Int} (hn:n=q.num) (hd:q.den=1) {β:List Nat} {v:Value} {w:World} (h:(AV.tup [.sc (.sp (iN (.int .i64 n) rfl false (fun h=>by cases h))),.sc (.lit (.int .i64 1)),.sc (.lit (.bool true))]:AV Kr).holds β v w):(qy q).holds β v w:=by
 subst hn
 obtain ⟨vs,rfl,a,r,rfl,h1,b,r2,rfl,h2,c,r3,rfl,h3,h4⟩:=h
 have e:[b] = [.int .i64 1]:=h2.1
 exact ⟨_,rfl,a,_,rfl,h1,b,_,rfl,(by show [b] = [Value.int .i64 (q.den:Int)];rw [hd];exact e),c,_,rfl,h3,h4⟩
theorem to_qy2 {q:Rat} {n:Int} {d:Nat} (hn:n=q.num) (hd:d=q.den) {β:List Nat} {v:Value} {w:World} (h:(AV.tup [.sc (.sp (iN (.int .i64 n) rfl false (fun h=>by cases h))),.sc (.sp (iN (.int .i64 (d:Int)) rfl false (fun h=>by cases h))),.sc (.lit (.bool true))]:AV Kr).holds β v w):(qy q).holds β v w:=by
 subst hn
 subst hd
 exact h
theorem iO {q:Rat} (hq:Sq q):jF 116 [rS (writeB q)] (qy q):=by
 have hbs:=sW q
 have hsl:=rH q
 obtain ⟨k1,k2,k3⟩:=body_cut q
 have n9:=nN hq.1
 have hs9:=hq.1
 have h100:(10:Nat)^9=1000000000:=by decide
 have v1:=valueF (d:=decB q.num.natAbs) (n:=q.num.natAbs) (gM _) (by omega) (gN _)
 by_cases hn:q.num<0
 ·obtain ⟨f1,f2,f3,f4,f5⟩:=gZ hn
  have e1:-(q.num.natAbs:Int)=q.num:=by omega
  by_cases hd:q.den=1
  ·rw [if_pos hd] at hbs
   refine mM (quick_yes1n (u:=bA q) (d1:=decB q.num.natAbs) (n1:=q.num.natAbs) ?_ ?_ f1 f2 f3 f4 (by omega) ?_ ?_ k1 v1 ?_) (fun β v w h=>to_qy1 e1 hd h)
   ·rw [decide_eq_false_iff_not];omega
   ·rw [decide_eq_true_iff];omega
   ·rw [hsl,decide_eq_false_iff_not];omega
   ·rw [hsl,decide_eq_false_iff_not];omega
   ·rw [hsl,decide_eq_false_iff_not];omega
  ·rw [if_neg hd] at hbs
   have hd9:(decB q.den).size≤9:=by rcases hq.2 with h|h;exact absurd h hd;exact h
   have v2:=valueF (d:=decB q.den) (n:=q.den) (gM _) (by omega) (gN _)
   refine mM (quick_yes2n (u:=bA q) (d1:=decB q.num.natAbs) (d2:=decB q.den) (n1:=q.num.natAbs) (n2:=q.den) ?_ ?_ f1 f2 f3 f4 (by omega) ?_ ?_ k1 v1 ?_ (k2 hd) v2) (fun β v w h=>to_qy2 e1 rfl h)
   ·rw [decide_eq_false_iff_not];omega
   ·rw [decide_eq_true_iff];omega
   ·rw [hsl,decide_eq_false_iff_not];omega
   ·rw [hsl,decide_eq_false_iff_not];omega
   ·rw [hsl,decide_eq_true_iff];omega
 ·have hw:=dX hn
  obtain ⟨c,c1,c2⟩:=uM q
  have h0:0<(bA q).size:=c1.1
  have e1:(q.num.natAbs:Int)=q.num:=by omega
  rw [hw]
  by_cases hd:q.den=1
  ·rw [if_pos hd] at hbs
   refine mM (quick_yes1p (s:=bA q) (d1:=decB q.num.natAbs) (n1:=q.num.natAbs) ?_ ?_ c1 c2 ?_ ?_ k1 v1 ?_) (fun β v w h=>to_qy1 e1 hd h)
   ·rw [decide_eq_false_iff_not];omega
   ·rw [decide_eq_true_iff];omega
   ·rw [hsl,decide_eq_false_iff_not];omega
   ·rw [hsl,decide_eq_false_iff_not];omega
   ·rw [hsl,decide_eq_false_iff_not];omega
  ·rw [if_neg hd] at hbs
   have hd9:(decB q.den).size≤9:=by rcases hq.2 with h|h;exact absurd h hd;exact h
   have v2:=valueF (d:=decB q.den) (n:=q.den) (gM _) (by omega) (gN _)
   refine mM (quick_yes2p (s:=bA q) (d1:=decB q.num.natAbs) (d2:=decB q.den) (n1:=q.num.natAbs) (n2:=q.den) ?_ ?_ c1 c2 ?_ ?_ k1 v1 ?_ (k2 hd) v2) (fun β v w h=>to_qy2 e1 rfl h)
   ·rw [decide_eq_false_iff_not];omega
   ·rw [decide_eq_true_iff];omega
   ·rw [hsl,decide_eq_false_iff_not];omega
   ·rw [hsl,decide_eq_false_iff_not];omega
   ·rw [hsl,decide_eq_true_iff];omega
theorem ofF {n:Int} {d:Nat} (hn:n.natAbs≤4000000000000000000) (hd:d≤4000000000000000000) (h0:0<d):jF 117 [rI n,rI (d:Int)] (rS (writeB (mkRat n d))):=by
 intro β w vs hv
 obtain ⟨v,u,rfl,h1,h2⟩:=eB hv
 rw [bB h1,bB h2]
 have hw:=rG n h0
 by_cases hneg:n<0
 ·have e:n = -(n.natAbs:Int):=by omega
  have h:=of_neg n.natAbs d w (by omega) hn hd h0 _ _ _ rfl rfl rfl
  have hp0:0<n.natAbs/Nat.gcd n.natAbs d:=Nat.div_pos (Nat.gcd_le_left _ (by omega)) (Nat.gcd_pos_of_pos_right _ h0)
  have et:aQ (gY (decide (n<0)) (n.natAbs/Nat.gcd n.natAbs d))=⟨#[45]⟩++decB (n.natAbs/Nat.gcd n.natAbs d):=by
   rw [decide_eq_true hneg]
   generalize n.natAbs/Nat.gcd n.natAbs d=m at hp0
   show aQ (-(m:Int))=_
   unfold aQ
   rw [if_pos (by omega)]
   simp
  rw [et,cE] at hw
  rw [← e,hw] at h
  exact h.mono fun e w' ⟨e1,e2⟩=>⟨_,e1,e2,cQ⟩
 ·have e:n=(n.natAbs:Int):=by omega
  have h:=of_pos n.natAbs d w hn hd h0 _ _ _ rfl rfl rfl
  have et:aQ (gY (decide (n<0)) (n.natAbs/Nat.gcd n.natAbs d))=decB (n.natAbs/Nat.gcd n.natAbs d):=by
   rw [decide_eq_false hneg]
   exact cE _
  rw [et,cE] at hw
  rw [← e,hw] at h
  exact h.mono fun e w' ⟨e1,e2⟩=>⟨_,e1,e2,cQ⟩
section
variable {p q:Rat}
theorem sq_lt (h:Sq q):q.num.natAbs<1000000000∧q.den<1000000000:=by
 have h100:(10:Nat)^9=1000000000:=by decide
 refine ⟨by rw [← h100];exact nN h.1,?_⟩
 rcases h.2 with h|h
 ·omega
 ·rw [← h100];exact nN h
theorem rK {a b:Nat} (ha:a<1000000000) (hb:b<1000000000):a*b<1000000000000000000:=Nat.mul_lt_mul'' ha hb
theorem rL {a b:Int} (ha:a.natAbs<1000000000) (hb:b.natAbs<1000000000):(a*b).natAbs<1000000000000000000:=by rw [Int.natAbs_mul];exact rK ha hb
theorem mulS (hp:Sq p) (hq:Sq q):jF 58 [rS (writeB p),rS (writeB q)] (rS (writeB (p*q))):=by
 obtain ⟨a1,a2⟩:=sq_lt hp
 obtain ⟨b1,b2⟩:=sq_lt hq
 have m1:=rL a1 b1
 have m2:=rK a2 b2
 have hof:=ofF (n:=p.num*q.num) (d:=p.den*q.den) (by omega) (by omega) (Nat.mul_pos p.den_pos q.den_pos)
 rw [← Rat.mul_def',Int.natCast_mul] at hof
 have m3:((p.den:Int)*(q.den:Int))<1000000000000000000:=by rw [← Int.natCast_mul];omega
 have m4:0≤((p.den:Int)*(q.den:Int)):=by rw [← Int.natCast_mul];omega
 have q1:=iO hp
 have q2:=iO hq
 generalize writeB p=s at *
 generalize writeB q=u at *
 refine jT Tryz.func58 fun w00=>?_
 refine jB 116 [rS s] q1 ?_
 refine jB 116 [rS u] q2 ?_
 refine jL (.binOp .mul 3 (.tmp 31) (.tmp 32) 3) (.tmp 31) (.tmp 32) (rI p.num) (rI q.num) (rI (p.num*q.num)) (fun ρ o β w ho hx hy=>⟨_,sY ho (bB hx) (bB hy) (by omega),cQ⟩) ?_
 refine jL (.binOp .mul 3 (.tmp 34) (.tmp 35) 3) (.tmp 34) (.tmp 35) (rI (p.den:Int)) (rI (q.den:Int)) (rI ((p.den:Int)*(q.den:Int))) (fun ρ o β w ho hx hy=>⟨_,sY ho (bB hx) (bB hy) (by omega),cQ⟩) ?_
 refine jB 117 [rI (p.num*q.num),rI ((p.den:Int)*(q.den:Int))] hof ?_
 exact jS Tryz.func58
theorem addS (hp:Sq p) (hq:Sq q):jF 120 [rS (writeB p),rS (writeB q)] (rS (writeB (p+q))):=by
 obtain ⟨a1,a2⟩:=sq_lt hp
 obtain ⟨b1,b2⟩:=sq_lt hq
 have m1:(p.num*(q.den:Int)).natAbs<1000000000000000000:=rL a1 (by omega)
 have m5:(q.num*(p.den:Int)).natAbs<1000000000000000000:=rL b1 (by omega)
 have m2:=rK a2 b2
 have hof:=ofF (n:=p.num*(q.den:Int)+q.num*(p.den:Int)) (d:=p.den*q.den) (by omega) (by omega) (Nat.mul_pos p.den_pos q.den_pos)
 rw [← Rat.add_def',Int.natCast_mul] at hof
 have m3:((p.den:Int)*(q.den:Int))<1000000000000000000:=by rw [← Int.natCast_mul];omega
 have m4:0≤((p.den:Int)*(q.den:Int)):=by rw [← Int.natCast_mul];omega
 have q1:=iO hp
 have q2:=iO hq
 generalize writeB p=s at *
 generalize writeB q=u at *
 refine jT Tryz.func120 fun w00=>?_
 refine jB 116 [rS s] q1 ?_
 refine jB 116 [rS u] q2 ?_
 refine jL (.binOp .mul 3 (.tmp 31) (.tmp 32) 3) (.tmp 31) (.tmp 32) (rI p.num) (rI (q.den:Int)) (rI (p.num*(q.den:Int))) (fun ρ o β w ho hx hy=>⟨_,sY ho (bB hx) (bB hy) (by omega),cQ⟩) ?_
 refine jL (.binOp .mul 3 (.tmp 34) (.tmp 35) 3) (.tmp 34) (.tmp 35) (rI q.num) (rI (p.den:Int)) (rI (q.num*(p.den:Int))) (fun ρ o β w ho hx hy=>⟨_,sY ho (bB hx) (bB hy) (by omega),cQ⟩) ?_
 refine jL (.binOp .add 3 (.tmp 33) (.tmp 36) 3) (.tmp 33) (.tmp 36) (rI (p.num*(q.den:Int))) (rI (q.num*(p.den:Int))) (rI (p.num*(q.den:Int)+q.num*(p.den:Int))) (fun ρ o β w ho hx hy=>⟨_,addi_run ho (bB hx) (bB hy) (by omega),cQ⟩) ?_
 refine jL (.binOp .mul 3 (.tmp 38) (.tmp 39) 3) (.tmp 38) (.tmp 39) (rI (p.den:Int)) (rI (q.den:Int)) (rI ((p.den:Int)*(q.den:Int))) (fun ρ o β w ho hx hy=>⟨_,sY ho (bB hx) (bB hy) (by omega),cQ⟩) ?_
 refine jB 117 [rI (p.num*(q.den:Int)+q.num*(p.den:Int)),rI ((p.den:Int)*(q.den:Int))] hof ?_
 exact jS Tryz.func120
theorem lA (hp:Zs 10000 p) (hq:Zs 10000 q):jF 58 [rS (writeB p),rS (writeB q)] (rS (writeB (p*q))):=by
 by_cases h1:Sq p
 ·by_cases h2:Sq q
  ·exact mulS h1 h2
  ·exact mulBig hp hq (mM (iO h1) fun _ _ _=>sZ) (mM (kY h2) fun _ _ _=>kZ) rfl
 ·by_cases h2:Sq q
  ·exact mulBig hp hq (mM (kY h1) fun _ _ _=>kZ) (mM (iO h2) fun _ _ _=>sZ) rfl
  ·exact mulBig hp hq (mM (kY h1) fun _ _ _=>kZ) (mM (kY h2) fun _ _ _=>kZ) rfl
theorem refAddF (hp:Zs 10000 p) (hq:Zs 10000 q):jF 120 [rS (writeB p),rS (writeB q)] (rS (writeB (p+q))):=by
 by_cases h1:Sq p
 ·by_cases h2:Sq q
  ·exact addS h1 h2
  ·exact addBig hp hq (mM (iO h1) fun _ _ _=>sZ) (mM (kY h2) fun _ _ _=>kZ) rfl
 ·by_cases h2:Sq q
  ·exact addBig hp hq (mM (kY h1) fun _ _ _=>kZ) (mM (iO h2) fun _ _ _=>sZ) rfl
  ·exact addBig hp hq (mM (kY h1) fun _ _ _=>kZ) (mM (kY h2) fun _ _ _=>kZ) rfl
end
theorem tA {o:Oper} {ρ:Operand→Value} {w:World} {x y:Operand} {a:Nat} (ho:o.op = .binOp .sub 3 x y 3) (hx:ρ x = .int .i64 (a:Int)) (hy:ρ y = .int .i64 1) (ha:a≤9223372036854775807) :
 (execOp ρ o).run Tryz.prog w = .ok (.value (.int .i64 ((a:Int)-1))) w:=by
 simp only [execOp,ho,hx,hy]
 refine bI ?_
 have e:IntKind.i64.wrap ((a:Int)-1)=(a:Int)-1:=by
  rw [IntWalk.i64_left,IntWalk.wrap64_in _ ⟨by omega,by omega⟩]
 simp [go_sem,e]
theorem pP {o:Oper} {ρ:Operand→Value} {w:World} {x y:Operand} {a b:Int} {r:Bool} (ho:o.op = .binOp .neq 3 x y 3) (hx:ρ x = .int .i64 a) (hy:ρ y = .int .i64 b) (h:(a != b)=r) :
 (execOp ρ o).run Tryz.prog w = .ok (.value (.bool r)) w:=by
 simp only [execOp,ho,hx,hy]
 refine bI ?_
 rw [← h]
 exact bO (by kernel_rfl) w
section
variable {s t a d:ByteArray} {c k n m g:Nat}
theorem check_empty (h0:decide ((0:Int)<(s.size:Nat))=false) (hsl:jF 106 [rS s] (rI (0:Int))) (ha:s.extract 0 0=a) (fa:jF 107 [rS a] (rl false)):jF 48 [rS s] (.fv (.sc (.lit (.int .i64 1)))):=by
 refine jT Tryz.func48 fun w00=>?_
 refine dR 9 9 Tryz.underlying9 s ?_
 refine iX 10 0 (s.size:Nat) false h0 ?_
 refine jB 106 [rS s] hsl ?_
 refine jL (.slice 9 (.tmp 21) none (some (.tmp 22)) none) (.tmp 21) (.tmp 22) (rS s) (rI (0:Int)) (rS a) (fun ρ o β w ho hx hy=>?_) ?_
 ·have:=oS (k:=0) (w:=w) ho Tryz.underlying9 (bB hx) (bB hy) (Nat.zero_le _)
  rw [ha] at this
  exact ⟨_,this,cQ⟩
 refine jB 107 [rS a] fa ?_
 exact jS Tryz.func48
end
end Ab
section
open Go.RowKit Pl
theorem decForm_any (s:ByteArray) (w:World) (hs:s.size≤9223372036854775807):Calls Tryz.prog 107 #[.string s] w fun e w'=>e = .returned (.bool (Ab.decF s))∧w'=w:=by
 have cd:=aH (fun W=>digits_any s W hs)
 by_cases h0:s.size=0
 ·have hr:Ab.decF s=false:=by unfold Ab.decF;rw [if_pos h0]
  have k0:(s.size:Int)=0:=by omega
  rw [hr]
  clear hr h0 cd
  go_enter Tryz.func107,Tryz.ntmps107
  go_wp2
  go_ret
  exact ⟨rfl,rfl⟩
 ·have hp:0<s.size:=by omega
  obtain ⟨c,hc⟩:∃ c:Nat,(s[0]'hp).toNat=c:=⟨_,rfl⟩
  have hh:(aC s).head?=some 48↔c=48:=by
   have h1:=cL hp
   rw [List.head?_eq_getElem?,h1,← hc]
   constructor
   ·intro h;injection h with h;rw [h];rfl
   ·intro h;congr 1;exact UInt8.toNat_inj.1 h
  have k0:((s.size:Int)==0)=false:=by rw [beq_eq_false_iff_ne];omega
  have p0:(0:Int)<s.size:=by omega
  obtain ⟨r,hr⟩:∃ r,r=Ab.decF s:=⟨_,rfl⟩
  rw [← hr]
  unfold Ab.decF at hr
  rw [if_neg h0] at hr
  by_cases h1:1<s.size
  ·have k1:(1:Int)<s.size:=by omega
   by_cases h48:c=48
   ·rw [if_pos ⟨h1,hh.2 h48⟩] at hr
    subst h48
    have HR:=aH hr
    clear hr hh h1 h0 cd
    go_enter Tryz.func107,Tryz.ntmps107
    go_wp2
    go_ret
    exact ⟨by rw [HR.out];rfl,rfl⟩
   ·rw [if_neg (fun h=>h48 (hh.1 h.2))] at hr
    have k2:((c:Int)==48)=false:=by simp;omega
    have k3:¬ (c:Int)=48:=by omega
    have HR:=aH hr
    clear hr hh h1 h0 h48
    go_enter Tryz.func107,Tryz.ntmps107
    go_wp2_with fail
    refine (cd.out _).mono ?_
    rintro e w' ⟨rfl,rfl⟩
    go_wp2
    go_ret
    exact ⟨by rw [HR.out];rfl,rfl⟩
  ·rw [if_neg (fun h=>h1 h.1)] at hr
   have k1:¬ (1:Int)<s.size:=by omega
   have HR:=aH hr
   clear hr hh h1 h0
   go_enter Tryz.func107,Tryz.ntmps107
   go_wp2_with fail
   refine (cd.out _).mono ?_
   rintro e w' ⟨rfl,rfl⟩
   go_wp2
   go_ret
   exact ⟨by rw [HR.out];rfl,rfl⟩
end
namespace Ab
open Go.RowKit Pl
theorem oW {s:ByteArray} (hs:s.size≤9223372036854775807):jF 107 [rS s] (rl (decF s)):=by
 intro β w vs hv
 obtain ⟨v,rfl,h1⟩:=dH hv
 rw [bB h1]
 exact (decForm_any s w hs).mono fun e w' ⟨e1,e2⟩=>⟨_,e1,by rw [e2];exact aB _ _,fA rfl⟩
theorem lit_I {z:Int} (β:List Nat) (v:Value) (w:World) (h:(AV.fv (.sc (.lit (.int .i64 z))):AV Kr).holds β v w):(rI z).holds β v w:=h.1
theorem dU {a b:ByteArray} (h:a≠b):(a.toList==b.toList)=false:=by
 rw [beq_eq_false_iff_ne]
 intro e
 apply h
 rw [Go.ByteArray.toList_eq,Go.ByteArray.toList_eq] at e
 exact ba_ext e
theorem neg_head {s:ByteArray} (h:iA s=true):∃ h:0<s.size,(s[0]'h).toNat=45:=by
 have hh:(aC s).head?=some 45:=eq_of_beq h
 have hp:0<s.size:=by
  rcases Nat.eq_zero_or_pos s.size with e|e
  ·rw [← aE] at e
   rw [List.eq_nil_of_length_eq_zero e] at hh
   cases hh
  ·exact e
 refine ⟨hp,?_⟩
 rw [List.head?_eq_getElem?,cL hp] at hh
 injection hh with hh
 rw [hh];rfl
theorem pos_head {s:ByteArray} (hp:0<s.size) (h:iA s=false):∃ c:Nat,(∃ h:0<s.size,(s[0]'h).toNat=c)∧((c:Int)==45)=false:=by
 refine ⟨_,⟨hp,rfl⟩,?_⟩
 have hh:¬ (aC s).head?=some 45:=by unfold iA at h;rw [beq_eq_false_iff_ne] at h;exact h
 rw [beq_eq_false_iff_ne]
 intro e
 apply hh
 rw [List.head?_eq_getElem?,cL hp]
 congr 1
 apply UInt8.toNat_inj.1
 show (s[0]'hp).toNat=45
 omega
theorem partsT {t:ByteArray} {k n m:Nat} (hts:t.size≤1000000000) (hk:aJ t=k) (hlt:k<t.size) (ha:t.extract 0 k=decB n) (hd:t.extract (k+1) t.size=decB m) (hn:(decB n).size≤100000) (hm:(decB m).size≤100000) :
 jF 108 [rS t] (.tup [.ag [.lit (.bool false),.sp (pS n)],.ag [.lit (.bool false),.sp (pS m)]]):=by
 have hsl:=fB (s:=t) (by omega)
 rw [hk] at hsl
 refine jT Tryz.func108 fun w00=>?_
 refine jB 106 [rS t] hsl ?_
 refine jL (.call ⟨.builtin .len,#[.tmp 10],#[9]⟩) (.tmp 10) (.tmp 10) (rS t) (rS t) (rI t.size) (fun ρ o β w ho hx _=>⟨_,sT ho Tryz.underlying9 (bB hx),cQ⟩) ?_
 refine jL (.binOp .eql 3 (.tmp 9) (.tmp 11) 3) (.tmp 9) (.tmp 11) (rI (k:Int)) (rI t.size) (rl false) (fun ρ o β w ho hx hy=>⟨.bool false,jJ ho (bB hx) (bB hy) (by simp;omega),fA rfl⟩) ?_
 refine jL (.slice 9 (.tmp 16) none (some (.tmp 17)) none) (.tmp 16) (.tmp 17) (rS t) (rI (k:Int)) (rS (decB n)) (fun ρ o β w ho hx hy=>?_) ?_
 ·have:=oS (w:=w) ho Tryz.underlying9 (bB hx) (bB hy) (by omega)
  rw [ha] at this
  exact ⟨_,this,cQ⟩
 refine jB 161 [rS (decB n)] (parseDF hn) ?_
 refine jL (.binOp .add 3 (.tmp 21) (.const (.int .i64 1)) 3) (.tmp 21) (.const (.int .i64 1)) (rI (k:Int)) (.fv (.sc (.lit (.int .i64 1)))) (rI ((k+1:Nat):Int)) (fun ρ o β w ho hx hy=>⟨_,sU ho (bB hx) (bY hy) (by omega),cQ⟩) ?_
 refine jL (.slice 9 (.tmp 20) (some (.tmp 22)) none none) (.tmp 20) (.tmp 22) (rS t) (rI ((k+1:Nat):Int)) (rS (decB m)) (fun ρ o β w ho hx hy=>?_) ?_
 ·have:=oT (w:=w) ho Tryz.underlying9 (bB hx) (bB hy) (by omega)
  rw [hd] at this
  exact ⟨_,this,cQ⟩
 refine jB 161 [rS (decB m)] (parseDF hm) ?_
 exact jS Tryz.func108
theorem fD {f:FuncId} {w00:World} {c:Cfg Kr} {fn:Func} {z:Int} (hfn:Tryz.prog.funcs[f]?=some fn) (hc:c.res Tryz.prog fn=some (.fv (.sc (.lit (.int .i64 z))))):Ok Tryz.prog f w00 (fun v w=>(rI z).holds [] v w) c :=
 ⟨xI hfn _ hc fun _ _ _ h=>h.1⟩
theorem check_neg {s:ByteArray} {z:Int} (hs:s.size≤9223372036854775807) (hne:0<s.size) (hn:iA s=true) (hz:bT s=z):jF 48 [rS s] (rI z):=by
 have hc:=neg_head hn
 have h1:1≤s.size:=hne
 have hsp:bF s=s.extract 1 s.size:=if_pos hn
 unfold bT at hz
 rw [hn] at hz
 obtain ⟨t,hext⟩:∃ t,s.extract 1 s.size=t:=⟨_,rfl⟩
 rw [hsp,hext] at hz
 have hts:t.size<9223372036854775807:=by rw [← hext,ByteArray.size_extract];omega
 have hsl:=fB (s:=t) (by omega)
 have hkl:=cC t
 have hks:aJ t=aJ t:=rfl
 generalize hk:aJ t=k at hsl hkl hks hz
 obtain ⟨a,ha⟩:∃ a,t.extract 0 k=a:=⟨_,rfl⟩
 obtain ⟨d,hd⟩:∃ d,t.extract (k+1) t.size=d:=⟨_,rfl⟩
 have hasz:a.size=k:=by rw [← ha,ByteArray.size_extract];omega
 have hdsz:d.size=t.size-(k+1):=by rw [← hd,ByteArray.size_extract];omega
 rw [ha,hd] at hz
 have fa:=oW (s:=a) (by omega)
 have fd:=oW (s:=d) (by omega)
 refine jT Tryz.func48 fun w00=>?_
 refine dR 9 9 Tryz.underlying9 s ?_
 refine iX 10 0 (s.size:Nat) true (by rw [decide_eq_true_iff];omega) ?_
 refine ridn 13 s hc ?_
 refine rsl1 17 9 Tryz.underlying9 s t h1 hext ?_
 refine jB 106 [rS t] hsl ?_
 refine rshi 21 22 9 Tryz.underlying9 t k a hkl ha ?_
 by_cases c1:decF a=false
 ·rw [if_pos (.inl c1)] at hz
  subst hz
  rw [c1] at fa
  refine jB 107 [rS a] fa ?_
  exact fD Tryz.func48 (by kernel_rfl)
 rw [Bool.not_eq_false] at c1
 rw [c1] at fa
 refine jB 107 [rS a] fa ?_
 refine ridnR 27 s hc ?_
 refine rshi 31 32 9 Tryz.underlying9 t k a hkl ha ?_
 by_cases cz:a=zeroT
 ·rw [if_pos (.inr ⟨rfl,cz⟩)] at hz
  subst hz
  refine uL 33 9 a ⟨#[48]⟩ true (by rw [cz];exact beq_self_eq_true zeroT.toList) ?_
  exact fD Tryz.func48 (by kernel_rfl)
 refine uL 33 9 a ⟨#[48]⟩ false (dU cz) ?_
 rw [if_neg (by rintro (h|h);exact absurd (h.symm.trans c1) (by decide);exact cz h.2)] at hz
 refine dR 38 9 Tryz.underlying9 t ?_
 by_cases hlt:k<t.size
 ·have fl:decide ((k:Int)<(t.size:Nat))=true:=by rw [decide_eq_true_iff];omega
  refine vX 37 39 (k:Int) (t.size:Nat) true fl ?_
  refine radd 43 k (by omega) ?_
  refine rslo 42 44 9 Tryz.underlying9 t (k+1) d (by omega) hd ?_
  by_cases d1:decF d=false
  ·rw [if_pos ⟨hlt,.inl d1⟩] at hz
   subst hz
   rw [d1] at fd
   refine jB 107 [rS d] fd ?_
   exact fD Tryz.func48 (by kernel_rfl)
  rw [Bool.not_eq_false] at d1
  rw [d1] at fd
  refine jB 107 [rS d] fd ?_
  refine radd 50 k (by omega) ?_
  refine rslo 49 51 9 Tryz.underlying9 t (k+1) d (by omega) hd ?_
  by_cases d0:d=zeroT
  ·rw [if_pos ⟨hlt,.inr (.inl d0)⟩] at hz
   subst hz
   refine uL 52 9 d ⟨#[48]⟩ true (by rw [d0];exact beq_self_eq_true zeroT.toList) ?_
   exact fD Tryz.func48 (by kernel_rfl)
  refine uL 52 9 d ⟨#[48]⟩ false (dU d0) ?_
  refine radd 57 k (by omega) ?_
  refine rslo 56 58 9 Tryz.underlying9 t (k+1) d (by omega) hd ?_
  by_cases d2:d=oneT
  ·rw [if_pos ⟨hlt,.inr (.inr d2)⟩] at hz
   subst hz
   refine uL 59 9 d ⟨#[49]⟩ true (by rw [d2];exact beq_self_eq_true oneT.toList) ?_
   exact fD Tryz.func48 (by kernel_rfl)
  refine uL 59 9 d ⟨#[49]⟩ false (dU d2) ?_
  rw [if_neg (by rintro ⟨_,h|h|h⟩;exact absurd (h.symm.trans d1) (by decide);exact d0 h;exact d2 h)] at hz
  by_cases l1:600<k
  ·rw [if_pos (.inl l1)] at hz
   subst hz
   refine iX 63 600 (k:Int) true (by rw [decide_eq_true_iff];omega) ?_
   exact fD Tryz.func48 (by kernel_rfl)
  refine iX 63 600 (k:Int) false (by rw [decide_eq_false_iff_not];omega) ?_
  refine dR 66 9 Tryz.underlying9 t ?_
  refine zI 67 68 t.size k hkl (by omega) ?_
  refine jL (.binOp .sub 3 (.tmp 69) (.const (.int .i64 1)) 3) (.tmp 69) (.const (.int .i64 1)) (rI ((t.size-k:Nat):Int)) (.fv (.sc (.lit (.int .i64 1)))) (rI (((t.size-k:Nat):Int)-1)) (fun ρ o β w ho hx hy=>⟨_,tA ho (bB hx) (bY hy) (by omega),cQ⟩) ?_
  by_cases l2:600<t.size-k-1
  ·rw [if_pos (.inr l2)] at hz
   subst hz
   refine iX 70 600 (((t.size-k:Nat):Int)-1) true (by rw [decide_eq_true_iff];omega) ?_
   exact fD Tryz.func48 (by kernel_rfl)
  refine iX 70 600 (((t.size-k:Nat):Int)-1) false (by rw [decide_eq_false_iff_not];omega) ?_
  rw [if_neg (by rintro (h|h) <;> omega)] at hz
  refine dR 74 9 Tryz.underlying9 t ?_
  refine vX 73 75 (k:Int) (t.size:Nat) true fl ?_
  have hae:=iH c1
  have hde:=iH d1
  generalize aU (aC a)=n at hae hz
  generalize aU (aC d)=m at hde hz
  have hp:=partsT (t:=t) (by omega) hk hlt (ha.trans hae) (hd.trans hde) (by rw [← hae];omega) (by rw [← hde];omega)
  have hm0:0<m:=Nat.pos_of_ne_zero fun e=>d0 (by rw [hde,e,dec0];rfl)
  have hg0:0<Nat.gcd n m:=Nat.gcd_pos_of_pos_right _ hm0
  have hg:=kX (a:=n) (b:=m) (fY (nN (n:=n) (k:=600) (by rw [← hae];omega)) (by omega)) (fY (nN (n:=m) (k:=600) (by rw [← hde];omega)) (by omega))
  obtain ⟨g,hgg⟩:∃ g,Nat.gcd n m=g:=⟨_,rfl⟩
  rw [hgg] at hg hg0
  simp only [hgg] at hz
  refine jB 108 [rS t] hp ?_
  refine jB 109 [di n,di m] hg ?_
  rcases Nat.lt_or_ge g B9 with gb|gb
  ·refine jL (.call ⟨.builtin .len,#[.tmp 87],#[86]⟩) (.tmp 87) (.tmp 87) (di g) (di g) (.fv (.sc (.lit (.int .i64 1)))) (fun ρ o β w ho hx _=>?_) ?_
   ·obtain ⟨ad,c,e,_⟩:=iV (bC.1 hx) hg0 gb
    exact ⟨_,lM ho e,fA rfl⟩
   refine jL (.indexAddr 86 (.tmp 91) (.const (.int .i64 0))) (.tmp 91) (.const (.int .i64 0)) (di g) (.fv (.sc (.lit (.int .i64 0)))) (rP g) (fun ρ o β w ho hx hy=>?_) ?_
   ·obtain ⟨ad,c,e,hc⟩:=iV (bC.1 hx) hg0 gb
    exact ⟨_,mK ho e (bY hy) (by omega),⟨ad,rfl,hc⟩⟩
   refine jL (.load 3 (.tmp 92)) (.tmp 92) (.tmp 92) (rP g) (rP g) (rI (g:Int)) (fun ρ o β w ho hx _=>?_) ?_
   ·obtain ⟨ad,e,hc⟩:=hx
    injection e with e
    exact ⟨_,uI ho e hc,cQ⟩
   have hne:(((g:Int) != 1) = !decide (g=1)):=by rw [Bool.eq_iff_iff];simp;omega
   by_cases g1:g=1
   ·rw [if_neg (by rintro ⟨_,h⟩;exact h g1)] at hz
    subst hz
    refine jL (.binOp .neq 3 (.tmp 93) (.const (.int .i64 1)) 3) (.tmp 93) (.const (.int .i64 1)) (rI (g:Int)) (.fv (.sc (.lit (.int .i64 1)))) (rl false) (fun ρ o β w ho hx hy=>⟨.bool false,pP ho (bB hx) (bY hy) (by rw [hne];simp [g1]),fA rfl⟩) ?_
    exact fD Tryz.func48 (by kernel_rfl)
   ·rw [if_pos ⟨hlt,g1⟩] at hz
    subst hz
    refine jL (.binOp .neq 3 (.tmp 93) (.const (.int .i64 1)) 3) (.tmp 93) (.const (.int .i64 1)) (rI (g:Int)) (.fv (.sc (.lit (.int .i64 1)))) (rl true) (fun ρ o β w ho hx hy=>⟨.bool true,pP ho (bB hx) (bY hy) (by rw [hne];simp [g1]),fA rfl⟩) ?_
    exact fD Tryz.func48 (by kernel_rfl)
  ·rw [if_pos ⟨hlt,by have:=dS;omega⟩] at hz
   subst hz
   refine jL (.call ⟨.builtin .len,#[.tmp 87],#[86]⟩) (.tmp 87) (.tmp 87) (di g) (di g) rNe (fun ρ o β w ho hx _=>?_) ?_
   ·obtain ⟨A,m,c,e,hm⟩:=wL (bC.1 hx) gb
    exact ⟨_,lM ho e,⟨(m:Int),rfl,by omega⟩⟩
   refine jL (.binOp .neq 3 (.tmp 88) (.const (.int .i64 1)) 3) (.tmp 88) (.const (.int .i64 1)) rNe (.fv (.sc (.lit (.int .i64 1)))) (rl true) (fun ρ o β w ho hx hy=>?_) ?_
   ·obtain ⟨x,e,hm⟩:=hx
    injection e with e
    exact ⟨.bool true,pP ho e (bY hy) (by simpa using hm),fA rfl⟩
   exact fD Tryz.func48 (by kernel_rfl)
 ·have fl:decide ((k:Int)<(t.size:Nat))=false:=by rw [decide_eq_false_iff_not];omega
  refine vX 37 39 (k:Int) (t.size:Nat) false fl ?_
  rw [if_neg (fun h=>hlt h.1)] at hz
  by_cases l1:600<k
  ·rw [if_pos (.inl l1)] at hz
   subst hz
   refine iX 63 600 (k:Int) true (by rw [decide_eq_true_iff];omega) ?_
   exact fD Tryz.func48 (by kernel_rfl)
  rw [if_neg (by rintro (h|h) <;> omega),if_neg (fun h=>hlt h.1)] at hz
  subst hz
  refine iX 63 600 (k:Int) false (by rw [decide_eq_false_iff_not];omega) ?_
  refine dR 66 9 Tryz.underlying9 t ?_
  refine zI 67 68 t.size k hkl (by omega) ?_
  refine jL (.binOp .sub 3 (.tmp 69) (.const (.int .i64 1)) 3) (.tmp 69) (.const (.int .i64 1)) (rI ((t.size-k:Nat):Int)) (.fv (.sc (.lit (.int .i64 1)))) (rI (((t.size-k:Nat):Int)-1)) (fun ρ o β w ho hx hy=>⟨_,tA ho (bB hx) (bY hy) (by omega),cQ⟩) ?_
  refine iX 70 600 (((t.size-k:Nat):Int)-1) false (by rw [decide_eq_false_iff_not];omega) ?_
  refine dR 74 9 Tryz.underlying9 t ?_
  refine vX 73 75 (k:Int) (t.size:Nat) false fl ?_
  exact fD Tryz.func48 (by kernel_rfl)
theorem check_pos {s:ByteArray} {z:Int} (hs:s.size≤9223372036854775807) (hne:0<s.size) (hn:iA s=false) (hz:bT s=z):jF 48 [rS s] (rI z):=by
 obtain ⟨c,hc,hc45⟩:=pos_head hne hn
 have hsp:bF s=s:=if_neg (by rw [hn];exact Bool.false_ne_true)
 unfold bT at hz
 rw [hn,hsp] at hz
 have hts:=hs
 have hsl:=fB (s:=s) (by omega)
 have hkl:=cC s
 have hks:aJ s=aJ s:=rfl
 generalize hk:aJ s=k at hsl hkl hks hz
 obtain ⟨a,ha⟩:∃ a,s.extract 0 k=a:=⟨_,rfl⟩
 obtain ⟨d,hd⟩:∃ d,s.extract (k+1) s.size=d:=⟨_,rfl⟩
 have hasz:a.size=k:=by rw [← ha,ByteArray.size_extract];omega
 have hdsz:d.size=s.size-(k+1):=by rw [← hd,ByteArray.size_extract];omega
 rw [ha,hd] at hz
 have fa:=oW (s:=a) (by omega)
 have fd:=oW (s:=d) (by omega)
 refine jT Tryz.func48 fun w00=>?_
 refine dR 9 9 Tryz.underlying9 s ?_
 refine iX 10 0 (s.size:Nat) true (by rw [decide_eq_true_iff];omega) ?_
 refine ridp 13 s c hc ?_
 refine rueq 14 c hc45 ?_
 refine jB 106 [rS s] hsl ?_
 refine rshi 21 22 9 Tryz.underlying9 s k a hkl ha ?_
 by_cases c1:decF a=false
 ·rw [if_pos (.inl c1)] at hz
  subst hz
  rw [c1] at fa
  refine jB 107 [rS a] fa ?_
  exact fD Tryz.func48 (by kernel_rfl)
 rw [Bool.not_eq_false] at c1
 rw [c1] at fa
 refine jB 107 [rS a] fa ?_
 refine ridpR 27 s c hc ?_
 refine rueq 28 c hc45 ?_
 rw [if_neg (by rintro (h|h);exact absurd (h.symm.trans c1) (by decide);exact absurd h.1 (by decide))] at hz
 refine dR 38 9 Tryz.underlying9 s ?_
 by_cases hlt:k<s.size
 ·have fl:decide ((k:Int)<(s.size:Nat))=true:=by rw [decide_eq_true_iff];omega
  refine vX 37 39 (k:Int) (s.size:Nat) true fl ?_
  refine radd 43 k (by omega) ?_
  refine rslo 42 44 9 Tryz.underlying9 s (k+1) d (by omega) hd ?_
  by_cases d1:decF d=false
  ·rw [if_pos ⟨hlt,.inl d1⟩] at hz
   subst hz
   rw [d1] at fd
   refine jB 107 [rS d] fd ?_
   exact fD Tryz.func48 (by kernel_rfl)
  rw [Bool.not_eq_false] at d1
  rw [d1] at fd
  refine jB 107 [rS d] fd ?_
  refine radd 50 k (by omega) ?_
  refine rslo 49 51 9 Tryz.underlying9 s (k+1) d (by omega) hd ?_
  by_cases d0:d=zeroT
  ·rw [if_pos ⟨hlt,.inr (.inl d0)⟩] at hz
   subst hz
   refine uL 52 9 d ⟨#[48]⟩ true (by rw [d0];exact beq_self_eq_true zeroT.toList) ?_
   exact fD Tryz.func48 (by kernel_rfl)
  refine uL 52 9 d ⟨#[48]⟩ false (dU d0) ?_
  refine radd 57 k (by omega) ?_
  refine rslo 56 58 9 Tryz.underlying9 s (k+1) d (by omega) hd ?_
  by_cases d2:d=oneT
  ·rw [if_pos ⟨hlt,.inr (.inr d2)⟩] at hz
   subst hz
   refine uL 59 9 d ⟨#[49]⟩ true (by rw [d2];exact beq_self_eq_true oneT.toList) ?_
   exact fD Tryz.func48 (by kernel_rfl)
  refine uL 59 9 d ⟨#[49]⟩ false (dU d2) ?_
  rw [if_neg (by rintro ⟨_,h|h|h⟩;exact absurd (h.symm.trans d1) (by decide);exact d0 h;exact d2 h)] at hz
  by_cases l1:600<k
  ·rw [if_pos (.inl l1)] at hz
   subst hz
   refine iX 63 600 (k:Int) true (by rw [decide_eq_true_iff];omega) ?_
   exact fD Tryz.func48 (by kernel_rfl)
  refine iX 63 600 (k:Int) false (by rw [decide_eq_false_iff_not];omega) ?_
  refine dR 66 9 Tryz.underlying9 s ?_
  refine zI 67 68 s.size k hkl (by omega) ?_
  refine jL (.binOp .sub 3 (.tmp 69) (.const (.int .i64 1)) 3) (.tmp 69) (.const (.int .i64 1)) (rI ((s.size-k:Nat):Int)) (.fv (.sc (.lit (.int .i64 1)))) (rI (((s.size-k:Nat):Int)-1)) (fun ρ o β w ho hx hy=>⟨_,tA ho (bB hx) (bY hy) (by omega),cQ⟩) ?_
  by_cases l2:600<s.size-k-1
  ·rw [if_pos (.inr l2)] at hz
   subst hz
   refine iX 70 600 (((s.size-k:Nat):Int)-1) true (by rw [decide_eq_true_iff];omega) ?_
   exact fD Tryz.func48 (by kernel_rfl)
  refine iX 70 600 (((s.size-k:Nat):Int)-1) false (by rw [decide_eq_false_iff_not];omega) ?_
  rw [if_neg (by rintro (h|h) <;> omega)] at hz
  refine dR 74 9 Tryz.underlying9 s ?_
  refine vX 73 75 (k:Int) (s.size:Nat) true fl ?_
  have hae:=iH c1
  have hde:=iH d1
  generalize aU (aC a)=n at hae hz
  generalize aU (aC d)=m at hde hz
  have hp:=partsT (t:=s) (by omega) hk hlt (ha.trans hae) (hd.trans hde) (by rw [← hae];omega) (by rw [← hde];omega)
  have hm0:0<m:=Nat.pos_of_ne_zero fun e=>d0 (by rw [hde,e,dec0];rfl)
  have hg0:0<Nat.gcd n m:=Nat.gcd_pos_of_pos_right _ hm0
  have hg:=kX (a:=n) (b:=m) (fY (nN (n:=n) (k:=600) (by rw [← hae];omega)) (by omega)) (fY (nN (n:=m) (k:=600) (by rw [← hde];omega)) (by omega))
  obtain ⟨g,hgg⟩:∃ g,Nat.gcd n m=g:=⟨_,rfl⟩
  rw [hgg] at hg hg0
  simp only [hgg] at hz
  refine jB 108 [rS s] hp ?_
  refine jB 109 [di n,di m] hg ?_
  rcases Nat.lt_or_ge g B9 with gb|gb
  ·refine jL (.call ⟨.builtin .len,#[.tmp 87],#[86]⟩) (.tmp 87) (.tmp 87) (di g) (di g) (.fv (.sc (.lit (.int .i64 1)))) (fun ρ o β w ho hx _=>?_) ?_
   ·obtain ⟨ad,c,e,_⟩:=iV (bC.1 hx) hg0 gb
    exact ⟨_,lM ho e,fA rfl⟩
   refine jL (.indexAddr 86 (.tmp 91) (.const (.int .i64 0))) (.tmp 91) (.const (.int .i64 0)) (di g) (.fv (.sc (.lit (.int .i64 0)))) (rP g) (fun ρ o β w ho hx hy=>?_) ?_
   ·obtain ⟨ad,c,e,hc⟩:=iV (bC.1 hx) hg0 gb
    exact ⟨_,mK ho e (bY hy) (by omega),⟨ad,rfl,hc⟩⟩
   refine jL (.load 3 (.tmp 92)) (.tmp 92) (.tmp 92) (rP g) (rP g) (rI (g:Int)) (fun ρ o β w ho hx _=>?_) ?_
   ·obtain ⟨ad,e,hc⟩:=hx
    injection e with e
    exact ⟨_,uI ho e hc,cQ⟩
   have hne:(((g:Int) != 1) = !decide (g=1)):=by rw [Bool.eq_iff_iff];simp;omega
   by_cases g1:g=1
   ·rw [if_neg (by rintro ⟨_,h⟩;exact h g1)] at hz
    subst hz
    refine jL (.binOp .neq 3 (.tmp 93) (.const (.int .i64 1)) 3) (.tmp 93) (.const (.int .i64 1)) (rI (g:Int)) (.fv (.sc (.lit (.int .i64 1)))) (rl false) (fun ρ o β w ho hx hy=>⟨.bool false,pP ho (bB hx) (bY hy) (by rw [hne];simp [g1]),fA rfl⟩) ?_
    exact fD Tryz.func48 (by kernel_rfl)
   ·rw [if_pos ⟨hlt,g1⟩] at hz
    subst hz
    refine jL (.binOp .neq 3 (.tmp 93) (.const (.int .i64 1)) 3) (.tmp 93) (.const (.int .i64 1)) (rI (g:Int)) (.fv (.sc (.lit (.int .i64 1)))) (rl true) (fun ρ o β w ho hx hy=>⟨.bool true,pP ho (bB hx) (bY hy) (by rw [hne];simp [g1]),fA rfl⟩) ?_
    exact fD Tryz.func48 (by kernel_rfl)
  ·rw [if_pos ⟨hlt,by have:=dS;omega⟩] at hz
   subst hz
   refine jL (.call ⟨.builtin .len,#[.tmp 87],#[86]⟩) (.tmp 87) (.tmp 87) (di g) (di g) rNe (fun ρ o β w ho hx _=>?_) ?_
   ·obtain ⟨A,m,c,e,hm⟩:=wL (bC.1 hx) gb
    exact ⟨_,lM ho e,⟨(m:Int),rfl,by omega⟩⟩
   refine jL (.binOp .neq 3 (.tmp 88) (.const (.int .i64 1)) 3) (.tmp 88) (.const (.int .i64 1)) rNe (.fv (.sc (.lit (.int .i64 1)))) (rl true) (fun ρ o β w ho hx hy=>?_) ?_
   ·obtain ⟨x,e,hm⟩:=hx
    injection e with e
    exact ⟨.bool true,pP ho e (bY hy) (by simpa using hm),fA rfl⟩
   exact fD Tryz.func48 (by kernel_rfl)
 ·have fl:decide ((k:Int)<(s.size:Nat))=false:=by rw [decide_eq_false_iff_not];omega
  refine vX 37 39 (k:Int) (s.size:Nat) false fl ?_
  rw [if_neg (fun h=>hlt h.1)] at hz
  by_cases l1:600<k
  ·rw [if_pos (.inl l1)] at hz
   subst hz
   refine iX 63 600 (k:Int) true (by rw [decide_eq_true_iff];omega) ?_
   exact fD Tryz.func48 (by kernel_rfl)
  rw [if_neg (by rintro (h|h) <;> omega),if_neg (fun h=>hlt h.1)] at hz
  subst hz
  refine iX 63 600 (k:Int) false (by rw [decide_eq_false_iff_not];omega) ?_
  refine dR 66 9 Tryz.underlying9 s ?_
  refine zI 67 68 s.size k hkl (by omega) ?_
  refine jL (.binOp .sub 3 (.tmp 69) (.const (.int .i64 1)) 3) (.tmp 69) (.const (.int .i64 1)) (rI ((s.size-k:Nat):Int)) (.fv (.sc (.lit (.int .i64 1)))) (rI (((s.size-k:Nat):Int)-1)) (fun ρ o β w ho hx hy=>⟨_,tA ho (bB hx) (bY hy) (by omega),cQ⟩) ?_
  refine iX 70 600 (((s.size-k:Nat):Int)-1) false (by rw [decide_eq_false_iff_not];omega) ?_
  refine dR 74 9 Tryz.underlying9 s ?_
  refine vX 73 75 (k:Int) (s.size:Nat) false fl ?_
  exact fD Tryz.func48 (by kernel_rfl)
theorem checkAnyF {s:ByteArray} (hs:s.size≤9223372036854775807):jF 48 [rS s] (rI (bT s)):=by
 rcases Nat.eq_zero_or_pos s.size with h0|h0
 ·have hbs:aC s = []:=List.eq_nil_of_length_eq_zero (by rw [aE];exact h0)
  have hn:iA s=false:=by unfold iA;rw [hbs];rfl
  have hst:bF s=s:=if_neg (by rw [hn];exact Bool.false_ne_true)
  have hsl:aJ s=0:=by unfold aJ;rw [hbs];rfl
  have hd:decF (s.extract 0 0)=false:=by unfold decF;rw [if_pos (by rw [ByteArray.size_extract];omega)]
  have e:bT s=1:=by unfold bT;rw [hst,hsl,if_pos (.inl hd)]
  rw [e]
  have h1:=fB (s:=s) (by omega)
  rw [hsl] at h1
  have h2:=oW (s:=s.extract 0 0) (by rw [ByteArray.size_extract];omega)
  rw [hd] at h2
  exact mM (check_empty (by rw [decide_eq_false_iff_not];omega) h1 rfl h2) lit_I
 ·cases e:iA s with
  | true=>exact check_neg hs h0 e rfl
  | false=>exact check_pos hs h0 e rfl
end Ab
namespace Ab
open Go.RowKit Pl
section
variable {z1 z2 z3:Int} {d p1 p2 p3 m1 m2 m3 e:Rat} {k1 k2 k3:Int}
theorem lw_hv (h:Hv z1 z2 z3 d) (k:iF p1 p2 p3):Lf 20 (dA z1 z2 z3 d p1 p2 p3):=lf_way (cA h.s1) (cA h.s2) (cA h.s3) (h.d.lf.mono (by decide)) (k.1.lf.mono (by decide)) (k.2.1.lf.mono (by decide)) (k.2.2.lf.mono (by decide)) (by decide)
theorem oX (h:Hv z1 z2 z3 d) (k:iF p1 p2 p3) (h0:dt (z1:Rat) z2 z3 z1 z2 z3≠0)
 (e1:p1+dA z1 z2 z3 d p1 p2 p3*z1=m1) (e2:p2+dA z1 z2 z3 d p1 p2 p3*z2=m2) (e3:p3+dA z1 z2 z3 d p1 p2 p3*z3=m3) (hr:iF m1 m2 m3) :
 jX 7 [hS z1 z2 z3 d,vS p1 p2 p3] (fZ m1 m2 m3):=by
 have lw:=lw_hv h k
 have lm:∀ {z:Int},Sz z→Lf 36 (dA z1 z2 z3 d p1 p2 p3*z):=fun hz=>Lf.muln (n:=36) (lw.mono (by decide)) (cA hz) (by decide)
 have hp:jF 42 [vc p1 p2 p3,vc (dA z1 z2 z3 d p1 p2 p3*z1) (dA z1 z2 z3 d p1 p2 p3*z2) (dA z1 z2 z3 d p1 p2 p3*z3)] (vc m1 m2 m3):=by
  rw [← e1,← e2,← e3]
  exact qV (k.1.lf.mono (by decide)) (k.2.1.lf.mono (by decide)) (k.2.2.lf.mono (by decide)) (lm h.s1) (lm h.s2) (lm h.s3)
 refine jY Tryz.func7 fun w00 hI=>?_
 refine jW hI 31 [iE 32,hS z1 z2 z3 d,iE 33,vS p1 p2 p3] (uE h k) ?_
 refine jC 43 [hf z1 z2 z3 d,vc p1 p2 p3] (yC (cA h.s1) (cA h.s2) (cA h.s3) (h.d.lf.mono (by decide)) (k.1.lf.mono (by decide)) (k.2.1.lf.mono (by decide)) (k.2.2.lf.mono (by decide)) h0) ?_
 refine jC 42 [vc p1 p2 p3,vc (dA z1 z2 z3 d p1 p2 p3*z1) (dA z1 z2 z3 d p1 p2 p3*z2) (dA z1 z2 z3 d p1 p2 p3*z3)] (hp) ?_
 refine jW hI 41 [vc m1 m2 m3] (jV hr) ?_
 exact jR Tryz.func7
theorem nO (h:Hv z1 z2 z3 d) (k:iF p1 p2 p3) (h0:dt (z1:Rat) z2 z3 z1 z2 z3≠0)
 (e1:dt (dA z1 z2 z3 d p1 p2 p3*z1) (dA z1 z2 z3 d p1 p2 p3*z2) (dA z1 z2 z3 d p1 p2 p3*z3) (dA z1 z2 z3 d p1 p2 p3*z1) (dA z1 z2 z3 d p1 p2 p3*z2) (dA z1 z2 z3 d p1 p2 p3*z3)=e) (hr:Wr e) :
 jX 8 [hS z1 z2 z3 d,vS p1 p2 p3] (uC e):=by
 have lw:=lw_hv h k
 have lm:∀ {z:Int},Sz z→Lf 31 (dA z1 z2 z3 d p1 p2 p3*z):=fun hz=>Lf.muln (n:=31) (lw.mono (by decide)) (cA hz) (by decide)
 have hs:jF 44 [vc (dA z1 z2 z3 d p1 p2 p3*z1) (dA z1 z2 z3 d p1 p2 p3*z2) (dA z1 z2 z3 d p1 p2 p3*z3)] (num e):=by
  rw [← e1]
  exact nH (lm h.s1) (lm h.s2) (lm h.s3)
 refine jY Tryz.func8 fun w00 hI=>?_
 refine jW hI 31 [iE 32,hS z1 z2 z3 d,iE 33,vS p1 p2 p3] (uE h k) ?_
 refine jC 43 [hf z1 z2 z3 d,vc p1 p2 p3] (yC (cA h.s1) (cA h.s2) (cA h.s3) (h.d.lf.mono (by decide)) (k.1.lf.mono (by decide)) (k.2.1.lf.mono (by decide)) (k.2.2.lf.mono (by decide)) h0) ?_
 refine jC 44 [vc (dA z1 z2 z3 d p1 p2 p3*z1) (dA z1 z2 z3 d p1 p2 p3*z2) (dA z1 z2 z3 d p1 p2 p3*z3)] (hs) ?_
 refine jW hI 45 [num e] (qX (hr.lf.mono (by decide)) hr.n hr.d) ?_
 exact jR Tryz.func8
end
theorem isS_lit {β:List Nat} {cs:List Value} {w:World} {b:ByteArray}:(dB b).holds β cs w↔(Seg.lit (.string b):Seg Kn).holds β cs w:=⟨fun h=>⟨h,rfl⟩,fun h=>h.1⟩
inductive LitL:List (Seg Kn)→List (Seg Kn)→Prop where
 | nil:LitL [] []
 | txt {b:ByteArray} {l m}:LitL l m→LitL (dB b::l) (.lit (.string b)::m)
 | same {s:Seg Kn} {l m}:LitL l m→LitL (s::l) (s::m)
theorem LitL.to {β:List Nat} {w:World} {l m:List (Seg Kn)} (h:LitL l m):∀ {cs:List Value},holdsL β l cs w↔holdsL β m cs w:=by
 induction h with
 | nil=>intro cs;exact Iff.rfl
 | txt _ ih =>
   intro cs
   constructor
   ·rintro ⟨a,b,e,h1,h2⟩;exact ⟨a,b,e,isS_lit.1 h1,ih.1 h2⟩
   ·rintro ⟨a,b,e,h1,h2⟩;exact ⟨a,b,e,isS_lit.2 h1,ih.2 h2⟩
 | same _ ih =>
   intro cs
   constructor
   ·rintro ⟨a,b,e,h1,h2⟩;exact ⟨a,b,e,h1,ih.1 h2⟩
   ·rintro ⟨a,b,e,h1,h2⟩;exact ⟨a,b,e,h1,ih.2 h2⟩
theorem ag_lit {β:List Nat} {v:Value} {w:World} {l m:List (Seg Kn)} (h:LitL l m):(AV.fv (.ag l)).holds β v w↔(AV.fv (.ag m)).holds β v w:=by
 constructor
 ·rintro ⟨cs,e,k⟩;exact ⟨cs,e,h.to.1 k⟩
 ·rintro ⟨cs,e,k⟩;exact ⟨cs,e,h.to.2 k⟩
theorem sc_lit {β:List Nat} {v:Value} {w:World} {b:ByteArray}:(AV.fv (.sc (dB b)):AV Kn).holds β v w↔(AV.fv (.sc (.lit (.string b))):AV Kn).holds β v w:=isS_lit (β:=β) (cs := [v])
theorem FitsW.args {P:Program} {I:World→Prop} {f:FuncId} {l l' : List (AV Kn)} {x:AV Kn} (h:FitsW P I f l x) (hl:∀ β vs w,holdsA β l' vs w→holdsA β l vs w):FitsW P I f l' x:=fun β w vs hI hv=>h β w vs hI (hl β vs w hv)
theorem FitsW.res {P:Program} {I:World→Prop} {f:FuncId} {l:List (AV Kn)} {x y:AV Kn} (h:FitsW P I f l x) (hx:∀ β v w,x.holds β v w→y.holds β v w):FitsW P I f l y:=fun β w vs hI hv =>
 (h β w vs hI hv).mono fun e w' ⟨v,e1,e2,e3⟩=>⟨v,e1,e2,hx β v w' e3⟩
theorem dec_two {n:Nat} (h1:10≤n) (h2:n<100):Lib.decDigits n = [UInt8.ofNat (48+n/10),UInt8.ofNat (48+n%10)]:=by
 rw [eN (by omega),cR (by omega)]
 rfl
theorem bK {n:Nat} (h:n<10):decB n=⟨#[UInt8.ofNat (48+n)]⟩:=by unfold decB;rw [cR h]
theorem mO {n:Nat} (h1:10≤n) (h2:n<100):decB n=⟨#[UInt8.ofNat (48+n/10),UInt8.ofNat (48+n%10)]⟩:=by unfold decB;rw [dec_two h1 h2]
theorem cW {z:Int} {b:ByteArray} (hz:¬ z<0) (h:decB z.natAbs=b):writeB (z:Rat)=b:=by
 rw [← dE,aQ,if_neg hz,h]
theorem fN {z:Int} {b:ByteArray} (hz:z<0) (h:decB z.natAbs=b):writeB (z:Rat)=⟨#[45]⟩++b:=by
 rw [← dE,aQ,if_pos hz,h]
theorem w0:writeB ((0:Int):Rat)=⟨#[48]⟩:=cW (by omega) (bK (n:=0) (by omega))
theorem w1:writeB ((1:Int):Rat)=⟨#[49]⟩:=cW (by omega) (bK (n:=1) (by omega))
end Ab
section
open Go.RowKit Pl
def dig (c:Nat):Bool:=decide (48≤c)&&decide (c≤57)
theorem digitsB_all {s:ByteArray} (h:∀ (j:Nat) (hj:j<s.size),dig (s[j]'hj).toNat=true):dQ s=true:=by
 unfold dQ
 rw [List.all_eq_true]
 intro c hc
 obtain ⟨j,hj,e⟩:=List.mem_iff_getElem.1 hc
 have hj2:j<s.size:=by rw [← aE];exact hj
 have h1:=cL hj2
 rw [List.getElem?_eq_getElem hj,e] at h1
 injection h1 with h1
 rw [h1]
 exact h j hj2
theorem dig_bad {c:Nat} (h:dig c=false):c<48∨57<c:=by
 simp only [dig,Bool.and_eq_false_iff,decide_eq_false_iff_not] at h
 omega
set_option maxRecDepth 100000 in
theorem isDigits_all (s:ByteArray) (w:World):Calls Tryz.prog 123 #[.string s] w fun e w'=>e = .returned (.bool (dQ s&&decide (s.size≠0)))∧Below w.heap.size w w':=by
 have hne:(!(s.toList==(⟨#[]⟩:ByteArray).toList))=decide (s.size≠0):=by
  rw [Go.ByteArray.toList_eq,Go.ByteArray.toList_eq]
  have hl:=aE s
  unfold aC at hl
  cases hb:s.data.toList with
  | nil=>rw [hb] at hl;simp at hl;simp [← hl]
  | cons c l =>
    rw [hb] at hl
    simp at hl
    have:s.size≠0:=by omega
    simp [this]
 go_enter Tryz.func123,Tryz.ntmps123
 go_wp2
 go_loopw [4] (fun _ wr => ∃ pos:Nat,wr=w.iter s pos∧pos≤s.size∧∀ (j:Nat) (hj:j<s.size),j<pos→dig (s[j]'hj).toNat=true) (fun _ wr=>s.size-wr.iterPos w.heap.size)
 case atStart=>exact ⟨0,rfl,Nat.zero_le _,fun j _ h=>absurd h (Nat.not_lt_zero _)⟩
 case round =>
  obtain ⟨pos,rfl,hpos,hok⟩:=hrel
  by_cases hp:pos<s.size
  ·obtain ⟨c,k,hdc,hk,hgood⟩:∃ c k,Utf8.decode s pos=(c,k)∧1≤k∧(dig c=true→(∀ hj:pos<s.size,dig (s[pos]'hj).toNat=true)∧k=1)∧(dig c=false→∀ hj:pos<s.size,dig (s[pos]'hj).toNat=false):=by
    by_cases ha:(s[pos]'hp).toNat<128
    ·exact ⟨_,_,decode_ascii s pos hp ha,aR _,fun h=>⟨fun _=>h,rfl⟩,fun h _=>h⟩
    ·obtain ⟨h1,h2⟩:=decode_high s pos hp (by omega)
     refine ⟨(Utf8.decode s pos).1,(Utf8.decode s pos).2,rfl,h2,fun h=>?_,fun _ _=>?_⟩
     ·simp [dig] at h
      omega
     ·simp [dig]
      omega
   have hnx:∀ ty,(Instr.next (.pointer (some ⟨w.heap.size,0,none⟩)) true ty).run Tryz.prog (w.iter s pos) = .ok (.tuple #[.bool true,.int .i64 pos,.int .i32 (c:Int)]) (w.iter s (pos+k)):=fun ty=>by
    have:=run_next_any (P:=Tryz.prog) w s pos ty hp
    rw [hdc] at this
    exact this
   have HH:=aH (aI hp (aI hpos (aI hok (aI hk hgood))))
   clear hdc hp hpos hok hk hgood hne
   by_cases g1:48≤c
   ·by_cases g2:c≤57
    ·have k1:(48:Int)≤c:=by omega
     have k2:(c:Int)≤57:=by omega
     have G:=aH (show dig c=true by simp [dig,g1,g2])
     clear g1 g2
     go_wp2
     go_roundw
     case rel =>
      obtain ⟨hp,hpos,hok,hk,hg,_⟩:=HH.out
      obtain ⟨g1,rfl⟩:=hg G.out
      refine ⟨pos+1,rfl,hp,fun j hj hjp=>?_⟩
      by_cases hjj:j=pos
      ·subst hjj;exact g1 hj
      ·exact hok j hj (by omega)
     case measure =>
      have:=HH.out.1
      have:=HH.out.2.2.2.1
      simp
      omega
    ·have k1:(48:Int)≤c:=by omega
     have k2:(57:Int)<c:=by omega
     have G:=aH (show dig c=false by simp [dig];omega)
     clear g1 g2
     go_wp2
     go_ret
     obtain ⟨hp,_,_,_,_,hg⟩:=HH.out
     exact ⟨by rw [kW hp (dig_bad (hg G.out hp))];rfl,eY _ _ _⟩
   ·have k1:(c:Int)<48:=by omega
    have G:=aH (show dig c=false by simp [dig];omega)
    clear g1
    go_wp2
    go_ret
    obtain ⟨hp,_,_,_,_,hg⟩:=HH.out
    exact ⟨by rw [kW hp (dig_bad (hg G.out hp))];rfl,eY _ _ _⟩
  ·have hnx:∀ ty,(Instr.next (.pointer (some ⟨w.heap.size,0,none⟩)) true ty).run Tryz.prog (w.iter s pos)=_:=fun ty=>run_next_end w s pos ty hp
   have H2:=aH (show dQ s=true from digitsB_all fun j hj=>hok j hj (by omega))
   have H3:=aH hne
   clear hok hp hpos hne
   obtain ⟨b,hb⟩:∃ b,b=(!(s.toList==(⟨#[]⟩:ByteArray).toList)):=⟨_,rfl⟩
   go_wp2
   go_ret
   refine ⟨?_,eY _ _ _⟩
   have e:=H3.out
   rw [H2.out,Bool.true_and,← e]
   simp
end
namespace Ab
open Go.RowKit Pl
theorem nP {s:ByteArray} {b:Bool} (h:(dQ s&&decide (s.size≠0))=b):jF 123 [tx s] (bl b):=by
 intro β w vs hv
 obtain ⟨v,rfl,h1⟩:=dH hv
 rw [aO h1]
 exact (isDigits_all s w).mono fun e w' ⟨e1,e2⟩=>⟨_,e1,e2,by rw [h];exact aZ rfl⟩
theorem bG {s:ByteArray} {b:Bool} (h:decF s=b):jF 138 [tx s] (bl b):=by
 by_cases h0:(dQ s&&decide (s.size≠0))=false
 ·have:b=false:=by
   rw [← h]
   unfold decF
   split
   ·rfl
   ·rename_i hz
    split
    ·rfl
    ·rw [decide_eq_true hz,Bool.and_true] at h0
     exact h0
  subst this
  refine jG Tryz.func138 fun w00=>?_
  refine jC 123 [tx s] (nP h0) ?_
  exact jR Tryz.func138
 rw [Bool.not_eq_false] at h0
 obtain ⟨h1,h2⟩:=Bool.and_eq_true_iff.1 h0
 have h2:s.size≠0:=of_decide_eq_true h2
 have hp:0<s.size:=by omega
 obtain ⟨c,hc⟩:∃ c,s[0]?=some c:=⟨_,getElem?_pos s 0 hp⟩
 have hh:(aC s).head?=some c:=by
  rw [List.head?_eq_getElem?,cL hp,← hc,getElem?_pos s 0 hp]
 unfold decF at h
 rw [if_neg h2,hh,h1] at h
 by_cases e:c=48
 ·have q1:(((c.toNat:Nat):Int) != 48)=false:=by rw [e];rfl
  have q2:(((s.size:Nat):Int)==1)=b:=by
   rw [← h,e]
   by_cases g:1<s.size
   ·rw [if_pos ⟨g,rfl⟩,beq_eq_false_iff_ne];omega
   ·rw [if_neg (fun k=>g k.1),beq_iff_eq];omega
  refine jG Tryz.func138 fun w00=>?_
  refine jC 123 [tx s] (nP h0) ?_
  refine jK (.index 9 (.tmp 6) (.const (.int .i64 0))) (.tmp 6) (.const (.int .i64 0)) (tx s) (it 0) (.fv (.sc (isB c.toNat))) (fun ρ o β w ho hx hy=>⟨_,mC (i:=0) ho Tryz.underlying9 (aO hx) (aM hy) hc,bE⟩) ?_
  refine jK (.binOp .neq 5 (.tmp 7) (.const (.int .u8 48)) 5) (.tmp 7) (.const (.int .u8 48)) (.fv (.sc (isB c.toNat))) (.fv (.sc (.lit (.int .u8 48)))) (bl false) (fun ρ o β w ho hx hy=>⟨_,nI ho (aO hx) (aM hy) q1,aZ rfl⟩) ?_
  refine jO 10 s ?_
  refine jK (.binOp .eql 3 (.tmp 11) (.const (.int .i64 1)) 3) (.tmp 11) (.const (.int .i64 1)) (.fv (.sc (fW s.size))) (it 1) (bl b) (fun ρ o β w ho hx hy=>⟨_,aAe ho (aO hx) (aM hy) q2,aZ rfl⟩) ?_
  exact jR Tryz.func138
 ·have q1:(((c.toNat:Nat):Int) != 48)=true:=by
   rw [bne_iff_ne]
   intro k
   exact e (UInt8.toNat_inj.1 (by have:(48:UInt8).toNat=48:=rfl;omega))
  rw [if_neg (fun k=>e (by injection k.2))] at h
  subst h
  refine jG Tryz.func138 fun w00=>?_
  refine jC 123 [tx s] (nP h0) ?_
  refine jK (.index 9 (.tmp 6) (.const (.int .i64 0))) (.tmp 6) (.const (.int .i64 0)) (tx s) (it 0) (.fv (.sc (isB c.toNat))) (fun ρ o β w ho hx hy=>⟨_,mC (i:=0) ho Tryz.underlying9 (aO hx) (aM hy) hc,bE⟩) ?_
  refine jK (.binOp .neq 5 (.tmp 7) (.const (.int .u8 48)) 5) (.tmp 7) (.const (.int .u8 48)) (.fv (.sc (isB c.toNat))) (.fv (.sc (.lit (.int .u8 48)))) (bl true) (fun ρ o β w ho hx hy=>⟨_,nI ho (aO hx) (aM hy) q1,aZ rfl⟩) ?_
  exact jR Tryz.func138
end Ab
namespace Ab
open Go.RowKit Pl
theorem index47:∀ l:List UInt8,Lib.index l [47]=if l.findIdx (fun c=>c==47)<l.length then ((l.findIdx (fun c=>c==47):Nat):Int) else -1
 | []=>rfl
 | c :: l=>by
   by_cases hc:c=47
   ·subst hc
    unfold Lib.index
    simp [List.isPrefixOf,List.findIdx_cons]
   ·have h2:([47]:List UInt8).isPrefixOf (c::l)=false:=by
     simp [List.isPrefixOf]
     exact fun e=>hc e.symm
    have h3:(c==47)=false:=by rw [beq_eq_false_iff_ne];exact hc
    unfold Lib.index
    rw [h2,index47 l,List.findIdx_cons,h3]
    simp only [cond_false,List.length_cons]
    by_cases hl:l.findIdx (fun c=>c==47)<l.length
    ·have:(((l.findIdx (fun c=>c==47):Nat):Int) == -1)=false:=by rw [beq_eq_false_iff_ne];omega
     rw [if_pos hl,if_pos (show l.findIdx (fun c=>c==47)+1<l.length+1 by omega),this]
     simp
    ·rw [if_neg hl,if_neg (show ¬ l.findIdx (fun c=>c==47)+1<l.length+1 by omega)]
     rfl
theorem cut_slash {t:ByteArray} (h:aJ t<t.size):Lib.cut t.data.toList [47]=((t.extract 0 (aJ t)).data.toList,(t.extract (aJ t+1) t.size).data.toList,true):=by
 have e:Lib.index t.data.toList [47]=((aJ t:Nat):Int):=by
  have:=index47 (aC t)
  rw [if_pos (show (aC t).findIdx (fun c=>c==47)<(aC t).length by rw [aE];exact h)] at this
  exact this
 have e1:(t.extract 0 (aJ t)).data.toList=t.data.toList.take (aJ t):=by
  show aC (t.extract 0 (aJ t))=_
  rw [aS,List.drop_zero]
  rfl
 have e2:(t.extract (aJ t+1) t.size).data.toList=t.data.toList.drop (aJ t+1):=by
  show aC (t.extract (aJ t+1) t.size)=_
  rw [aS,List.take_of_length_le (by rw [aE];exact aR _)]
  rfl
 rw [e1,e2]
 unfold Lib.cut
 rw [e,if_pos (by omega)]
 simp
theorem cut_none {t:ByteArray} (h:¬ aJ t<t.size):Lib.cut t.data.toList [47]=(t.data.toList,(⟨#[]⟩:ByteArray).data.toList,false):=by
 have e:Lib.index t.data.toList [47] = -1:=by
  have:=index47 (aC t)
  rw [if_neg (show ¬ (aC t).findIdx (fun c=>c==47)<(aC t).length by rw [aE];exact h)] at this
  exact this
 unfold Lib.cut
 rw [e]
 rfl
theorem cH {s t:ByteArray} {b:Bool} (ht:bF s=t) (hb:iA s=b):jF 61 [tx s,lt ⟨#[45]⟩] (.tup [.sc (dB t),.sc (.lit (.bool b))]):=by
 intro β w vs hv
 obtain ⟨v,u,rfl,h1,h2⟩:=eB hv
 rw [aO h1,aM h2]
 have key:(⟨(Lib.trimPrefix s.data.toList [45]).toArray⟩:ByteArray)=t∧Lib.hasPrefix s.data.toList [45]=b:=by
  have hp:Lib.hasPrefix s.data.toList [45]=iA s:=by
   show ([45]:List UInt8).isPrefixOf (aC s)=((aC s).head?==some 45)
   cases aC s with
   | nil=>rfl
   | cons c l =>
     rw [Bool.eq_iff_iff]
     simp [List.isPrefixOf]
     exact ⟨fun e=>e.symm,fun e=>e.symm⟩
  refine ⟨?_,by rw [hp,hb]⟩
  unfold Lib.trimPrefix
  rw [hp,← ht]
  unfold bF
  split
  ·refine ba_ext ?_
   show _=aC (s.extract 1 s.size)
   rw [aS,List.take_of_length_le (by rw [aE];exact aR _)]
   rfl
  ·exact ba_ext (by simp)
 refine (Tryz.strings_CutPrefix s ⟨#[45]⟩ w).mono fun e w' ⟨e1,e2⟩=>⟨_,e1,by rw [e2];exact aB _ _,?_⟩
 rw [show (⟨#[45]⟩:ByteArray).data.toList = [45] from rfl,key.1,key.2]
 exact ⟨[.string t,.bool b],rfl,_,_,rfl,bE (β:=β),_,_,rfl,⟨rfl,rfl⟩,rfl⟩
theorem yS (s:ByteArray):(bF s).size≤s.size:=by
 unfold bF
 split
 ·rw [ByteArray.size_extract];omega
 ·exact aR _
abbrev badN (z:Int):AV Kn := .tup [.ag [.lit (.int .i64 0),.lit (.int .i64 0),.lit (.pointer none)],.sc (.lit (.int .i64 z))]
theorem gcdAnyF {n m:Nat} (h1:(decB n).size≤600) (h2:(decB m).size≤600) (hm:m≠0):jF 129 [nt n,nt m] (nt (Nat.gcd n m)) :=
 yB ((nK (k:=5) (by omega)).mono (by decide)) ((nK (k:=5) (by omega)).mono (by decide)) (.inr (Nat.pos_of_ne_zero hm))
section
variable {s t a d:ByteArray} {z:Int}
theorem zJ {b:Bool} (hs:s.size<4294967281) (hz:bT s=z) (h0:z≠0) (ht:bF s=t) (hb:iA s=b) (hlt:aJ t<t.size) (ha:t.extract 0 (aJ t)=a) (hd:t.extract (aJ t+1) t.size=d):jX 71 [tx s] (badN z):=by
 have hts:t.size<4294967281:=by have:=yS s;rw [ht] at this;omega
 have hcut:=cut_slash hlt
 have hsa:a.size=aJ t:=by rw [← ha,ByteArray.size_extract];omega
 have hsd:d.size=t.size-a.size-1:=by rw [hsa,← hd,ByteArray.size_extract];omega
 rw [ha,hd] at hcut
 unfold bT at hz
 rw [ht,ha,hd,hb,← hsa,← hsd] at hz
 simp only [show a.size<t.size from by omega,true_and] at hz
 have c0:∀ x:ByteArray,decF x=true∨decF x=false:=fun x=>by cases decF x <;> simp
 cases b with
 | true =>
   rcases c0 a with c1|c1
   ·rw [c1] at hz
    by_cases a0:a=zeroT
    ·rw [if_pos (.inr ⟨rfl,a0⟩)] at hz
     subst hz
     refine jY Tryz.func71 fun w00 hI=>?_
     refine jC 61 [tx s,lt ⟨#[45]⟩] (cH ht hb) ?_
     refine jW hI 137 [tx t,lt ⟨#[47]⟩] (sM (a:=a) (b:=d) (r:=true) hts hcut) ?_
     refine jC 138 [tx a] (bG c1) ?_
     refine jQ 31 a ⟨#[48]⟩ true (by rw [a0];exact beq_self_eq_true _) ?_
     exact jR Tryz.func71
    rw [if_neg (by rintro (h|h);exact absurd h (by decide);exact a0 h.2)] at hz
    refine jY Tryz.func71 fun w00 hI=>?_
    refine jC 61 [tx s,lt ⟨#[45]⟩] (cH ht hb) ?_
    refine jW hI 137 [tx t,lt ⟨#[47]⟩] (sM (a:=a) (b:=d) (r:=true) hts hcut) ?_
    refine jC 138 [tx a] (bG c1) ?_
    refine jQ 31 a ⟨#[48]⟩ false (dU a0) ?_
    rcases c0 d with d1|d1
    ·rw [d1] at hz
     by_cases d0:d=zeroT
     ·rw [if_pos (.inr (.inl d0))] at hz
      subst hz
      refine jC 138 [tx d] (bG d1) ?_
      refine jQ 43 d ⟨#[48]⟩ true (by rw [d0];exact beq_self_eq_true _) ?_
      exact jR Tryz.func71
     by_cases d2:d=oneT
     ·rw [if_pos (.inr (.inr d2))] at hz
      subst hz
      refine jC 138 [tx d] (bG d1) ?_
      refine jQ 43 d ⟨#[48]⟩ false (dU d0) ?_
      refine jQ 47 d ⟨#[49]⟩ true (by rw [d2];exact beq_self_eq_true _) ?_
      exact jR Tryz.func71
     rw [if_neg (by rintro (h|h|h);exact absurd h (by decide);exact d0 h;exact d2 h)] at hz
     refine jC 138 [tx d] (bG d1) ?_
     refine jQ 43 d ⟨#[48]⟩ false (dU d0) ?_
     refine jQ 47 d ⟨#[49]⟩ false (dU d2) ?_
     refine jO 53 a ?_
     by_cases l1:600<a.size
     ·rw [if_pos (.inl l1)] at hz
      subst hz
      refine jM 54 a.size 600 true (by rw [decide_eq_true_iff];omega) ?_
      exact jR Tryz.func71
     refine jM 54 a.size 600 false (by rw [decide_eq_false_iff_not];omega) ?_
     refine jO 57 d ?_
     by_cases l2:600<d.size
     ·rw [if_pos (.inr l2)] at hz
      subst hz
      refine jM 58 d.size 600 true (by rw [decide_eq_true_iff];omega) ?_
      exact jR Tryz.func71
     refine jM 58 d.size 600 false (by rw [decide_eq_false_iff_not];omega) ?_
     rw [if_neg (by omega)] at hz
     have hae:=iH c1
     have hde:=iH d1
     generalize aU (aC a)=n at hae hz
     generalize aU (aC d)=m at hde hz
     subst hae
     subst hde
     have hm0:m≠0:=fun e=>d0 (by rw [e,dec0];rfl)
     by_cases hg:Nat.gcd n m=1
     ·rw [if_neg (fun h=>h hg)] at hz
      exact absurd hz.symm h0
     rw [if_pos hg] at hz
     subst hz
     refine jC 64 [tx (decB n)] (bQ (by omega)) ?_
     refine jC 64 [tx (decB m)] (bQ (by omega)) ?_
     refine jC 129 [nt n,nt m] (gcdAnyF (by omega) (by omega) hm0) ?_
     refine jC 128 [nt (Nat.gcd n m)] (isOneF (b:=false) (by rw [decide_eq_false_iff_not];exact hg)) ?_
     exact jR Tryz.func71
    ·rw [if_pos (.inl d1)] at hz
     subst hz
     refine jC 138 [tx d] (bG d1) ?_
     exact jR Tryz.func71
   ·rw [if_pos (.inl c1)] at hz
    subst hz
    refine jY Tryz.func71 fun w00 hI=>?_
    refine jC 61 [tx s,lt ⟨#[45]⟩] (cH ht hb) ?_
    refine jW hI 137 [tx t,lt ⟨#[47]⟩] (sM (a:=a) (b:=d) (r:=true) hts hcut) ?_
    refine jC 138 [tx a] (bG c1) ?_
    exact jR Tryz.func71
 | false =>
   rcases c0 a with c1|c1
   ·rw [c1] at hz
    rw [if_neg (by rintro (h|h);exact absurd h (by decide);exact absurd h.1 (by decide))] at hz
    refine jY Tryz.func71 fun w00 hI=>?_
    refine jC 61 [tx s,lt ⟨#[45]⟩] (cH ht hb) ?_
    refine jW hI 137 [tx t,lt ⟨#[47]⟩] (sM (a:=a) (b:=d) (r:=true) hts hcut) ?_
    refine jC 138 [tx a] (bG c1) ?_
    rcases c0 d with d1|d1
    ·rw [d1] at hz
     by_cases d0:d=zeroT
     ·rw [if_pos (.inr (.inl d0))] at hz
      subst hz
      refine jC 138 [tx d] (bG d1) ?_
      refine jQ 43 d ⟨#[48]⟩ true (by rw [d0];exact beq_self_eq_true _) ?_
      exact jR Tryz.func71
     by_cases d2:d=oneT
     ·rw [if_pos (.inr (.inr d2))] at hz
      subst hz
      refine jC 138 [tx d] (bG d1) ?_
      refine jQ 43 d ⟨#[48]⟩ false (dU d0) ?_
      refine jQ 47 d ⟨#[49]⟩ true (by rw [d2];exact beq_self_eq_true _) ?_
      exact jR Tryz.func71
     rw [if_neg (by rintro (h|h|h);exact absurd h (by decide);exact d0 h;exact d2 h)] at hz
     refine jC 138 [tx d] (bG d1) ?_
     refine jQ 43 d ⟨#[48]⟩ false (dU d0) ?_
     refine jQ 47 d ⟨#[49]⟩ false (dU d2) ?_
     refine jO 53 a ?_
     by_cases l1:600<a.size
     ·rw [if_pos (.inl l1)] at hz
      subst hz
      refine jM 54 a.size 600 true (by rw [decide_eq_true_iff];omega) ?_
      exact jR Tryz.func71
     refine jM 54 a.size 600 false (by rw [decide_eq_false_iff_not];omega) ?_
     refine jO 57 d ?_
     by_cases l2:600<d.size
     ·rw [if_pos (.inr l2)] at hz
      subst hz
      refine jM 58 d.size 600 true (by rw [decide_eq_true_iff];omega) ?_
      exact jR Tryz.func71
     refine jM 58 d.size 600 false (by rw [decide_eq_false_iff_not];omega) ?_
     rw [if_neg (by omega)] at hz
     have hae:=iH c1
     have hde:=iH d1
     generalize aU (aC a)=n at hae hz
     generalize aU (aC d)=m at hde hz
     subst hae
     subst hde
     have hm0:m≠0:=fun e=>d0 (by rw [e,dec0];rfl)
     by_cases hg:Nat.gcd n m=1
     ·rw [if_neg (fun h=>h hg)] at hz
      exact absurd hz.symm h0
     rw [if_pos hg] at hz
     subst hz
     refine jC 64 [tx (decB n)] (bQ (by omega)) ?_
     refine jC 64 [tx (decB m)] (bQ (by omega)) ?_
     refine jC 129 [nt n,nt m] (gcdAnyF (by omega) (by omega) hm0) ?_
     refine jC 128 [nt (Nat.gcd n m)] (isOneF (b:=false) (by rw [decide_eq_false_iff_not];exact hg)) ?_
     exact jR Tryz.func71
    ·rw [if_pos (.inl d1)] at hz
     subst hz
     refine jC 138 [tx d] (bG d1) ?_
     exact jR Tryz.func71
   ·rw [if_pos (.inl c1)] at hz
    subst hz
    refine jY Tryz.func71 fun w00 hI=>?_
    refine jC 61 [tx s,lt ⟨#[45]⟩] (cH ht hb) ?_
    refine jW hI 137 [tx t,lt ⟨#[47]⟩] (sM (a:=a) (b:=d) (r:=true) hts hcut) ?_
    refine jC 138 [tx a] (bG c1) ?_
    exact jR Tryz.func71
theorem zK {b:Bool} (hs:s.size<4294967281) (hz:bT s=z) (h0:z≠0) (ht:bF s=t) (hb:iA s=b) (hlt:¬ aJ t<t.size):jX 71 [tx s] (badN z):=by
 have hts:t.size<4294967281:=by have:=yS s;rw [ht] at this;omega
 have hcut:=cut_none hlt
 have hk:aJ t=t.size:=by have:=cC t;omega
 have g3:decide ((600:Int)<(((⟨#[49]⟩:ByteArray).size:Nat):Int))=false:=by decide
 unfold bT at hz
 rw [ht,hb,hk,wO] at hz
 simp only [Nat.lt_irrefl,false_and,if_false] at hz
 have c0:∀ x:ByteArray,decF x=true∨decF x=false:=fun x=>by cases decF x <;> simp
 cases b with
 | true =>
   rcases c0 t with c1|c1
   ·rw [c1] at hz
    by_cases a0:t=zeroT
    ·rw [if_pos (.inr ⟨rfl,a0⟩)] at hz
     subst hz
     refine jY Tryz.func71 fun w00 hI=>?_
     refine jC 61 [tx s,lt ⟨#[45]⟩] (cH ht hb) ?_
     refine jW hI 137 [tx t,lt ⟨#[47]⟩] (sM (a:=t) (b:=⟨#[]⟩) (r:=false) hts hcut) ?_
     refine jC 138 [tx t] (bG c1) ?_
     refine jQ 31 t ⟨#[48]⟩ true (by rw [a0];exact beq_self_eq_true _) ?_
     exact jR Tryz.func71
    rw [if_neg (by rintro (h|h);exact absurd h (by decide);exact a0 h.2)] at hz
    have hl:600<t.size:=by
     by_cases g:600<t.size
     ·exact g
     ·rw [if_neg (by omega)] at hz;exact absurd hz.symm h0
    rw [if_pos (.inl hl)] at hz
    subst hz
    refine jY Tryz.func71 fun w00 hI=>?_
    refine jC 61 [tx s,lt ⟨#[45]⟩] (cH ht hb) ?_
    refine jW hI 137 [tx t,lt ⟨#[47]⟩] (sM (a:=t) (b:=⟨#[]⟩) (r:=false) hts hcut) ?_
    refine jC 138 [tx t] (bG c1) ?_
    refine jQ 31 t ⟨#[48]⟩ false (dU a0) ?_
    refine jO 53 t ?_
    refine jM 54 t.size 600 true (by rw [decide_eq_true_iff];omega) ?_
    exact jR Tryz.func71
   ·rw [if_pos (.inl c1)] at hz
    subst hz
    refine jY Tryz.func71 fun w00 hI=>?_
    refine jC 61 [tx s,lt ⟨#[45]⟩] (cH ht hb) ?_
    refine jW hI 137 [tx t,lt ⟨#[47]⟩] (sM (a:=t) (b:=⟨#[]⟩) (r:=false) hts hcut) ?_
    refine jC 138 [tx t] (bG c1) ?_
    exact jR Tryz.func71
 | false =>
   rcases c0 t with c1|c1
   ·rw [c1] at hz
    rw [if_neg (by rintro (h|h);exact absurd h (by decide);exact absurd h.1 (by decide))] at hz
    have hl:600<t.size:=by
     by_cases g:600<t.size
     ·exact g
     ·rw [if_neg (by omega)] at hz;exact absurd hz.symm h0
    rw [if_pos (.inl hl)] at hz
    subst hz
    refine jY Tryz.func71 fun w00 hI=>?_
    refine jC 61 [tx s,lt ⟨#[45]⟩] (cH ht hb) ?_
    refine jW hI 137 [tx t,lt ⟨#[47]⟩] (sM (a:=t) (b:=⟨#[]⟩) (r:=false) hts hcut) ?_
    refine jC 138 [tx t] (bG c1) ?_
    refine jO 53 t ?_
    refine jM 54 t.size 600 true (by rw [decide_eq_true_iff];omega) ?_
    exact jR Tryz.func71
   ·rw [if_pos (.inl c1)] at hz
    subst hz
    refine jY Tryz.func71 fun w00 hI=>?_
    refine jC 61 [tx s,lt ⟨#[45]⟩] (cH ht hb) ?_
    refine jW hI 137 [tx t,lt ⟨#[47]⟩] (sM (a:=t) (b:=⟨#[]⟩) (r:=false) hts hcut) ?_
    refine jC 138 [tx t] (bG c1) ?_
    exact jR Tryz.func71
theorem readBadF (hs:s.size<4294967281) (hz:bT s=z) (h0:z≠0):jX 71 [tx s] (badN z):=by
 by_cases h:aJ (bF s)<(bF s).size
 ·exact zJ hs hz h0 rfl rfl h rfl rfl
 ·exact zK hs hz h0 rfl rfl h
end
noncomputable def uN (s:ByteArray):Rat:=if h:bT s=0 then Classical.choose (rJ h) else 0
theorem valB_ok {s:ByteArray} (h:bT s=0):s=writeB (uN s)∧Wr (uN s):=by
 unfold uN
 rw [dif_pos h]
 have:=Classical.choose_spec (rJ h)
 exact ⟨this.1,this.2.1,this.2.2⟩
theorem valB_bad {s:ByteArray} (h:bT s≠0):uN s=0:=dif_neg h
abbrev okN (q:Rat) (z:Int):AV Kn := .tup [.ag [nb q],.sc (.lit (.int .i64 z))]
theorem tB {s:ByteArray} {z:Int} (hs:s.size<4294967281) (hz:bT s=z):jX 71 [tx s] (okN (uN s) z):=by
 by_cases h:z=0
 ·subst h
  obtain ⟨e,hw⟩:=valB_ok hz
  have:=yG hw
  rw [← e] at this
  exact this
 ·rw [valB_bad (by rw [hz];exact h)]
  refine FitsW.res (readBadF hs hz h) fun β v w hv=>?_
  obtain ⟨vs,rfl,x,r,rfl,hx,hr⟩:=hv
  exact ⟨_,rfl,x,r,rfl,zero_num hx,hr⟩
theorem cK (s:ByteArray):bT s=0∨bT s=1∨bT s=4:=by
 unfold bT
 split
 ·exact .inr (.inl rfl)
 split
 ·exact .inr (.inl rfl)
 split
 ·exact .inr (.inr rfl)
 split
 ·exact .inr (.inl rfl)
 ·exact .inl rfl
theorem lB (q:Rat):aJ (writeB q)=(aQ q.num).size:=by
 by_cases h:q.den=1
 ·rw [jZ h,uJ]
 ·rw [fC h,uK]
theorem num_cut (q:Rat):(writeB q).extract 0 (aJ (writeB q))=aQ q.num:=by
 rw [lB]
 by_cases h:q.den=1
 ·rw [jZ h,wO]
 ·rw [fC h,ext_lo]
theorem den_cut {q:Rat} (h:q.den≠1):(writeB q).extract (aJ (writeB q)+1) (writeB q).size=decB q.den:=by
 rw [lB,fC h]
 exact ext_hi _ _
theorem mP (q:Rat):(writeB q).size=(aQ q.num).size+if q.den=1 then 0 else 1+(decB q.den).size:=by
 by_cases h:q.den=1
 ·rw [jZ h,if_pos h];rfl
 ·rw [fC h,if_neg h,ByteArray.size_append,ByteArray.size_append,size47]
theorem numF {q:Rat} (hs:(writeB q).size≤1000000000):jF 112 [rS (writeB q)] (rS (aQ q.num)):=by
 have hc:=num_cut q
 generalize writeB q=s at *
 refine jT Tryz.func112 fun w00=>?_
 refine jB 106 [rS s] (fB (by omega)) ?_
 refine rshi 3 5 23 Tryz.underlying23 s (aJ s) (aQ q.num) (cC _) hc ?_
 exact jS Tryz.func112
theorem denF1 {q:Rat} (hs:(writeB q).size≤1000000000) (h:q.den=1):jF 113 [rS (writeB q)] (rS (decB q.den)):=by
 have hl:=mP q
 have hk:=lB q
 rw [if_pos h] at hl
 have e:decB q.den=⟨#[49]⟩:=by rw [h,dec1]
 rw [e]
 generalize writeB q=s at *
 have key:jF 113 [rS s] (.fv (.sc (.lit (.string ⟨#[49]⟩)))):=by
  refine jT Tryz.func113 fun w00=>?_
  refine jB 106 [rS s] (fB (by omega)) ?_
  refine dR 7 23 Tryz.underlying23 s ?_
  refine jL (.binOp .eql 3 (.tmp 6) (.tmp 8) 3) (.tmp 6) (.tmp 8) (rI (aJ s:Nat)) (rI (s.size:Nat)) (rl true) (fun ρ o β w ho hx hy=>⟨.bool true,jJ ho (bB hx) (bB hy) (by simp;omega),fA rfl⟩) ?_
  exact jS Tryz.func113
 exact mM key fun β v w h=>h.1
theorem denF2 {q:Rat} (hs:(writeB q).size≤1000000000) (h:q.den≠1):jF 113 [rS (writeB q)] (rS (decB q.den)):=by
 have hl:=mP q
 have hk:=lB q
 rw [if_neg h] at hl
 have hc:=den_cut h
 generalize decB q.den=d at *
 generalize writeB q=s at *
 refine jT Tryz.func113 fun w00=>?_
 refine jB 106 [rS s] (fB (by omega)) ?_
 refine dR 7 23 Tryz.underlying23 s ?_
 refine jL (.binOp .eql 3 (.tmp 6) (.tmp 8) 3) (.tmp 6) (.tmp 8) (rI (aJ s:Nat)) (rI (s.size:Nat)) (rl false) (fun ρ o β w ho hx hy=>⟨.bool false,jJ ho (bB hx) (bB hy) (by simp;omega),fA rfl⟩) ?_
 refine radd 11 (aJ s) (by omega) ?_
 refine rslo 10 12 23 Tryz.underlying23 s (aJ s+1) d (by omega) hc ?_
 exact jS Tryz.func113
theorem denOfF {q:Rat} (hs:(writeB q).size≤1000000000):jF 113 [rS (writeB q)] (rS (decB q.den)):=by
 by_cases h:q.den=1
 ·exact denF1 hs h
 ·exact denF2 hs h
theorem dec0_ne {n:Nat} (h:n≠0):decB n≠zeroT:=fun e=>h (decB_inj (e.trans dec0.symm))
theorem body_ne_zero {q:Rat} (h:q.num≠0):bA q≠zeroT:=by
 by_cases hd:q.den=1
 ·rw [mN hd,cE]
  exact dec0_ne (by omega)
 ·intro e
  have hl:=sW q
  rw [if_neg hd,e] at hl
  have:zeroT.size=1:=rfl
  have:=yQ q.num.natAbs
  omega
theorem lN {q:Rat} (h:q.num≠0):writeB q≠zeroT:=by
 by_cases hn:q.num<0
 ·obtain ⟨f1,⟨h0,hc⟩,f3,f4,f5⟩:=gZ hn
  intro e
  have h1:=(strip_write q).1
  rw [e,decide_eq_true hn] at h1
  exact absurd h1 (by decide)
 ·rw [dX hn]
  exact body_ne_zero h
theorem signF0 {q:Rat} (h:q.num=0):jF 164 [rS (writeB q)] (.fv (.sc (.lit (.int .i64 0)))):=by
 have e:((writeB q).toList==(⟨#[48]⟩:ByteArray).toList)=true:=by
  have hd:q.den=1:=by have:=q.reduced;rw [h] at this;simpa using this
  rw [jZ hd,h]
  have:aQ 0=zeroT:=by unfold aQ;rw [if_neg (by omega)];exact dec0
  rw [this]
  exact beq_self_eq_true zeroT.toList
 generalize writeB q=s at *
 refine jT Tryz.func164 fun w00=>?_
 refine uL 3 23 s ⟨#[48]⟩ true e ?_
 exact jS Tryz.func164
theorem signFn {q:Rat} (h:q.num<0):jF 164 [rS (writeB q)] (.fv (.sc (.lit (.int .i64 (-1))))):=by
 have e:=dU (lN (q:=q) (by omega))
 obtain ⟨f1,hc,f3,f4,f5⟩:=gZ h
 have h0:decide ((0:Int)<((writeB q).size:Nat))=true:=by rw [decide_eq_true_iff];omega
 generalize writeB q=s at *
 refine jT Tryz.func164 fun w00=>?_
 refine uL 3 23 s ⟨#[48]⟩ false e ?_
 refine dR 5 23 Tryz.underlying23 s ?_
 refine iX 6 0 (s.size:Nat) true h0 ?_
 refine ridnR 9 s hc ?_
 exact jS Tryz.func164
theorem signFp {q:Rat} (h:0<q.num):jF 164 [rS (writeB q)] (.fv (.sc (.lit (.int .i64 1)))):=by
 have e:=dU (lN (q:=q) (by omega))
 obtain ⟨c,hc,hc45⟩:=uM q
 rw [← dX (by omega)] at hc
 have h0:decide ((0:Int)<((writeB q).size:Nat))=true:=by rw [decide_eq_true_iff];have:=hc.1;omega
 generalize writeB q=s at *
 refine jT Tryz.func164 fun w00=>?_
 refine uL 3 23 s ⟨#[48]⟩ false e ?_
 refine dR 5 23 Tryz.underlying23 s ?_
 refine iX 6 0 (s.size:Nat) true h0 ?_
 refine ridpR 9 s c hc ?_
 refine rueq 10 c hc45 ?_
 exact jS Tryz.func164
theorem absFn {q:Rat} (h:q.num<0) (hs:(writeB q).size≤1000000000):jF 111 [rS (writeB q)] (rS (bA q)):=by
 have hg:=signFn h
 obtain ⟨f1,hc,f3,f4,f5⟩:=gZ h
 generalize bA q=u at *
 generalize writeB q=s at *
 refine jT Tryz.func111 fun w00=>?_
 refine jB 164 [rS s] hg ?_
 refine rsl1 6 23 Tryz.underlying23 s u f1 f3 ?_
 exact jS Tryz.func111
theorem absFp {q:Rat} (h:¬ q.num<0):jF 111 [rS (writeB q)] (rS (bA q)):=by
 rw [← dX h]
 by_cases h0:q.num=0
 ·have hg:=signF0 h0
  generalize writeB q=s at *
  refine jT Tryz.func111 fun w00=>?_
  refine jB 164 [rS s] hg ?_
  exact jS Tryz.func111
 ·have hg:=signFp (q:=q) (by omega)
  generalize writeB q=s at *
  refine jT Tryz.func111 fun w00=>?_
  refine jB 164 [rS s] hg ?_
  exact jS Tryz.func111
theorem absOfF {q:Rat} (hs:(writeB q).size≤1000000000):jF 111 [rS (writeB q)] (rS (bA q)):=by
 by_cases h:q.num<0
 ·exact absFn h hs
 ·exact absFp h
theorem absTF {z:Int} (hs:(aQ z).size≤1000000000):jF 111 [rS (aQ z)] (rS (decB z.natAbs)):=by
 have h:=absOfF (q:=(z:Rat)) (by rw [← dE];exact hs)
 have e:bA (z:Rat)=decB z.natAbs:=by rw [mN rfl,cE];rfl
 rw [← dE,e] at h
 exact h
def Fw (k:Nat) (q:Rat):Prop:=(decB q.num.natAbs).size≤k∧(decB q.den).size≤k
theorem yT (z:Int):(aQ z).size≤(decB z.natAbs).size+1:=by
 unfold aQ
 split
 ·rw [ByteArray.size_append,size45];omega
 ·omega
theorem kn_I {f:FuncId} {s:ByteArray} {z:Int} (h:jF f [rS s] (rI z)):jF f [tx s] (.fv (.sc (fW z))):=by
 intro β w vs hv
 obtain ⟨v,rfl,h1⟩:=dH hv
 rw [aO h1]
 exact (h β w [.string s] ⟨_,_,rfl,cQ,rfl⟩).mono fun e w' ⟨v,e1,e2,e3⟩=>⟨v,e1,e2,by rw [bB e3];exact bE⟩
theorem kO {f:FuncId} {s t u:ByteArray} (h:jF f [rS s,rS t] (rS u)):jF f [tx s,tx t] (tx u):=by
 intro β w vs hv
 obtain ⟨v,v2,rfl,h1,h2⟩:=eB hv
 rw [aO h1,aO h2]
 exact (h β w [.string s,.string t] ⟨_,_,rfl,cQ,_,_,rfl,cQ,rfl⟩).mono fun e w' ⟨v,e1,e2,e3⟩=>⟨v,e1,e2,by rw [bB e3];exact bE⟩
abbrev t3 (a b c:ByteArray):AV Kn := .fv (.ag [dB a,dB b,dB c])
def f2 (x y:Int):Int:=if x=0 then y else x
def f3 (x y z:Int):Int:=f2 x (f2 y z)
abbrev Ev (z:Int):Prop:=z=0∨z=1∨z=4
theorem f2_ev {x y:Int} (hx:Ev x) (hy:Ev y):Ev (f2 x y):=by unfold f2;split <;> assumption
theorem f2_zero {x y:Int} (h:f2 x y=0):x=0∧y=0:=by
 unfold f2 at h
 split at h
 ·rename_i e;exact ⟨e,h⟩
 ·rename_i e;exact absurd h e
theorem f2_l {x y:Int} (h:x≠0):f2 x y=x:=if_neg h
theorem f2_r {x y:Int} (h:x=0):f2 x y=y:=if_pos h
abbrev lz (z:Int):Seg Kn := .lit (.int .i64 z)
theorem first2Any {T:TypeId} {x y z:Int} (hx:Ev x) (hy:Ev y) (hz:f2 x y=z):jF 34 [.fv (.nsl 2 T [lz x,lz y])] (it z):=by
 rcases hx with rfl|rfl|rfl
 ·have hz:y=z:=hz
  subst hz
  rcases hy with rfl|rfl|rfl <;> (refine mA Tryz.func34 (by kernel_rfl) fun w00=>?_;exact kret Tryz.func34 (by kernel_rfl))
 ·have hz:1=z:=hz
  subst hz
  refine mA Tryz.func34 (by kernel_rfl) fun w00=>?_
  exact jR Tryz.func34
 ·have hz:4=z:=hz
  subst hz
  refine mA Tryz.func34 (by kernel_rfl) fun w00=>?_
  exact jR Tryz.func34
theorem first3Any {T:TypeId} {x y u z:Int} (hx:Ev x) (hy:Ev y) (hu:Ev u) (hz:f3 x y u=z):jF 34 [.fv (.nsl 3 T [lz x,lz y,lz u])] (it z):=by
 rcases hx with rfl|rfl|rfl
 ·rcases hy with rfl|rfl|rfl
  ·have hz:u=z:=hz
   subst hz
   rcases hu with rfl|rfl|rfl <;> (refine mA Tryz.func34 (by kernel_rfl) fun w00=>?_;exact kret Tryz.func34 (by kernel_rfl))
  ·have hz:1=z:=hz
   subst hz
   refine mA Tryz.func34 (by kernel_rfl) fun w00=>?_
   exact jR Tryz.func34
  ·have hz:4=z:=hz
   subst hz
   refine mA Tryz.func34 (by kernel_rfl) fun w00=>?_
   exact jR Tryz.func34
 ·have hz:1=z:=hz
  subst hz
  refine mA Tryz.func34 (by kernel_rfl) fun w00=>?_
  exact jR Tryz.func34
 ·have hz:4=z:=hz
  subst hz
  refine mA Tryz.func34 (by kernel_rfl) fun w00=>?_
  exact jR Tryz.func34
abbrev Rb (s:ByteArray):Prop:=s.size<4294967281
abbrev Rb3 (a b c:ByteArray):Prop:=Rb a∧Rb b∧Rb c
abbrev c3 (a b c:ByteArray):Int:=f3 (bT a) (bT b) (bT c)
theorem qJ (a b c:ByteArray):Ev (c3 a b c):=f2_ev (cK _) (f2_ev (cK _) (cK _))
section
variable {a b c x y u:ByteArray} {z:Int}
theorem vL (h:Rb3 a b c) (hz:c3 a b c=z):jX 33 [t3 a b c] (.tup [.ag [nb (uN a),nb (uN b),nb (uN c)],.sc (lz z)]):=by
 refine jY Tryz.func33 fun w00 hI=>?_
 refine jW hI 71 [tx a] (tB h.1 rfl) ?_
 refine jW hI 71 [tx b] (tB h.2.1 rfl) ?_
 refine jW hI 71 [tx c] (tB h.2.2 rfl) ?_
 refine kcallS 34 3 3 139 [lz (bT a),lz (bT b),lz (bT c)] (first3Any (cK _) (cK _) (cK _) hz) (by kernel_rfl) Tryz.call34 ?_
 exact jR Tryz.func33
abbrev noS (z:Int):AV Kn := .tup [.sc (.lit (.string ⟨#[]⟩)),.sc (lz z)]
end
theorem vM (q:Rat):bA (-q)=bA q:=by
 unfold bA
 rw [Rat.neg_den,Rat.neg_num,Int.natAbs_neg]
theorem zs_len {k:Nat} {q:Rat} (h:Zs k q):(writeB q).size≤2*k+4:=by
 have h1:=sK h.1
 have h2:=sK h.2
 have:=mP q
 have:=yT q.num
 split at * <;> omega
theorem negR {q:Rat} (hs:(writeB q).size≤1000000000):jF 165 [rS (writeB q)] (rS (writeB (-q))):=by
 by_cases h:q.num<0
 ·rw [dX (q := -q) (by rw [Rat.neg_num];omega),vM]
  have hg:=signFn h
  obtain ⟨f1,hc,f3,f4,f5⟩:=gZ h
  generalize bA q=u at *
  generalize writeB q=s at *
  refine jT Tryz.func165 fun w00=>?_
  refine jB 164 [rS s] hg ?_
  refine rsl1 6 23 Tryz.underlying23 s u f1 f3 ?_
  exact jS Tryz.func165
 ·by_cases h0:q.num=0
  ·have e:-q=q:=by
    have:q=0:=Rat.num_eq_zero.1 h0
    rw [this]
    rfl
   rw [e]
   have hg:=signF0 h0
   generalize writeB q=s at *
   refine jT Tryz.func165 fun w00=>?_
   refine jB 164 [rS s] hg ?_
   refine jB 164 [rS s] hg ?_
   exact jS Tryz.func165
  ·rw [mE (q := -q) (by rw [Rat.neg_num];omega),vM,← dX h]
   have hg:=signFp (q:=q) (by omega)
   have hcat:(⟨#[45]⟩:ByteArray).size+(writeB q).size≤9223372036854775807:=by rw [size45];omega
   generalize writeB q=s at *
   refine jT Tryz.func165 fun w00=>?_
   refine jB 164 [rS s] hg ?_
   refine jB 164 [rS s] hg ?_
   refine jL (.binOp .add 23 (.const (.string ⟨#[45]⟩)) (.tmp 12) 23) (.const (.string ⟨#[45]⟩)) (.tmp 12) (.fv (.sc (.lit (.string ⟨#[45]⟩)))) (rS s) (rS (⟨#[45]⟩++s)) (fun ρ o β w ho hx hy=>⟨_,eU ho (bY hx) (bB hy) hcat,cQ⟩) ?_
   exact jS Tryz.func165
theorem zs_neg {k:Nat} {q:Rat} (h:Zs k q):Zs k (-q):=by
 unfold Zs
 rw [Rat.neg_den,Rat.neg_num,Int.natAbs_neg]
 exact h
theorem zL {p q:Rat} (hp:Zs 10000 p) (hq:Zs 10000 q):jF 114 [rS (writeB p),rS (writeB q)] (rS (writeB (p-q))):=by
 have h1:=negR (q:=q) (by have:=zs_len hq;omega)
 have h2:=refAddF hp (zs_neg hq)
 rw [← Rat.sub_eq_add_neg] at h2
 generalize writeB (p-q)=x at *
 generalize writeB (-q)=y at *
 generalize writeB p=a at *
 generalize writeB q=b at *
 refine jT Tryz.func114 fun w00=>?_
 refine jB 165 [rS b] h1 ?_
 refine jB 120 [rS a,rS y] h2 ?_
 exact jS Tryz.func114
section
variable {a b c d e f:ByteArray} {x y z u v:ByteArray}
theorem subVecR (h1:jF 114 [tx a,tx d] (tx x)) (h2:jF 114 [tx b,tx e] (tx y)) (h3:jF 114 [tx c,tx f] (tx z)):jF 53 [t3 a b c,t3 d e f] (t3 x y z):=by
 refine jG Tryz.func53 fun w00=>?_
 refine jC 114 [tx a,tx d] (h1) ?_
 refine jC 114 [tx b,tx e] (h2) ?_
 refine jC 114 [tx c,tx f] (h3) ?_
 exact jR Tryz.func53
theorem dotR (h1:jF 58 [tx a,tx d] (tx x)) (h2:jF 58 [tx b,tx e] (tx y)) (h3:jF 120 [tx x,tx y] (tx u)) (h4:jF 58 [tx c,tx f] (tx z)) (h5:jF 120 [tx u,tx z] (tx v)):jF 59 [t3 a b c,t3 d e f] (tx v):=by
 refine jG Tryz.func59 fun w00=>?_
 refine jC 58 [tx a,tx d] (h1) ?_
 refine jC 58 [tx b,tx e] (h2) ?_
 refine jC 120 [tx x,tx y] (h3) ?_
 refine jC 58 [tx c,tx f] (h4) ?_
 refine jC 120 [tx u,tx z] (h5) ?_
 exact jR Tryz.func59
theorem squareR (h:jF 59 [t3 a b c,t3 a b c] (tx v)):jF 57 [t3 a b c] (tx v):=by
 refine jG Tryz.func57 fun w00=>?_
 refine jC 59 [t3 a b c,t3 a b c] (h) ?_
 exact jR Tryz.func57
end
end Ab
section
open Go.RowKit Pl
theorem gcd_tmod (x y:Int):Int.gcd y (x.tmod y)=Int.gcd x y:=by
 unfold Int.gcd
 rw [Int.natAbs_tmod,Nat.gcd_comm x.natAbs,Nat.gcd_rec y.natAbs x.natAbs,Nat.gcd_comm]
theorem intGcd_any (a b:Int) (w:World) (ha:-999999999≤a∧a≤999999999) (hb:-999999999≤b∧b≤999999999):Calls Tryz.prog 47 #[.int .i64 a,.int .i64 b] w fun e w'=>e = .returned (.int .i64 (Int.gcd a b:Nat))∧Below w.heap.size w w':=by
 have HA:=aH (aI ha hb)
 clear ha hb
 go_enter Tryz.func47,Tryz.ntmps47
 go_wp2
 go_loopw [0,1] (fun av bv wr => ∃ x y:Int,av = .int .i64 x∧bv = .int .i64 y∧Hid (Int.gcd x y=Int.gcd a b∧(-999999999≤x∧x≤999999999)∧(-999999999≤y∧y≤999999999))∧Below w.heap.size w wr) (fun _ bv _=>(intOf bv).natAbs)
 case atStart=>exact ⟨a,b,rfl,rfl,⟨rfl,HA.out⟩,aB _ _⟩
 case round =>
  obtain ⟨x,y,rfl,rfl,hi,hbw⟩:=hrel
  by_cases h0:y=0
  ·subst h0
   have HR:=aH (show x.natAbs=Int.gcd a b by rw [← hi.out.1,Int.gcd_zero_right])
   obtain ⟨_,hx,_⟩:=hi.out
   clear hi
   go_wp2
   all_goals go_ret
   all_goals refine ⟨?_,hbw⟩
   all_goals rw [← HR.out]
   all_goals show Ending.returned (.int .i64 (max x (-x)))=_
   all_goals have e:max x (-x)=(x.natAbs:Int):=by rw [Int.max_def];split <;> omega
   all_goals rw [e]
  ·by_cases h1:y = -1
   ·subst h1
    obtain ⟨hg,hx,_⟩:=hi.out
    have HG:=aH (show Int.gcd (-1) 0=Int.gcd a b by rw [← hg,← gcd_tmod x (-1)];congr 1;rw [Int.tmod_neg,Int.tmod_one])
    clear hi hg
    go_wp2
    go_quiet (fail)
    have hb2:=bW hbw nq
    clear hbw
    generalize wr.drewN nq=w2 at *
    go_wp2
    go_roundw
    case rel=>exact ⟨-1,0,rfl,by first|rfl|simp,⟨HG.out,by omega,by omega⟩,hb2⟩
    case measure=>simp [intOf]
   ·obtain ⟨r,hr⟩:∃ r,r=x.tmod y:=⟨_,rfl⟩
    have hlt:r.natAbs<y.natAbs:=by rw [hr,Int.natAbs_tmod];exact Nat.mod_lt _ (by omega)
    have HR:=aH (show (Int.gcd y r=Int.gcd a b∧(-999999999≤y∧y≤999999999)∧(-999999999≤r∧r≤999999999))∧r.natAbs<y.natAbs∧x.tmod y=r by
     obtain ⟨hg,hx,hy⟩:=hi.out
     exact ⟨⟨by rw [hr,gcd_tmod];exact hg,hy,by omega,by omega⟩,hlt,hr.symm⟩)
    have hz0:(y==0)=false:=by simp;omega
    have hz1:¬ y=0:=h0
    have hz3:(y == -1)=false:=by simp;omega
    clear hi hr hlt
    go_wp2
    go_quiet (fail)
    have hb2:=bW hbw nq
    clear hbw
    generalize wr.drewN nq=w2 at *
    go_wp2
    go_roundw
    case rel =>
     obtain ⟨h1,h2,h3⟩:=HR.out
     exact ⟨y,r,rfl,by first|(rw [h3];done)|rfl,h1,hb2⟩
    case measure =>
     obtain ⟨h1,h2,h3⟩:=HR.out
     simp only [intOf]
     rw [h3]
     exact h2
end
namespace Ab
open Go.RowKit Pl
theorem intGcdF {a b:Int} (ha:-999999999≤a∧a≤999999999) (hb:-999999999≤b∧b≤999999999):jF 47 [.fv (.sc (fW a)),.fv (.sc (fW b))] (.fv (.sc (fW (Int.gcd a b:Nat)))):=by
 intro β w vs hv
 obtain ⟨v,_,rfl,hv1,u,_,rfl,hv2,rfl⟩:=hv
 obtain rfl:=aO hv1
 obtain rfl:=aO hv2
 exact (intGcd_any a b w ha hb).mono fun e w' ⟨e1,e2⟩=>⟨_,e1,e2,bE⟩
theorem size_gcd {a b:Int} (ha:-999999999≤a∧a≤999999999) (hb:-999999999≤b∧b≤999999999):-999999999≤(Int.gcd a b:Int)∧(Int.gcd a b:Int)≤999999999:=by
 refine ⟨by omega,?_⟩
 by_cases h:a=0
 ·subst h
  rw [Int.gcd_zero_left]
  omega
 ·have:=Int.gcd_le_natAbs_left (a:=a) b h
  omega
end Ab
namespace Ab
open Go.RowKit
theorem equal3 {P:Program} {T e:TypeId} {x0 x1 x2 y0 y1 y2:Value} {r0 r1 r2:Bool} (d:Nat) (hT:P.underlying T=some (.array 3 e)) (he:P.cellsOf e=1) (ha:∀ w,(isAgg e).run P w = .ok false w) (hs:∀ w,(sizeOf e).run P w = .ok 1 w)
 (h0:∀ w,(Op.equalIn d e x0 y0).run P w = .ok r0 w) (h1:∀ w,(Op.equalIn d e x1 y1).run P w = .ok r1 w) (h2:∀ w,(Op.equalIn d e x2 y2).run P w = .ok r2 w) (w:World) :
 (Op.equalIn (d+1) T (.agg #[x0,x1,x2]) (.agg #[y0,y1,y2])).run P w = .ok (r0&&r1&&r2) w:=by
 rw [Op.equalIn]
 simp only [Sem.run_bind,run_underlying hT,Result.andThen_ok,hs]
 simp only [Std.Legacy.Range.forIn_eq_forIn_range',Std.Legacy.Range.size,Nat.sub_zero,Nat.add_sub_cancel,Nat.div_one,List.range'_succ,List.range'_zero,List.forIn_cons,List.forIn_nil]
 simp [go_sem,ha,hs,h0,h1,h2]
 cases r0 <;> cases r1 <;> cases r2 <;> simp
end Ab
namespace Ab
open Go.RowKit Pl
theorem jne_run {o:Oper} {ρ:Operand→Value} {w:World} {x y:Operand} {a b:Int} {r:Bool} {T T' : TypeId} (ho:o.op = .binOp .neq T x y T') (hx:ρ x = .int .i64 a) (hy:ρ y = .int .i64 b) (h:(!(a==b))=r) :
 (execOp ρ o).run Tryz.prog w = .ok (.value (.bool r)) w:=by
 simp only [execOp,ho,hx,hy]
 refine bI ?_
 rw [← h]
 exact bO (by kernel_rfl) w
theorem iss_run {o:Oper} {ρ:Operand→Value} {w:World} {x y:Operand} {a b:Int} {r:Bool} (ho:o.op = .binOp .lss 3 x y 3) (hx:ρ x = .int .i64 a) (hy:ρ y = .int .i64 b) (h:decide (a<b)=r) :
 (execOp ρ o).run Tryz.prog w = .ok (.value (.bool r)) w:=by
 simp only [execOp,ho,hx,hy]
 refine bI ?_
 rw [← h]
 exact bO (by kernel_rfl) w
theorem guard_eq {T:TypeId} {xs ys:Array Value} {x y:Operand} (h:Tryz.prog.eqGuardType Tryz.prog.depth T=false) (w:World):(eqGuard .eql T x y (.agg xs) (.agg ys)).run Tryz.prog w = .ok () w:=by
 simp [eqGuard,Sem.run_bind,run_program,h]
theorem agg_eq {o:Oper} {ρ:Operand→Value} {w:World} {x y:Operand} {xs ys:Array Value} {T T' : TypeId} {r:Bool} (hg:Tryz.prog.eqGuardType Tryz.prog.depth T=false) (h:(Op.equal T (.agg xs) (.agg ys)).run Tryz.prog w = .ok r w) (ho:o.op = .binOp .eql T x y T') (hx:ρ x = .agg xs) (hy:ρ y = .agg ys) :
 (execOp ρ o).run Tryz.prog w = .ok (.value (.bool r)) w:=by
 simp only [execOp,ho,hx,hy]
 refine bI ?_
 simp only [Sem.run_bind,guard_eq hg,Result.andThen_ok]
 show (do pure (Value.bool (← Op.equal T (.agg xs) (.agg ys))):Sem Value).run Tryz.prog w=_
 rw [Sem.run_bind,h]
 rfl
theorem equalZ (a b c x y z:Int) (w:World):(Op.equal 22 (.agg #[.int .i64 a,.int .i64 b,.int .i64 c]) (.agg #[.int .i64 x,.int .i64 y,.int .i64 z])).run Tryz.prog w = .ok (a==x&&b==y&&c==z) w :=
 equal3 9999 (e:=3) (by kernel_rfl) (by kernel_rfl) (fun w=>by kernel_rfl) (fun w=>by kernel_rfl) (fun w=>run_equalIn_int w _ _ _ .i64 _ _ (by kernel_rfl)) (fun w=>run_equalIn_int w _ _ _ .i64 _ _ (by kernel_rfl)) (fun w=>run_equalIn_int w _ _ _ .i64 _ _ (by kernel_rfl)) w
theorem equalT (a b c x y z:ByteArray) (w:World):(Op.equal 27 (.agg #[.string a,.string b,.string c]) (.agg #[.string x,.string y,.string z])).run Tryz.prog w = .ok (a.toList==x.toList&&b.toList==y.toList&&c.toList==z.toList) w :=
 equal3 9999 (e:=23) (by kernel_rfl) (by kernel_rfl) (fun w=>by kernel_rfl) (fun w=>by kernel_rfl) (fun w=>run_equalIn_string w _ _ _ _ (by kernel_rfl)) (fun w=>run_equalIn_string w _ _ _ _ (by kernel_rfl)) (fun w=>run_equalIn_string w _ _ _ _ (by kernel_rfl)) w
abbrev i3 (a b c:Int):AV Kn := .fv (.ag [fW a,fW b,fW c])
theorem i3_is {a b c:Int} {β:List Nat} {v:Value} {w:World} (h:(i3 a b c).holds β v w):v = .agg #[.int .i64 a,.int .i64 b,.int .i64 c]:=by
 obtain ⟨cs,rfl,x1,r1,rfl,h1,x2,r2,rfl,h2,x3,r3,rfl,h3,e⟩:=h
 rw [show r3 = [] from e,show x1=_ from h1,show x2=_ from h2,show x3=_ from h3]
 rfl
theorem s3_is {a b c:ByteArray} {β:List Nat} {v:Value} {w:World} (h:(.fv (.ag [dB a,dB b,dB c]):AV Kn).holds β v w):v = .agg #[.string a,.string b,.string c]:=by
 obtain ⟨cs,rfl,x1,r1,rfl,h1,x2,r2,rfl,h2,x3,r3,rfl,h3,e⟩:=h
 rw [show r3 = [] from e,show x1=_ from h1,show x2=_ from h2,show x3=_ from h3]
 rfl
theorem l3_is {a b c:Value} {β:List Nat} {v:Value} {w:World} (h:(.fv (.ag [.lit a,.lit b,.lit c]):AV Kn).holds β v w):v = .agg #[a,b,c]:=by
 obtain ⟨cs,rfl,x1,r1,rfl,h1,x2,r2,rfl,h2,x3,r3,rfl,h3,e⟩:=h
 rw [show r3 = [] from e,h1.1,h2.1,h3.1]
 rfl
section
variable {f:FuncId} {w00:World} {Out:Value→World→Prop} {c:Cfg Kn}
theorem klt (x y:Operand) (a b:Int) (r:Bool) (Y:AV Kn) (hY:∀ β v w,Y.holds β v w→v = .int .i64 b) (h:decide (a<b)=r) (hg:Ok Tryz.prog f w00 Out (cJ Tryz.prog 1000 (c.give (bl r))))
 (hc:(c.op.map fun o=>o.op,c.okT (bl r),c.ev x,c.ev y)=(some (.binOp .lss 3 x y 3),true,.fv (.sc (fW a)),Y):=by kernel_rfl):Ok Tryz.prog f w00 Out c :=
 qT (.binOp .lss 3 x y 3) x y _ _ (bl r) hc (by simp [Op.operands]) (by simp [Op.operands]) (fun ρ o β w ho hx hy=>⟨_,iss_run ho (aO hx) (hY _ _ _ hy) h,aZ rfl⟩) hg
theorem kgg (x y:Operand) (a b:Int) (r:Bool) (Y:AV Kn) (hY:∀ β v w,Y.holds β v w→v = .int .i64 b) (h:decide (b<a)=r) (hg:Ok Tryz.prog f w00 Out (cJ Tryz.prog 1000 (c.give (bl r))))
 (hc:(c.op.map fun o=>o.op,c.okT (bl r),c.ev x,c.ev y)=(some (.binOp .gtr 3 x y 3),true,.fv (.sc (fW a)),Y):=by kernel_rfl):Ok Tryz.prog f w00 Out c :=
 qT (.binOp .gtr 3 x y 3) x y _ _ (bl r) hc (by simp [Op.operands]) (by simp [Op.operands]) (fun ρ o β w ho hx hy=>⟨_,yE ho (aO hx) (hY _ _ _ hy) h,aZ rfl⟩) hg
theorem kne (x y:Operand) (a b:Int) (r:Bool) (Y:AV Kn) (hY:∀ β v w,Y.holds β v w→v = .int .i64 b) (h:(!(a==b))=r) (hg:Ok Tryz.prog f w00 Out (cJ Tryz.prog 1000 (c.give (bl r))))
 (hc:(c.op.map fun o=>o.op,c.okT (bl r),c.ev x,c.ev y)=(some (.binOp .neq 3 x y 3),true,.fv (.sc (fW a)),Y):=by kernel_rfl):Ok Tryz.prog f w00 Out c :=
 qT (.binOp .neq 3 x y 3) x y _ _ (bl r) hc (by simp [Op.operands]) (by simp [Op.operands]) (fun ρ o β w ho hx hy=>⟨_,jne_run ho (aO hx) (hY _ _ _ hy) h,aZ rfl⟩) hg
theorem bH {b:Int} (β:List Nat) (v:Value) (w:World) (h:(it b).holds β v w):v = .int .i64 b:=aM h
theorem kz3 (x y:Operand) (a b d:Int) (r:Bool) (h:(a==0&&b==0&&d==0)=r) (hg:Ok Tryz.prog f w00 Out (cJ Tryz.prog 1000 (c.give (bl r))))
 (hc:(c.op.map fun o=>o.op,c.okT (bl r),c.ev x,c.ev y)=(some (.binOp .eql 22 x y 22),true,i3 a b d,iv 0 0 0):=by kernel_rfl):Ok Tryz.prog f w00 Out c :=
 qT (.binOp .eql 22 x y 22) x y _ _ (bl r) hc (by simp [Op.operands]) (by simp [Op.operands]) (fun ρ o β w ho hx hy=>⟨_,agg_eq (by kernel_rfl) (h▸equalZ a b d 0 0 0 w) ho (i3_is hx) (l3_is hy),aZ rfl⟩) hg
theorem kneg (t:Tmp) (a:Int) (ha:qU a) (ha2:qU (-a)) (hg:Ok Tryz.prog f w00 Out (cJ Tryz.prog 1000 (c.give (.fv (.sc (fW (-a)))))))
 (hc:(c.op.map fun o=>o.op,c.okT (.fv (.sc (fW (-a)))),c.ev (.tmp t),c.ev (.tmp t))=(some (.unOp .neg 3 (.tmp t)),true,.fv (.sc (fW a)),.fv (.sc (fW a))):=by kernel_rfl):Ok Tryz.prog f w00 Out c :=
 qT (.unOp .neg 3 (.tmp t)) (.tmp t) (.tmp t) _ _ (.fv (.sc (fW (-a)))) hc (by simp [Op.operands]) (by simp [Op.operands]) (fun ρ o β w ho hx hy=>⟨_,by
  simp only [execOp,ho,aO hx]
  refine bI ?_
  have e:IntKind.i64.wrap (-a) = -a:=by rw [IntWalk.i64_left,IntWalk.wrap64_in _ ⟨by have:=ha2.1;omega,by have:=ha2.2;omega⟩]
  simp [go_sem,e],bE⟩) hg
theorem kabs (t u:Tmp) (a:Int) (hg:Ok Tryz.prog f w00 Out (cJ Tryz.prog 1000 (c.give (.fv (.sc (fW (a.natAbs:Int)))))))
 (hc:(c.op.map fun o=>o.op,c.okT (.fv (.sc (fW (a.natAbs:Int)))),c.ev (.tmp t),c.ev (.tmp u))=(some (.call ⟨.builtin .max,#[.tmp t,.tmp u],#[3,3]⟩),true,.fv (.sc (fW a)),.fv (.sc (fW (-a)))):=by kernel_rfl):Ok Tryz.prog f w00 Out c :=
 qT (.call ⟨.builtin .max,#[.tmp t,.tmp u],#[3,3]⟩) (.tmp t) (.tmp u) _ _ (.fv (.sc (fW (a.natAbs:Int)))) hc (by simp [Op.operands,Call.operands]) (by simp [Op.operands,Call.operands]) (fun ρ o β w ho hx hy=>⟨_,by
  have e:max a (-a)=(a.natAbs:Int):=by rw [Int.max_def];split <;> omega
  rw [← e]
  simp only [execOp,ho]
  refine bI ?_
  simp [go_sem,aO hx,aO hy],bE⟩) hg
theorem kcvu (t:Tmp) (a:Nat) (ha:a<9223372036854775808) (hg:Ok Tryz.prog f w00 Out (cJ Tryz.prog 1000 (c.give (.fv (.sc (.lit (.int .u64 (a:Int))))))))
 (hc:(c.op.map fun o=>o.op,c.okT (.fv (.sc (.lit (.int .u64 (a:Int))))),c.ev (.tmp t),c.ev (.tmp t))=(some (.convert 3 151 (.tmp t)),true,.fv (.sc (fW (a:Int))),.fv (.sc (fW (a:Int)))):=by kernel_rfl):Ok Tryz.prog f w00 Out c :=
 qT (.convert 3 151 (.tmp t)) (.tmp t) (.tmp t) _ _ (.fv (.sc (.lit (.int .u64 (a:Int))))) hc (by simp [Op.operands]) (by simp [Op.operands]) (fun ρ o β w ho hx hy=>⟨_,by
  simp only [execOp,ho,aO hx]
  refine bI ?_
  have e:IntKind.u64.wrap (a:Int)=a:=by simp [IntKind.wrap,IntKind.bits,IntKind.signed];omega
  simp [go_sem,e],aZ rfl⟩) hg
end
theorem cutPrefixNo {s:ByteArray} (h:Lib.hasPrefix s.data.toList [45]=false):jF 61 [tx s,lt ⟨#[45]⟩] (.tup [.sc (dB s),.sc (.lit (.bool false))]):=by
 intro β w vs hv
 obtain ⟨v,u,rfl,h1,h2⟩:=eB hv
 rw [aO h1,aM h2]
 have es:(⟨(Lib.trimPrefix s.data.toList [45]).toArray⟩:ByteArray)=s:=ba_ext (by unfold Lib.trimPrefix;rw [h];simp)
 refine (Tryz.strings_CutPrefix s ⟨#[45]⟩ w).mono fun e w' ⟨e1,e2⟩=>⟨_,e1,by rw [e2];exact aB _ _,?_⟩
 rw [show (⟨#[45]⟩:ByteArray).data.toList = [45] from rfl,es,h]
 exact ⟨[.string s,.bool false],rfl,_,_,rfl,bE (β:=β),_,_,rfl,⟨rfl,rfl⟩,rfl⟩
theorem ascii_two:∀ (j:Nat) (b:UInt8),(⟨#[47,46]⟩:ByteArray).data.toList[j]?=some b→b.toNat<128:=by
 intro j b h
 have:=List.mem_of_getElem? h
 simp at this
 rcases this with rfl|rfl <;> decide
theorem indexAnyF {s:ByteArray} {k:Int} (hs:s.size<4294967281) (ha:∀ (j:Nat) (b:UInt8),s.data.toList[j]?=some b→b.toNat<128) (h:Lib.indexAny s.data.toList [47,46]=k):jF 122 [tx s,lt ⟨#[47,46]⟩] (.fv (.sc (fW k))):=by
 intro β w vs hv
 obtain ⟨v,u,rfl,h1,h2⟩:=eB hv
 rw [aO h1,aM h2]
 refine (Tryz.strings_IndexAny_laid s ⟨#[47,46]⟩ w hs (by decide) ha ascii_two).mono fun e w' ⟨e1,e2⟩=>⟨_,e1,e2,?_⟩
 rw [show (⟨#[47,46]⟩:ByteArray).data.toList = [47,46] from rfl,h]
 exact bE
theorem repeatF {c:Nat} {z:ByteArray} (h2:2≤c) (hc:c≤100000) (hz:(⟨(Lib.repeatL [48] c).toArray⟩:ByteArray)=z):jF 124 [lt ⟨#[48]⟩,.fv (.sc (fW c))] (tx z):=by
 intro β w vs hv
 obtain ⟨v,u,rfl,h1,h3⟩:=eB hv
 rw [aM h1,aO h3]
 have hsz:(⟨#[48]⟩:ByteArray).size=1:=rfl
 refine (Tryz.strings_Repeat_main ⟨#[48]⟩ c w h2 (by omega) (by rw [hsz];omega) (by rw [hsz];omega)).mono fun e w' ⟨e1,e2⟩=>⟨_,e1,e2,?_⟩
 rw [show (⟨#[48]⟩:ByteArray).data.toList = [48] from rfl,hz]
 exact bE
section
variable {s a b z:ByteArray} {k:Nat}
theorem partsDot (hi:jF 122 [tx s,lt ⟨#[47,46]⟩] (.fv (.sc (fW k)))) (hk:k<s.size) (hs:s.size≤10000) (ha:s.extract 0 k=a) (hb:s.extract (k+1) s.size=b) (da:AllDig (aC a)) (da0:0<a.size) (db:AllDig (aC b)) (db0:0<b.size)
 (hdot:s[k]?=some 46) (hr:jF 124 [lt ⟨#[48]⟩,.fv (.sc (fW b.size))] (tx z)) (hz:z.size≤10000):jF 62 [tx s] (.tup [.sc (dB (a++b)),.sc (dB (⟨#[49]⟩++z)),.sc z0]):=by
 have hasz:a.size≤s.size:=by rw [← ha,ByteArray.size_extract];omega
 have hbsz:b.size≤s.size:=by rw [← hb,ByteArray.size_extract];omega
 refine jG Tryz.func62 fun w00=>?_
 refine jC 122 [tx s,lt ⟨#[47,46]⟩] (hi) ?_
 refine jK (.binOp .lss 3 (.tmp 10) (.const (.int .i64 0)) 3) (.tmp 10) (.const (.int .i64 0)) (.fv (.sc (fW k))) (it 0) (bl false) (fun ρ o β w ho hx hy=>⟨_,lss_run ho (aO hx) (aM hy) (by rw [decide_eq_false_iff_not];omega),aZ rfl⟩) ?_
 refine jK (.slice 9 (.tmp 16) none (some (.tmp 17)) none) (.tmp 16) (.tmp 17) (tx s) (.fv (.sc (fW k))) (tx a) (fun ρ o β w ho hx hy=>?_) ?_
 ·have:=oS (w:=w) ho Tryz.underlying9 (aO hx) (aO hy) (by omega)
  rw [ha] at this
  exact ⟨_,this,bE⟩
 refine jK (.binOp .add 3 (.tmp 20) (.const (.int .i64 1)) 3) (.tmp 20) (.const (.int .i64 1)) (.fv (.sc (fW k))) (it 1) (.fv (.sc (fW ((k+1:Nat):Int)))) (fun ρ o β w ho hx hy=>⟨_,sU ho (aO hx) (aM hy) (by omega),bE⟩) ?_
 refine jK (.slice 9 (.tmp 19) (some (.tmp 21)) none none) (.tmp 19) (.tmp 21) (tx s) (.fv (.sc (fW ((k+1:Nat):Int)))) (tx b) (fun ρ o β w ho hx hy=>?_) ?_
 ·have:=oT (w:=w) ho Tryz.underlying9 (aO hx) (aO hy) (by omega)
  rw [hb] at this
  exact ⟨_,this,bE⟩
 refine jC 123 [tx a] (pL da da0) ?_
 refine jC 123 [tx b] (pL db db0) ?_
 refine jK (.index 9 (.tmp 33) (.tmp 34)) (.tmp 33) (.tmp 34) (tx s) (.fv (.sc (fW k))) (.fv (.sc (.lit (.int .u8 46)))) (fun ρ o β w ho hx hy=>⟨_,mC ho Tryz.underlying9 (aO hx) (aO hy) hdot,aZ rfl⟩) ?_
 refine jK (.binOp .add 9 (.tmp 37) (.tmp 38) 9) (.tmp 37) (.tmp 38) (tx a) (tx b) (tx (a++b)) (fun ρ o β w ho hx hy=>⟨_,eU ho (aO hx) (aO hy) (by omega),bE⟩) ?_
 refine jO 40 b ?_
 refine jC 124 [lt ⟨#[48]⟩,.fv (.sc (fW b.size))] (hr) ?_
 refine jK (.binOp .add 9 (.const (.string ⟨#[49]⟩)) (.tmp 42) 9) (.const (.string ⟨#[49]⟩)) (.tmp 42) (lt ⟨#[49]⟩) (tx z) (tx (⟨#[49]⟩++z)) (fun ρ o β w ho hx hy=>⟨_,eU ho (aM hx) (aO hy) (by have:(⟨#[49]⟩:ByteArray).size=1:=rfl;omega),bE⟩) ?_
 exact jR Tryz.func62
theorem parseF' {n d:Nat} (hs:s.size≤4096) (hp:Lib.hasPrefix s.data.toList [45]=false) (hpt:jF 62 [tx s] (.tup [.sc (dB (decB n)),.sc (dB (decB d)),.sc z0])) (hn:(decB n).size≤100000) (hd:(decB d).size≤100000) (ln:Lv 40 n) (ld:Lv 40 d) (d0:0<d)
 (lq:Lf 20 (mkRat (sg false n) d)) (w1:(decB (mkRat (sg false n) d).num.natAbs).size≤600) (w2:(decB (mkRat (sg false n) d).den).size≤600):jX 19 [tx s] (.tup [.sc (dB (writeB (mkRat (sg false n) d))),.sc z0]):=by
 refine jY Tryz.func19 fun w00 hI=>?_
 refine jO 9 s ?_
 refine jM 10 s.size 4096 false (by rw [decide_eq_false_iff_not];omega) ?_
 refine jC 61 [tx s,lt ⟨#[45]⟩] (cutPrefixNo hp) ?_
 refine jC 62 [tx s] (hpt) ?_
 refine jC 64 [tx (decB n)] (bQ hn) ?_
 refine jC 64 [tx (decB d)] (bQ hd) ?_
 refine jC 63 [bl false,nt n,nt d] (oO ln ld d0) ?_
 refine jC 65 [fra (mkRat (sg false n) d)] (jI) ?_
 refine jW hI 45 [num (mkRat (sg false n) d)] (qX lq w1 w2) ?_
 exact jR Tryz.func19
end
end Ab
end Go.Proofs.YtjiadfgfnmeabaaGreatDoor
