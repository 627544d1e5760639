/- Parts of the proof, joined. -/
import Derived.Test.YtbhcckhbbclemaaGreatDoorJ30
import Derived.Test.YtbhcckhbbclemaaGreatDoorJ26
set_option linter.unusedSimpArgs false
set_option linter.unusedVariables false
namespace Go.Proofs.YtbhcckhbbclemaaGreatDoor
open Go.RowKit Pl
def Kr:Value→Bool
 | .int .i64 _=>true
 | _=>false
theorem Ri.ext {K:Value→Bool} (hK:∀ x,K (.int .i64 x)=true) {w w' : World} {A:Option Addr} {n c:Nat} {xs:List Nat} (h:Ri w A n c xs) (hx:Ext K w w'):Ri w' A n c xs:=by
 refine ⟨h.1,h.2.1,h.2.2.1,fun hn=>?_⟩
 obtain ⟨ad,e,hl,hc⟩:=h.2.2.2 hn
 exact ⟨ad,e,Nat.lt_of_lt_of_le hl hx.size,fun j x hj=>hx.cell (hc j x hj) (hK _)⟩
theorem Di.ext {w w' : World} {v:Value} {a:Nat} (h:Di w v a) (hx:Ext Kr w w'):Di w' v a:=by
 obtain ⟨A,n,c,xs,hv,hr,hd,hn,ha⟩:=h
 exact ⟨A,n,c,xs,hv,hr.ext (fun _=>rfl) hx,hd,hn,ha⟩
def Ru (w:World) (v:Value) (a:Nat):Prop := ∃ A n c xs,v = .slice A n c∧Ri w A n c xs∧Dig B9 xs∧val B9 xs=a
theorem Ru.ext {w w' : World} {v:Value} {a:Nat} (h:Ru w v a) (hx:Ext Kr w w'):Ru w' v a:=by
 obtain ⟨A,n,c,xs,hv,hr,hd,ha⟩:=h
 exact ⟨A,n,c,xs,hv,hr.ext (fun _=>rfl) hx,hd,ha⟩
end Go.Proofs.YtbhcckhbbclemaaGreatDoor
namespace Go.Proofs.YtbhcckhbbclemaaGreatDoor.Ab
open Go.RowKit Go.Proofs.YtbhcckhbbclemaaGreatDoor Pl
theorem kr_ok:KOk Kr:=⟨fun _=>rfl,fun _ _ _=>rfl⟩
def csDi (a:Nat):CS Kr where
 size:=1
 cold:=true
 pred cs w := ∃ v,cs = [v]∧Di w v a
 stable cs w w' h hx:=by obtain ⟨v,e,h⟩:=h;exact ⟨v,e,h.ext hx⟩
 len cs w h:=by obtain ⟨v,e,_⟩:=h;rw [e];rfl
 one cs w h:=by
  obtain ⟨v,e,A,n,c,xs,hv,_⟩:=h
  rw [e];intro d hd;rw [List.mem_singleton] at hd;rw [hd,hv];rfl
 iscold _ cs w h:=by
  obtain ⟨v,e,A,n,c,xs,hv,_⟩:=h
  rw [e];intro d hd;rw [List.mem_singleton] at hd;rw [hd,hv];rfl
def csRu (a:Nat):CS Kr where
 size:=1
 cold:=true
 pred cs w := ∃ v,cs = [v]∧Ru w v a
 stable cs w w' h hx:=by obtain ⟨v,e,h⟩:=h;exact ⟨v,e,h.ext hx⟩
 len cs w h:=by obtain ⟨v,e,_⟩:=h;rw [e];rfl
 one cs w h:=by
  obtain ⟨v,e,A,n,c,xs,hv,_⟩:=h
  rw [e];intro d hd;rw [List.mem_singleton] at hd;rw [hd,hv];rfl
 iscold _ cs w h:=by
  obtain ⟨v,e,A,n,c,xs,hv,_⟩:=h
  rw [e];intro d hd;rw [List.mem_singleton] at hd;rw [hd,hv];rfl
def csIsR (v:Value) (h:v.oneCell'=true) (c:Bool) (hc:c=true→Kr v=false):CS Kr where
 size:=1
 cold:=c
 pred cs _:=cs = [v]
 stable _ _ _ h _:=h
 len _ _ h:=by rw [h];rfl
 one _ _ hp:=by rw [hp];intro c hc;rw [List.mem_singleton] at hc;rw [hc];exact h
 iscold hb _ _ hp:=by rw [hp];intro d hd;rw [List.mem_singleton] at hd;rw [hd];exact hc hb
abbrev di (a:Nat):AV Kr := .fv (.sc (.sp (csDi a)))
abbrev ru (a:Nat):AV Kr := .fv (.sc (.sp (csRu a)))
abbrev rB (b:Bool):Seg Kr := .sp (csIsR (.bool b) rfl true (fun _=>rfl))
abbrev rb (b:Bool):AV Kr := .fv (.sc (rB b))
abbrev rS (s:ByteArray):AV Kr := .fv (.sc (.sp (csIsR (.string s) rfl true (fun _=>rfl))))
abbrev iz (z:Int):AV Kr := .fv (.ag [rB (decide (z<0)),.sp (csDi z.natAbs)])
theorem di_holds {β:List Nat} {v:Value} {w:World} {a:Nat}:(di a).holds β v w↔Di w v a:=by
 constructor
 ·rintro ⟨u,e,h⟩
  injection e with e
  rw [e];exact h
 ·intro h;exact ⟨v,rfl,h⟩
theorem ru_holds {β:List Nat} {v:Value} {w:World} {a:Nat}:(ru a).holds β v w↔Ru w v a:=by
 constructor
 ·rintro ⟨u,e,h⟩
  injection e with e
  rw [e];exact h
 ·intro h;exact ⟨v,rfl,h⟩
theorem r_is {v u:Value} {h:v.oneCell'=true} {c:Bool} {hc:c=true→Kr v=false} {β:List Nat} {w:World} (k:(AV.fv (.sc (.sp (csIsR v h c hc))):AV Kr).holds β u w):u=v:=by
 have:[u] = [v]:=k
 injection this
theorem is_r {v:Value} {h:v.oneCell'=true} {c:Bool} {hc:c=true→Kr v=false} {β:List Nat} {w:World}:(AV.fv (.sc (.sp (csIsR v h c hc))):AV Kr).holds β v w:=rfl
theorem iz_holds {β:List Nat} {v:Value} {w:World} {z:Int}:(iz z).holds β v w↔In w v z:=by
 constructor
 ·rintro ⟨cs,rfl,a,r,rfl,h1,b,r2,rfl,⟨u,e,A,n,c,xs,rfl,hr,hd,hn,hv⟩,h3⟩
  have h1:a = [.bool (decide (z<0))]:=h1
  rw [show r2 = [] from h3,h1,e]
  exact ⟨A,n,c,xs,rfl,hr,hd,hn,hv⟩
 ·rintro ⟨A,n,c,xs,rfl,hr,hd,hn,hv⟩
  exact ⟨[.bool (decide (z<0)),.slice A n c],rfl,[.bool (decide (z<0))],_,rfl,rfl,[.slice A n c],[],rfl,⟨_,rfl,A,n,c,xs,rfl,hr,hd,hn,hv⟩,rfl⟩
theorem rgo {f:FuncId} {fn:Func} {args:List (AV Kr)} {x:AV Kr} (hfn:Tryz.prog.funcs[f]?=some fn) (hc:(fn.body.isSome,decide (args.length≤fn.ntmps),x.noPtr,args.all AV.noPtr)=(true,true,true,true))
 (h:∀ w00,Ok Tryz.prog f w00 (fun v w=>x.holds [] v w) (runA Tryz.prog 1000 (startA fn args))):Fits Tryz.prog f args x:=by
 simp only [Prod.mk.injEq] at hc
 exact fits_go hfn hc.1 hc.2.1 hc.2.2.1 hc.2.2.2 fun w00=>Ok.go (by kernel_rfl) kr_ok 1000 (h w00)
section
variable {f:FuncId} {w00:World} {Out:Value→World→Prop}
theorem rcall {c:Cfg Kr} (fn:FuncId) (args:List (AV Kr)) {x:AV Kr} (h:Fits Tryz.prog fn args x) (hc:(c.callee Tryz.prog,c.args Tryz.prog,c.okT x)=(some fn,args,true)) (hfn:∀ (args:Array Value) (w:World),(callFunc fn args).run Tryz.prog w = .ok (.enter fn args) w)
 (hg:Ok Tryz.prog f w00 Out (runA Tryz.prog 1000 (c.give x))):Ok Tryz.prog f w00 Out c:=by
 simp only [Prod.mk.injEq] at hc
 exact Ok.call fn args h hc.1 hc.2.1 hc.2.2 hfn (Ok.go (by kernel_rfl) kr_ok 1000 hg)
theorem rop2 {c:Cfg Kr} (op:Op) (x y:Operand) (X Y r:AV Kr) (hc:(c.op.map fun o=>o.op,c.okT r,c.ev x,c.ev y)=(some op,true,X,Y)) (hx:x∈op.operands) (hy:y∈op.operands)
 (h:∀ (ρ:Operand→Value) (o:Oper) (β:List Nat) (w:World),o.op=op→X.holds β (ρ x) w→Y.holds β (ρ y) w→∃ v,(execOp ρ o).run Tryz.prog w = .ok (.value v) w∧r.holds β v w)
 (hg:Ok Tryz.prog f w00 Out (runA Tryz.prog 1000 (c.give r))):Ok Tryz.prog f w00 Out c:=by
 simp only [Prod.mk.injEq] at hc
 obtain ⟨h1,h2,h3,h4⟩:=hc
 rw [Option.map_eq_some_iff] at h1
 obtain ⟨o,ho,ho2⟩:=h1
 refine Ok.op o r ho h2 (fun β ρ w _ _ hs => .inl ?_) (Ok.go (by kernel_rfl) kr_ok 1000 hg)
 obtain ⟨v,e,hv⟩:=h ρ o β w ho2 (by rw [← h3];exact hs x (by rw [ho2];exact hx)) (by rw [← h4];exact hs y (by rw [ho2];exact hy))
 exact ⟨v,w,e,Below.refl _ _,hv⟩
theorem rret {c:Cfg Kr} {fn:Func} {x:AV Kr} (hfn:Tryz.prog.funcs[f]?=some fn) (hc:(x.noPtr,c.res Tryz.prog fn)=(true,some x)):Ok Tryz.prog f w00 (fun v w=>x.holds [] v w) c:=by
 simp only [Prod.mk.injEq] at hc
 exact Ok.ret hfn hc.1 hc.2
end
theorem beq_run {o:Oper} {ρ:Operand→Value} {w:World} {x y:Operand} {a b:Bool} (ho:o.op = .binOp .eql 4 x y 4) (hx:ρ x = .bool a) (hy:ρ y = .bool b):(execOp ρ o).run Tryz.prog w = .ok (.value (.bool (a==b))) w:=by
 simp only [execOp,ho,hx,hy]
 refine run_v ?_
 cases a <;> cases b <;> exact evalP_run (by kernel_rfl) w
theorem bne_run {o:Oper} {ρ:Operand→Value} {w:World} {x y:Operand} {a b:Bool} (ho:o.op = .binOp .neq 4 x y 4) (hx:ρ x = .bool a) (hy:ρ y = .bool b):(execOp ρ o).run Tryz.prog w = .ok (.value (.bool (a != b))) w:=by
 simp only [execOp,ho,hx,hy]
 refine run_v ?_
 cases a <;> cases b <;> exact evalP_run (by kernel_rfl) w
abbrev Bd (a:Nat):Prop:=a<B9^1099511627776
theorem mulF {a b:Nat} (ha:Bd a) (hb:Bd b):Fits Tryz.prog 121 [di a,di b] (di (a*b)):=by
 intro β w vs hv
 obtain ⟨v,u,rfl,h1,h2⟩:=args2 hv
 obtain ⟨A,n,c,xs,rfl,hr,hd,hn,rfl⟩:=di_holds.1 h1
 obtain ⟨A',n',c',ys,rfl,hr',hd',hn',rfl⟩:=di_holds.1 h2
 have hl:n≤1099511627776:=by rw [← hr.len];exact length_le_of_val B9_one hn ha
 have hl' : n'≤1099511627776:=by rw [← hr'.len];exact length_le_of_val B9_one hn' hb
 exact (mulDigits_any A n c xs A' n' c' ys w hr hr' hd hd' (by omega) (by omega)).mono fun e w' ⟨v,e1,e2,e3⟩=>⟨v,e1,e3,di_holds.2 e2⟩
theorem signedDF {b:Bool} {a:Nat}:Fits Tryz.prog 120 [rb b,di a] (iz (sgz b a)):=by
 intro β w vs hv
 obtain ⟨v,u,rfl,h1,h2⟩:=args2 hv
 rw [r_is h1]
 obtain ⟨A,n,c,xs,rfl,hr,hd,hn,rfl⟩:=di_holds.1 h2
 exact (signed_any b A n c xs w hr hd).mono fun e w' ⟨v,e1,e2,e3⟩=>⟨v,e1,e3,iz_holds.2 e2⟩
theorem signedRF {b:Bool} {a:Nat}:Fits Tryz.prog 120 [rb b,ru a] (iz (sgz b a)):=by
 intro β w vs hv
 obtain ⟨v,u,rfl,h1,h2⟩:=args2 hv
 rw [r_is h1]
 obtain ⟨A,n,c,xs,rfl,hr,hd,rfl⟩:=ru_holds.1 h2
 exact (signed_any b A n c xs w hr hd).mono fun e w' ⟨v,e1,e2,e3⟩=>⟨v,e1,e3,iz_holds.2 e2⟩
theorem sgz_mul (a b:Int):sgz (decide (a<0) != decide (b<0)) (a.natAbs*b.natAbs)=a*b:=by
 have ha:a=if decide (a<0) then -(a.natAbs:Int) else (a.natAbs:Int):=by split <;> simp_all <;> omega
 have hb:b=if decide (b<0) then -(b.natAbs:Int) else (b.natAbs:Int):=by split <;> simp_all <;> omega
 generalize decide (a<0)=na at *
 generalize decide (b<0)=nb at *
 generalize a.natAbs=x at *
 generalize b.natAbs=y at *
 subst ha
 subst hb
 cases na <;> cases nb <;> simp [sgz,Int.neg_mul,Int.mul_neg]
theorem timesZ {a b:Int} (ha:Bd a.natAbs) (hb:Bd b.natAbs):Fits Tryz.prog 53 [iz a,iz b] (iz (a*b)):=by
 refine rgo Tryz.func53 (by kernel_rfl) fun w00=>?_
 refine rop2 (.binOp .neq 4 (.tmp 6) (.tmp 8) 4) (.tmp 6) (.tmp 8) (rb (decide (a<0))) (rb (decide (b<0))) (rb (decide (a<0) != decide (b<0))) (by kernel_rfl) (by simp [Op.operands]) (by simp [Op.operands]) (fun ρ o β w ho hx hy=>⟨_,bne_run ho (r_is hx) (r_is hy),is_r⟩) ?_
 refine rcall 121 [di a.natAbs,di b.natAbs] (mulF ha hb) (by kernel_rfl) Tryz.call121 ?_
 refine rcall 120 [rb (decide (a<0) != decide (b<0)),di (a.natAbs*b.natAbs)] (by have := @signedDF (decide (a<0) != decide (b<0)) (a.natAbs*b.natAbs);rw [sgz_mul] at this;exact this) (by kernel_rfl) Tryz.call120 ?_
 exact rret Tryz.func53 (by kernel_rfl)
end Go.Proofs.YtbhcckhbbclemaaGreatDoor.Ab
namespace Go.Proofs.YtbhcckhbbclemaaGreatDoor
open Go.RowKit Pl
theorem text_in (v:Value) (z:Int) (w:World) (h:In w v z) (hz:z.natAbs<B9^100000000):Calls Tryz.prog 119 #[v] w fun e w'=>e = .returned (.string (textB z))∧Below w.heap.size w w':=by
 obtain ⟨A,n,c,xs,rfl,hr,hd,hn,hv⟩:=h
 have hl:n≤100000000:=by rw [← hr.len];exact length_le_of_val B9_one hn (by rw [hv];exact hz)
 refine (text_raw _ A n c xs w hr hd hn hl).mono ?_
 rintro e w' ⟨rfl,hb⟩
 refine ⟨?_,hb⟩
 congr 2
 unfold textB
 rw [hv]
 by_cases h0:z<0
 ·have h1:0<n:=by
   refine Nat.pos_of_ne_zero fun he=>?_
   have:=(Norm.zero_iff B9_pos hn).2 (List.eq_nil_of_length_eq_zero (by rw [hr.len];exact he))
   omega
  simp [h0,h1]
 ·simp [h0]
theorem textB_write (z:Int):textB z=Ab.writeB (z:Rat):=by
 unfold textB Ab.writeB Ab.overB
 rw [if_pos (Rat.den_intCast z),Rat.num_intCast]
theorem fromInt_any (z:Int) (w:World) (hz:-9223372036854775808≤z∧z≤9223372036854775807):Calls Tryz.prog 105 #[.int .i64 z] w fun e w'=>e = .returned (.string (Ab.writeB (z:Rat)))∧Below w.heap.size w w':=by
 have HZ:=Lib.hid hz
 clear hz
 go_enter Tryz.func105,Tryz.ntmps105
 go_wp2_with fail
 refine (whole_any z _ HZ.out).mono ?_
 rintro e w2 ⟨v,rfl,q,b⟩
 have Q:=Lib.hid (And.intro q b)
 clear q b
 go_wp2_with fail
 refine (text_in v z _ Q.out.1 ?_).mono ?_
 ·obtain ⟨n,hn⟩:∃ n,n=100000000:=⟨_,rfl⟩
  rw [← hn]
  have h3:B9^3≤B9^n:=Nat.pow_le_pow_right B9_pos (by omega)
  have h5:B9^3=1000000000000000000000000000:=rfl
  rw [h5] at h3
  have:=HZ.out
  refine Nat.lt_of_lt_of_le ?_ h3
  omega
 rintro e w3 ⟨rfl,b⟩
 have B:=Lib.hid (Below.step_trans Q.out.2 b)
 clear b
 go_wp2
 go_ret
 exact ⟨by rw [textB_write];rfl,B.out⟩
end Go.Proofs.YtbhcckhbbclemaaGreatDoor
namespace Go.Proofs.YtbhcckhbbclemaaGreatDoor.Ab
open Go.RowKit Go.Proofs.YtbhcckhbbclemaaGreatDoor Pl
theorem fromIntF {z:Int} (hz:M64 z):Fits Tryz.prog 105 [it z] (tx (writeB (z:Rat))):=by
 intro β w vs hv
 obtain ⟨v,rfl,h1⟩:=args1 hv
 rw [hold_lit h1]
 exact (fromInt_any z w hz).mono fun e w' ⟨e1,e2⟩=>⟨_,e1,e2,is_hold⟩
theorem intsF {a b c:Int} (ha:M64 a) (hb:M64 b) (hc:M64 c):Fits Tryz.prog 43 [it a,it b,it c] (vS a b c):=by
 refine kgo Tryz.func43 (by kernel_rfl) fun w00=>?_
 refine kcall 105 [it a] (fromIntF ha) (by kernel_rfl) Tryz.call105 ?_
 refine kcall 105 [it b] (fromIntF hb) (by kernel_rfl) Tryz.call105 ?_
 refine kcall 105 [it c] (fromIntF hc) (by kernel_rfl) Tryz.call105 ?_
 exact kret Tryz.func43 (by kernel_rfl)
theorem lawVecF {a b c:Int} (ha:M64 a) (hb:M64 b) (hc:M64 c):Fits Tryz.prog 10 [it a,it b,it c] (vS a b c):=by
 refine kgo Tryz.func10 (by kernel_rfl) fun w00=>?_
 refine kcall 43 [it a,it b,it c] (intsF ha hb hc) (by kernel_rfl) Tryz.call43 ?_
 exact kret Tryz.func10 (by kernel_rfl)
theorem lawFrameF:Fits Tryz.prog 23 [] (frS (1:Int) (0:Int) (0:Int) (3:Int) (4:Int) (0:Int) (-4:Int) (3:Int) (0:Int) (0:Int) (0:Int) (5:Int)):=by
 refine kgo Tryz.func23 (by kernel_rfl) fun w00=>?_
 refine kcall 10 [it 1,it 0,it 0] (lawVecF (by constructor <;> omega) (by constructor <;> omega) (by constructor <;> omega)) (by kernel_rfl) Tryz.call10 ?_
 refine kcall 10 [it 3,it 4,it 0] (lawVecF (by constructor <;> omega) (by constructor <;> omega) (by constructor <;> omega)) (by kernel_rfl) Tryz.call10 ?_
 refine kcall 10 [it (-4),it 3,it 0] (lawVecF (by constructor <;> omega) (by constructor <;> omega) (by constructor <;> omega)) (by kernel_rfl) Tryz.call10 ?_
 refine kcall 10 [it 0,it 0,it 5] (lawVecF (by constructor <;> omega) (by constructor <;> omega) (by constructor <;> omega)) (by kernel_rfl) Tryz.call10 ?_
 exact kret Tryz.func23 (by kernel_rfl)
end Go.Proofs.YtbhcckhbbclemaaGreatDoor.Ab
namespace Go.Proofs.YtbhcckhbbclemaaGreatDoor.Ab
open Go.RowKit Go.Proofs.YtbhcckhbbclemaaGreatDoor Pl
abbrev rl (b:Bool):AV Kr := .fv (.sc (.lit (.bool b)))
abbrev rI (n:Int):AV Kr := .fv (.sc (.sp (csIsR (.int .i64 n) rfl false (fun h=>by cases h))))
theorem rlit {v:Value} (h:v.oneCell'=true) {β:List Nat} {w:World}:(AV.fv (.sc (.lit v)):AV Kr).holds β v w:=⟨rfl,h⟩
theorem r_lit {v u:Value} {β:List Nat} {w:World} (k:(AV.fv (.sc (.lit v)):AV Kr).holds β u w):u=v:=by have:=k.1;injection this
theorem addF {a b:Nat} (ha:Bd a) (hb:Bd b):Fits Tryz.prog 168 [di a,di b] (ru (a+b)):=by
 intro β w vs hv
 obtain ⟨v,u,rfl,h1,h2⟩:=args2 hv
 obtain ⟨A,n,c,xs,rfl,hr,hd,hn,rfl⟩:=di_holds.1 h1
 obtain ⟨A',n',c',ys,rfl,hr',hd',hn',rfl⟩:=di_holds.1 h2
 have hl:n≤1099511627776:=by rw [← hr.len];exact length_le_of_val B9_one hn ha
 have hl' : n'≤1099511627776:=by rw [← hr'.len];exact length_le_of_val B9_one hn' hb
 refine (addDigits_any A n c xs A' n' c' ys w hr hr' hd hd' (by omega) (by omega)).mono ?_
 rintro e w' ⟨A2,n2,c2,zs,rfl,h1,h2,h3,h4⟩
 exact ⟨_,rfl,h4,ru_holds.2 ⟨A2,n2,c2,zs,rfl,h1,h2,h3⟩⟩
theorem subF {a b:Nat} (ha:Bd a) (hle:b≤a):Fits Tryz.prog 169 [di a,di b] (di (a-b)):=by
 intro β w vs hv
 obtain ⟨v,u,rfl,h1,h2⟩:=args2 hv
 obtain ⟨A,n,c,xs,rfl,hr,hd,hn,rfl⟩:=di_holds.1 h1
 obtain ⟨A',n',c',ys,rfl,hr',hd',hn',rfl⟩:=di_holds.1 h2
 have hl:n≤1099511627776:=by rw [← hr.len];exact length_le_of_val B9_one hn ha
 have hl' : n'≤n:=by
  rcases Nat.lt_or_ge n n' with e|e
  ·have:=lt_of_length B9_one hd hn' (by rw [hr.len,hr'.len];exact e)
   omega
  ·exact e
 exact (subDigits_any A n c xs A' n' c' ys w hr hr' hd hd' (by omega) hl' hle).mono fun e w' ⟨v,e1,e2,e3⟩=>⟨v,e1,e3,di_holds.2 e2⟩
theorem compareF {a b:Nat}:Fits Tryz.prog 164 [di a,di b] (rI (cmpI a b)):=by
 intro β w vs hv
 obtain ⟨v,u,rfl,h1,h2⟩:=args2 hv
 obtain ⟨A,n,c,xs,rfl,hr,hd,hn,rfl⟩:=di_holds.1 h1
 obtain ⟨A',n',c',ys,rfl,hr',hd',hn',rfl⟩:=di_holds.1 h2
 exact (compareDigits_any A n c xs A' n' c' ys w hr hr' hd hd' hn hn').mono fun e w' ⟨e1,e2⟩=>⟨_,e1,e2,is_r⟩
theorem divF {a b:Nat} (ha:Bd a) (hb:0<b):Fits Tryz.prog 118 [di a,di b] (.tup [.sc (.sp (csDi (a/b))),.sc (.sp (csDi (a%b)))]):=by
 intro β w vs hv
 obtain ⟨v,u,rfl,h1,h2⟩:=args2 hv
 refine (di_divDigits (di_holds.1 h1) (di_holds.1 h2) ha hb).mono ?_
 rintro e w' ⟨v1,v2,rfl,q1,q2,q3⟩
 exact ⟨_,rfl,q3,[v1,v2],rfl,v1,[v2],rfl,⟨v1,rfl,q1⟩,v2,[],rfl,⟨v2,rfl,q2⟩,rfl⟩
theorem commonF {a b:Nat} (ha:Bd a) (hb:Bd b):Fits Tryz.prog 117 [di a,di b] (di (Nat.gcd a b)):=by
 intro β w vs hv
 obtain ⟨v,u,rfl,h1,h2⟩:=args2 hv
 exact (common_any v u a b w (di_holds.1 h1) (di_holds.1 h2) ha hb).mono fun e w' ⟨v,e1,e2,e3⟩=>⟨v,e1,e3,di_holds.2 e2⟩
theorem textF {z:Int} (hz:z.natAbs<B9^100000000):Fits Tryz.prog 119 [iz z] (rS (textB z)):=by
 intro β w vs hv
 obtain ⟨v,rfl,h1⟩:=args1 hv
 exact (text_in v z w (iz_holds.1 h1) hz).mono fun e w' ⟨e1,e2⟩=>⟨_,e1,e2,is_r⟩
theorem geq_run {o:Oper} {ρ:Operand→Value} {w:World} {x y:Operand} {a b:Int} {r:Bool} (ho:o.op = .binOp .geq 3 x y 3) (hx:ρ x = .int .i64 a) (hy:ρ y = .int .i64 b) (h:decide (b≤a)=r) :
 (execOp ρ o).run Tryz.prog w = .ok (.value (.bool r)) w:=by
 simp only [execOp,ho,hx,hy]
 refine run_v ?_
 rw [← h]
 exact evalP_run (by kernel_rfl) w
theorem sgz_val (a:Int):a=sgz (decide (a<0)) a.natAbs:=by unfold sgz;split <;> simp_all <;> omega
theorem plusZ {a b:Int} (ha:Bd a.natAbs) (hb:Bd b.natAbs):Fits Tryz.prog 122 [iz a,iz b] (iz (a+b)):=by
 by_cases hs:decide (a<0)=decide (b<0)
 ·have hsum:sgz (decide (a<0)) (a.natAbs+b.natAbs)=a+b:=by
   have h1:=sgz_val a
   have h2:=sgz_val b
   rw [← hs] at h2
   generalize decide (a<0)=na at *
   generalize a.natAbs=x at *
   generalize b.natAbs=y at *
   rw [h1,h2]
   cases na <;> simp [sgz] <;> omega
  refine rgo Tryz.func122 (by kernel_rfl) fun w00=>?_
  refine rop2 (.binOp .eql 4 (.tmp 6) (.tmp 8) 4) (.tmp 6) (.tmp 8) (rb (decide (a<0))) (rb (decide (b<0))) (rl true) (by kernel_rfl) (by simp [Op.operands]) (by simp [Op.operands]) (fun ρ o β w ho hx hy=>⟨.bool true,by have:=beq_run (w:=w) ho (r_is hx) (r_is hy);rw [hs] at this;simpa using this,rlit rfl⟩) ?_
  refine rcall 168 [di a.natAbs,di b.natAbs] (addF ha hb) (by kernel_rfl) Tryz.call168 ?_
  refine rcall 120 [rb (decide (a<0)),ru (a.natAbs+b.natAbs)] (by have := @signedRF (decide (a<0)) (a.natAbs+b.natAbs);rw [hsum] at this;exact this) (by kernel_rfl) Tryz.call120 ?_
  exact rret Tryz.func122 (by kernel_rfl)
 ·have hne:(decide (a<0)==decide (b<0))=false:=by simpa using hs
  by_cases hle:b.natAbs≤a.natAbs
  ·have hsum:sgz (decide (a<0)) (a.natAbs-b.natAbs)=a+b:=by
    unfold sgz;split <;> simp_all <;> omega
   have hc:decide ((0:Int)≤cmpI a.natAbs b.natAbs)=true:=by unfold cmpI;rw [decide_eq_true_iff,if_neg (by omega)];split <;> omega
   refine rgo Tryz.func122 (by kernel_rfl) fun w00=>?_
   refine rop2 (.binOp .eql 4 (.tmp 6) (.tmp 8) 4) (.tmp 6) (.tmp 8) (rb (decide (a<0))) (rb (decide (b<0))) (rl false) (by kernel_rfl) (by simp [Op.operands]) (by simp [Op.operands]) (fun ρ o β w ho hx hy=>⟨.bool false,by have:=beq_run (w:=w) ho (r_is hx) (r_is hy);rw [hne] at this;exact this,rlit rfl⟩) ?_
   refine rcall 164 [di a.natAbs,di b.natAbs] compareF (by kernel_rfl) Tryz.call164 ?_
   refine rop2 (.binOp .geq 3 (.tmp 22) (.const (.int .i64 0)) 3) (.tmp 22) (.const (.int .i64 0)) (rI (cmpI a.natAbs b.natAbs)) (.fv (.sc (.lit (.int .i64 0)))) (rl true) (by kernel_rfl) (by simp [Op.operands]) (by simp [Op.operands]) (fun ρ o β w ho hx hy=>⟨.bool true,geq_run ho (r_is hx) (r_lit hy) hc,rlit rfl⟩) ?_
   refine rcall 169 [di a.natAbs,di b.natAbs] (subF ha hle) (by kernel_rfl) Tryz.call169 ?_
   refine rcall 120 [rb (decide (a<0)),di (a.natAbs-b.natAbs)] (by have := @signedDF (decide (a<0)) (a.natAbs-b.natAbs);rw [hsum] at this;exact this) (by kernel_rfl) Tryz.call120 ?_
   exact rret Tryz.func122 (by kernel_rfl)
  ·have hsum:sgz (decide (b<0)) (b.natAbs-a.natAbs)=a+b:=by
    unfold sgz;split <;> simp_all <;> omega
   have hc:decide ((0:Int)≤cmpI a.natAbs b.natAbs)=false:=by unfold cmpI;rw [decide_eq_false_iff_not,if_pos (by omega)];omega
   refine rgo Tryz.func122 (by kernel_rfl) fun w00=>?_
   refine rop2 (.binOp .eql 4 (.tmp 6) (.tmp 8) 4) (.tmp 6) (.tmp 8) (rb (decide (a<0))) (rb (decide (b<0))) (rl false) (by kernel_rfl) (by simp [Op.operands]) (by simp [Op.operands]) (fun ρ o β w ho hx hy=>⟨.bool false,by have:=beq_run (w:=w) ho (r_is hx) (r_is hy);rw [hne] at this;exact this,rlit rfl⟩) ?_
   refine rcall 164 [di a.natAbs,di b.natAbs] compareF (by kernel_rfl) Tryz.call164 ?_
   refine rop2 (.binOp .geq 3 (.tmp 22) (.const (.int .i64 0)) 3) (.tmp 22) (.const (.int .i64 0)) (rI (cmpI a.natAbs b.natAbs)) (.fv (.sc (.lit (.int .i64 0)))) (rl false) (by kernel_rfl) (by simp [Op.operands]) (by simp [Op.operands]) (fun ρ o β w ho hx hy=>⟨.bool false,geq_run ho (r_is hx) (r_lit hy) hc,rlit rfl⟩) ?_
   refine rcall 169 [di b.natAbs,di a.natAbs] (subF hb (by omega)) (by kernel_rfl) Tryz.call169 ?_
   refine rcall 120 [rb (decide (b<0)),di (b.natAbs-a.natAbs)] (by have := @signedDF (decide (b<0)) (b.natAbs-a.natAbs);rw [hsum] at this;exact this) (by kernel_rfl) Tryz.call120 ?_
   exact rret Tryz.func122 (by kernel_rfl)
abbrev pz (d:Nat):AV Kr := .fv (.ag [.lit (.bool false),.sp (csDi d)])
theorem len_di {o:Oper} {ρ:Operand→Value} {w:World} {t:Tmp} {A:Option Addr} {n c:Nat} (ho:o.op = .call ⟨.builtin .len,#[.tmp t],#[92]⟩) (hx:ρ (.tmp t) = .slice A n c) :
 (execOp ρ o).run Tryz.prog w = .ok (.value (.int .i64 n)) w:=by
 have hm:(#[Operand.tmp t].map ρ) = #[.slice A n c]:=by simp [hx]
 simp only [execOp,ho,resolve,Sem.run_bind,Sem.run_pure,Result.andThen,hm,invoke,builtin,Builtin.len_]
 simp [Sem.run_bind,run_underlying Tryz.underlying92,Result.andThen,goInt,Builtin.lenOf]
theorem index_di {o:Oper} {ρ:Operand→Value} {w:World} {t:Tmp} {ad:Addr} {n c:Nat} (ho:o.op = .indexAddr 92 (.tmp t) (.const (.int .i64 0))) (hx:ρ (.tmp t) = .slice (some ad) n c) (hy:ρ (.const (.int .i64 0)) = .int .i64 0) (hn:0<n) :
 (execOp ρ o).run Tryz.prog w = .ok (.value (.pointer (some ad))) w:=by
 simp only [execOp,ho,hx,hy]
 refine run_v ?_
 have h0:¬ n=0:=by omega
 simp [go_sem,run_underlying Tryz.underlying92,hn,h0]
 done
def csP (x:Nat):CS Kr where
 size:=1
 cold:=true
 pred cs w := ∃ ad:Addr,cs = [.pointer (some ad)]∧w.cell? ad=some (.int .i64 (x:Int))
 stable cs w w' h hx:=by obtain ⟨ad,e,h⟩:=h;exact ⟨ad,e,hx.cell h rfl⟩
 len cs w h:=by obtain ⟨v,e,_⟩:=h;rw [e];rfl
 one cs w h:=by obtain ⟨v,e,_⟩:=h;rw [e];intro d hd;rw [List.mem_singleton] at hd;rw [hd];rfl
 iscold _ cs w h:=by obtain ⟨v,e,_⟩:=h;rw [e];intro d hd;rw [List.mem_singleton] at hd;rw [hd];rfl
def csNe:CS Kr where
 size:=1
 cold:=false
 pred cs _ := ∃ n:Int,cs = [.int .i64 n]∧n≠1
 stable _ _ _ h _:=h
 len cs w h:=by obtain ⟨v,e,_⟩:=h;rw [e];rfl
 one cs w h:=by obtain ⟨v,e,_⟩:=h;rw [e];intro d hd;rw [List.mem_singleton] at hd;rw [hd];rfl
 iscold h:=by cases h
abbrev rP (x:Nat):AV Kr := .fv (.sc (.sp (csP x)))
abbrev rNe:AV Kr := .fv (.sc (.sp csNe))
theorem di_one {w:World} {v:Value} {q:Nat} (h:Di w v q) (h0:0<q) (hq:q<B9):∃ ad c,v = .slice (some ad) 1 c∧w.cell? ad=some (.int .i64 (q:Int)):=by
 obtain ⟨A,n,c,xs,rfl,hr,hd,hn,rfl⟩:=h
 have hl:=length_le_of_val B9_one hn (L:=1) (by rw [Nat.pow_one];exact hq)
 match xs,hl,hr with
 | [],_,_=>simp [val] at h0
 | [x],_,hr =>
   obtain rfl:n=1:=hr.len.symm
   obtain ⟨ad,y,rfl,_,hy,hc⟩:=hr.at_ (k:=0) (by omega)
   simp at hy
   subst hy
   exact ⟨ad,c,rfl,by simpa [val,Addr.add] using hc⟩
theorem di_more {w:World} {v:Value} {q:Nat} (h:Di w v q) (hq:B9≤q):∃ A n c,v = .slice A n c∧n≠1:=by
 obtain ⟨A,n,c,xs,rfl,hr,hd,hn,rfl⟩:=h
 refine ⟨A,n,c,rfl,fun e=>?_⟩
 have h1:=val_lt hd
 rw [hr.len,e,Nat.pow_one] at h1
 omega
theorem load_i {o:Oper} {ρ:Operand→Value} {w:World} {t:Tmp} {ad:Addr} {x:Int} (ho:o.op = .load 3 (.tmp t)) (hx:ρ (.tmp t) = .pointer (some ad)) (hc:w.cell? ad=some (.int .i64 x)) :
 (execOp ρ o).run Tryz.prog w = .ok (.value (.int .i64 x)) w:=by
 simp only [execOp,ho,hx]
 refine run_v ?_
 simp [go_sem,hc]
theorem ieq_run {o:Oper} {ρ:Operand→Value} {w:World} {x y:Operand} {a b:Int} {r:Bool} (ho:o.op = .binOp .eql 3 x y 3) (hx:ρ x = .int .i64 a) (hy:ρ y = .int .i64 b) (h:(a==b)=r) :
 (execOp ρ o).run Tryz.prog w = .ok (.value (.bool r)) w:=by
 simp only [execOp,ho,hx,hy]
 refine run_v ?_
 rw [← h]
 exact evalP_run (by kernel_rfl) w
theorem signedLF {a:Nat}:Fits Tryz.prog 120 [rl false,di a] (iz (a:Int)):=by
 intro β w vs hv
 obtain ⟨v,u,rfl,h1,h2⟩:=args2 hv
 rw [r_lit h1]
 have := @signedDF false a β w [.bool false,u] ⟨_,_,rfl,is_r,u,[],rfl,h2,rfl⟩
 simpa [sgz] using this
section
variable {n:Int} {d:Nat}
theorem fractionF (hn:Bd n.natAbs) (hd:Bd d) (hd0:0<d) (hp:n.natAbs<B9^100000000) (hq:d<B9^100000000) (hs1:(textB (sgz (decide (n<0)) (n.natAbs/Nat.gcd n.natAbs d))).size≤1000000000) (hs2:(textB ((d/Nat.gcd n.natAbs d:Nat):Int)).size≤1000000000) :
 Fits Tryz.prog 52 [iz n,pz d] (rS (if d/Nat.gcd n.natAbs d=1 then textB (sgz (decide (n<0)) (n.natAbs/Nat.gcd n.natAbs d)) else textB (sgz (decide (n<0)) (n.natAbs/Nat.gcd n.natAbs d))++⟨#[47]⟩++textB ((d/Nat.gcd n.natAbs d:Nat):Int))):=by
 have hg:0<Nat.gcd n.natAbs d:=Nat.gcd_pos_of_pos_right _ hd0
 have hq0:0<d/Nat.gcd n.natAbs d:=Nat.div_pos (Nat.gcd_le_right _ hd0) hg
 have hq1:d/Nat.gcd n.natAbs d≤d:=Nat.div_le_self _ _
 have hp1:(sgz (decide (n<0)) (n.natAbs/Nat.gcd n.natAbs d)).natAbs<B9^100000000:=by rw [sgz_abs];exact Nat.lt_of_le_of_lt (Nat.div_le_self _ _) hp
 have hq2:((d/Nat.gcd n.natAbs d:Nat):Int).natAbs<B9^100000000:=by rw [Int.natAbs_natCast];exact Nat.lt_of_le_of_lt hq1 hq
 generalize hG:Nat.gcd n.natAbs d=g at *
 generalize hP:sgz (decide (n<0)) (n.natAbs/g)=p at *
 generalize hQ:d/g=q at *
 by_cases h1:q=1
 ·rw [if_pos h1]
  refine rgo Tryz.func52 (by kernel_rfl) fun w00=>?_
  refine rcall 117 [di n.natAbs,di d] (by have:=commonF hn hd;rw [hG] at this;exact this) (by kernel_rfl) Tryz.call117 ?_
  refine rcall 118 [di n.natAbs,di g] (divF hn hg) (by kernel_rfl) Tryz.call118 ?_
  refine rcall 118 [di d,di g] (by have:=divF (a:=d) (b:=g) hd hg;rw [hQ] at this;exact this) (by kernel_rfl) Tryz.call118 ?_
  refine rcall 120 [rb (decide (n<0)),di (n.natAbs/g)] (by have := @signedDF (decide (n<0)) (n.natAbs/g);rw [hP] at this;exact this) (by kernel_rfl) Tryz.call120 ?_
  refine rcall 119 [iz p] (textF hp1) (by kernel_rfl) Tryz.call119 ?_
  refine rop2 (.call ⟨.builtin .len,#[.tmp 41],#[92]⟩) (.tmp 41) (.tmp 41) (di q) (di q) (.fv (.sc (.lit (.int .i64 1)))) (by kernel_rfl) (by simp [Op.operands,Call.operands]) (by simp [Op.operands,Call.operands]) (fun ρ o β w ho hx _=>?_) ?_
  ·obtain ⟨ad,c,e,_⟩:=di_one (di_holds.1 hx) hq0 (by rw [h1];exact B9_one)
   exact ⟨_,len_di ho e,rlit rfl⟩
  refine rop2 (.indexAddr 92 (.tmp 45) (.const (.int .i64 0))) (.tmp 45) (.const (.int .i64 0)) (di q) (.fv (.sc (.lit (.int .i64 0)))) (rP q) (by kernel_rfl) (by simp [Op.operands]) (by simp [Op.operands]) (fun ρ o β w ho hx hy=>?_) ?_
  ·obtain ⟨ad,c,e,hc⟩:=di_one (di_holds.1 hx) hq0 (by rw [h1];exact B9_one)
   exact ⟨_,index_di ho e (r_lit hy) (by omega),⟨ad,rfl,hc⟩⟩
  refine rop2 (.load 3 (.tmp 46)) (.tmp 46) (.tmp 46) (rP q) (rP q) (.fv (.sc (.lit (.int .i64 1)))) (by kernel_rfl) (by simp [Op.operands]) (by simp [Op.operands]) (fun ρ o β w ho hx _=>?_) ?_
  ·obtain ⟨ad,e,hc⟩:=hx
   injection e with e
   rw [h1] at hc
   exact ⟨_,load_i ho e hc,rlit rfl⟩
  exact rret Tryz.func52 (by kernel_rfl)
 ·rw [if_neg h1]
  have hcat1:(textB p).size+(⟨#[47]⟩:ByteArray).size≤9223372036854775807:=by
   have:(⟨#[47]⟩:ByteArray).size=1:=rfl
   omega
  have hcat2:(textB p++⟨#[47]⟩:ByteArray).size+(textB (q:Int)).size≤9223372036854775807:=by
   have:(⟨#[47]⟩:ByteArray).size=1:=rfl
   rw [ByteArray.size_append]
   omega
  by_cases h2:q<B9
  ·refine rgo Tryz.func52 (by kernel_rfl) fun w00=>?_
   refine rcall 117 [di n.natAbs,di d] (by have:=commonF hn hd;rw [hG] at this;exact this) (by kernel_rfl) Tryz.call117 ?_
   refine rcall 118 [di n.natAbs,di g] (divF hn hg) (by kernel_rfl) Tryz.call118 ?_
   refine rcall 118 [di d,di g] (by have:=divF (a:=d) (b:=g) hd hg;rw [hQ] at this;exact this) (by kernel_rfl) Tryz.call118 ?_
   refine rcall 120 [rb (decide (n<0)),di (n.natAbs/g)] (by have := @signedDF (decide (n<0)) (n.natAbs/g);rw [hP] at this;exact this) (by kernel_rfl) Tryz.call120 ?_
   refine rcall 119 [iz p] (textF hp1) (by kernel_rfl) Tryz.call119 ?_
   refine rop2 (.call ⟨.builtin .len,#[.tmp 41],#[92]⟩) (.tmp 41) (.tmp 41) (di q) (di q) (.fv (.sc (.lit (.int .i64 1)))) (by kernel_rfl) (by simp [Op.operands,Call.operands]) (by simp [Op.operands,Call.operands]) (fun ρ o β w ho hx _=>?_) ?_
   ·obtain ⟨ad,c,e,_⟩:=di_one (di_holds.1 hx) hq0 h2
    exact ⟨_,len_di ho e,rlit rfl⟩
   refine rop2 (.indexAddr 92 (.tmp 45) (.const (.int .i64 0))) (.tmp 45) (.const (.int .i64 0)) (di q) (.fv (.sc (.lit (.int .i64 0)))) (rP q) (by kernel_rfl) (by simp [Op.operands]) (by simp [Op.operands]) (fun ρ o β w ho hx hy=>?_) ?_
   ·obtain ⟨ad,c,e,hc⟩:=di_one (di_holds.1 hx) hq0 h2
    exact ⟨_,index_di ho e (r_lit hy) (by omega),⟨ad,rfl,hc⟩⟩
   refine rop2 (.load 3 (.tmp 46)) (.tmp 46) (.tmp 46) (rP q) (rP q) (rI q) (by kernel_rfl) (by simp [Op.operands]) (by simp [Op.operands]) (fun ρ o β w ho hx _=>?_) ?_
   ·obtain ⟨ad,e,hc⟩:=hx
    injection e with e
    exact ⟨_,load_i ho e hc,is_r⟩
   refine rop2 (.binOp .eql 3 (.tmp 47) (.const (.int .i64 1)) 3) (.tmp 47) (.const (.int .i64 1)) (rI q) (.fv (.sc (.lit (.int .i64 1)))) (rl false) (by kernel_rfl) (by simp [Op.operands]) (by simp [Op.operands]) (fun ρ o β w ho hx hy=>⟨.bool false,ieq_run ho (r_is hx) (r_lit hy) (by simp;omega),rlit rfl⟩) ?_
   refine rop2 (.binOp .add 9 (.tmp 51) (.const (.string ⟨#[47]⟩)) 9) (.tmp 51) (.const (.string ⟨#[47]⟩)) (rS (textB p)) (.fv (.sc (.lit (.string ⟨#[47]⟩)))) (rS (textB p++⟨#[47]⟩)) (by kernel_rfl) (by simp [Op.operands]) (by simp [Op.operands]) (fun ρ o β w ho hx hy=>⟨_,cat_run ho (r_is hx) (r_lit hy) hcat1,is_r⟩) ?_
   refine rcall 120 [rl false,di q] signedLF (by kernel_rfl) Tryz.call120 ?_
   refine rcall 119 [iz (q:Int)] (textF hq2) (by kernel_rfl) Tryz.call119 ?_
   refine rop2 (.binOp .add 9 (.tmp 52) (.tmp 55) 9) (.tmp 52) (.tmp 55) (rS (textB p++⟨#[47]⟩)) (rS (textB (q:Int))) (rS (textB p++⟨#[47]⟩++textB (q:Int))) (by kernel_rfl) (by simp [Op.operands]) (by simp [Op.operands]) (fun ρ o β w ho hx hy=>⟨_,cat_run ho (r_is hx) (r_is hy) hcat2,is_r⟩) ?_
   exact rret Tryz.func52 (by kernel_rfl)
  ·refine rgo Tryz.func52 (by kernel_rfl) fun w00=>?_
   refine rcall 117 [di n.natAbs,di d] (by have:=commonF hn hd;rw [hG] at this;exact this) (by kernel_rfl) Tryz.call117 ?_
   refine rcall 118 [di n.natAbs,di g] (divF hn hg) (by kernel_rfl) Tryz.call118 ?_
   refine rcall 118 [di d,di g] (by have:=divF (a:=d) (b:=g) hd hg;rw [hQ] at this;exact this) (by kernel_rfl) Tryz.call118 ?_
   refine rcall 120 [rb (decide (n<0)),di (n.natAbs/g)] (by have := @signedDF (decide (n<0)) (n.natAbs/g);rw [hP] at this;exact this) (by kernel_rfl) Tryz.call120 ?_
   refine rcall 119 [iz p] (textF hp1) (by kernel_rfl) Tryz.call119 ?_
   refine rop2 (.call ⟨.builtin .len,#[.tmp 41],#[92]⟩) (.tmp 41) (.tmp 41) (di q) (di q) rNe (by kernel_rfl) (by simp [Op.operands,Call.operands]) (by simp [Op.operands,Call.operands]) (fun ρ o β w ho hx _=>?_) ?_
   ·obtain ⟨A,m,c,e,hm⟩:=di_more (di_holds.1 hx) (Nat.le_of_not_lt h2)
    exact ⟨_,len_di ho e,⟨(m:Int),rfl,by omega⟩⟩
   refine rop2 (.binOp .eql 3 (.tmp 42) (.const (.int .i64 1)) 3) (.tmp 42) (.const (.int .i64 1)) rNe (.fv (.sc (.lit (.int .i64 1)))) (rl false) (by kernel_rfl) (by simp [Op.operands]) (by simp [Op.operands]) (fun ρ o β w ho hx hy=>?_) ?_
   ·obtain ⟨m,e,hm⟩:=hx
    injection e with e
    exact ⟨.bool false,ieq_run ho e (r_lit hy) (by simpa using hm),rlit rfl⟩
   refine rop2 (.binOp .add 9 (.tmp 51) (.const (.string ⟨#[47]⟩)) 9) (.tmp 51) (.const (.string ⟨#[47]⟩)) (rS (textB p)) (.fv (.sc (.lit (.string ⟨#[47]⟩)))) (rS (textB p++⟨#[47]⟩)) (by kernel_rfl) (by simp [Op.operands]) (by simp [Op.operands]) (fun ρ o β w ho hx hy=>⟨_,cat_run ho (r_is hx) (r_lit hy) hcat1,is_r⟩) ?_
   refine rcall 120 [rl false,di q] signedLF (by kernel_rfl) Tryz.call120 ?_
   refine rcall 119 [iz (q:Int)] (textF hq2) (by kernel_rfl) Tryz.call119 ?_
   refine rop2 (.binOp .add 9 (.tmp 52) (.tmp 55) 9) (.tmp 52) (.tmp 55) (rS (textB p++⟨#[47]⟩)) (rS (textB (q:Int))) (rS (textB p++⟨#[47]⟩++textB (q:Int))) (by kernel_rfl) (by simp [Op.operands]) (by simp [Op.operands]) (fun ρ o β w ho hx hy=>⟨_,cat_run ho (r_is hx) (r_is hy) hcat2,is_r⟩) ?_
   exact rret Tryz.func52 (by kernel_rfl)
end
end Go.Proofs.YtbhcckhbbclemaaGreatDoor.Ab
