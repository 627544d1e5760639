/- Parts of the proof, joined. -/
import Derived.Test.YtggkobpggnamoaaGreatDoorJ30
import Derived.Deep.LoopGhost
import Derived.Test.YtggkobpggnamoaaGreatDoorJ27
import Derived.Test.YtggkobpggnamoaaGreatDoorJ26
set_option linter.unusedSimpArgs false
set_option linter.unusedVariables false
namespace Go.Proofs.YtggkobpggnamoaaGreatDoor
open Go.RowKit Pl
theorem Di.nil (w:World):Di w (.slice none 0 0) 0:=⟨none,0,0,[],rfl,Ri.nil,Dig.nil _,Norm.nil,rfl⟩
theorem ri_one {w:World} {g:Nat} {f:Nat} (h:w.heap[g]?=some (.cells #[.int .i64 (f:Int)] 3 (0,0))):Ri w (some ⟨g,0,none⟩) 1 1 [f]:=Bi.rd (ys := [f]) h (by show 1≤9223372036854775807;omega)
set_option maxHeartbeats 1000000 in
set_option maxRecDepth 100000 in
theorem divDigits_any (A:Option Addr) (n c:Nat) (xs:List Nat) (A' : Option Addr) (n' c' : Nat) (ys:List Nat) (w:World) (h:Ri w A n c xs) (h' : Ri w A' n' c' ys)
 (hd:Dig B9 xs) (hd' : Dig B9 ys) (hx:Norm xs) (hy:Norm ys) (hn:n≤1099511627776) (h0:0<n') :
 Calls Tryz.prog 102 #[.slice A n c,.slice A' n' c'] w (GivesDi2 w (val B9 xs/val B9 ys) (val B9 xs%val B9 ys)):=by
 have hnc:n≤c:=h.cap
 have hcm:c≤9223372036854775807:=h.2.2.1
 have hnc' : n'≤c':=h'.cap
 have hcm' : c'≤9223372036854775807:=h'.2.2.1
 rcases Nat.lt_or_ge (val B9 xs) (val B9 ys) with hlt|hge
 ·have cc:=Lib.hid (compareDigits_any A n c xs A' n' c' ys w h h' hd hd' hx hy)
  rw [cmpI_lt hlt] at cc
  have HX:=Lib.hid (And.intro h (And.intro hd (And.intro hx hlt)))
  clear h h' hd hd' hx hy hlt
  go_enter Tryz.func102,Tryz.ntmps102
  go_wp2_with fail
  refine cc.out.mono ?_
  rintro e w0 ⟨rfl,hb0⟩
  go_wp2
  go_ret2
  refine ⟨_,_,rfl,?_,?_,hb0⟩
  ·rw [Nat.div_eq_of_lt HX.out.2.2.2];exact Di.nil _
  ·rw [Nat.mod_eq_of_lt HX.out.2.2.2];exact ⟨A,n,c,xs,rfl,HX.out.1.below hb0,HX.out.2.1,HX.out.2.2.1,rfl⟩
 ·rcases Nat.lt_or_ge 1 n' with h1|h1
  ·exact divLong_any A n c xs A' n' c' ys w h h' hd hd' hx hy hn h1 hge
  ·obtain rfl:n'=1:=by omega
   obtain ⟨ad',y,rfl,hblk',hyt,hcy⟩:=h'.at_ (k:=0) (by omega)
   have hyy:ys = [y]:=by
    have hl:=h'.len
    match ys,hl,hyt with
    | [a],_,hy=>simp at hy;rw [hy]
   subst hyy
   have hyv:val B9 [y]=y:=by simp [val]
   have hyl:y<1000000000:=hd'.at_ hyt
   have hy0:0<y:=by
    rcases Nat.eq_zero_or_pos y with e|e
    ·exfalso;subst e;exact hy (by simp) rfl
    ·exact e
   have hc1:¬ cmpI (val B9 xs) (val B9 [y])<0:=by unfold cmpI;rw [if_neg (by omega)];split <;> omega
   obtain ⟨z,hz⟩:∃ z:Int,cmpI (val B9 xs) (val B9 [y])=z:=⟨_,rfl⟩
   have cc:=Lib.hid (compareDigits_any A n c xs (some ad') 1 c' [y] w h h' hd hd' hx hy)
   have cd:=Lib.hid (fun W (hb:Below w.heap.size w W)=>divDigit_any A n c xs y W (h.below hb) hd (by omega) hy0 hyl)
   rw [hz] at cc hc1
   rw [hyv]
   have hz0:decide (z<0)=false:=decide_eq_false hc1
   have HY:=Lib.hid (And.intro hyl hy0)
   obtain ⟨r,hr⟩:∃ r,r=val B9 xs%y:=⟨_,rfl⟩
   have hrl:r<1000000000:=by rw [hr];exact Nat.lt_trans (Nat.mod_lt _ hy0) hyl
   rw [← hr] at cd ⊢
   have HR:=Lib.hid hrl
   clear h h' hd hd' hx hy hc1 hz hyl hy0 hyv hyt hge hr hrl
   go_enter Tryz.func102,Tryz.ntmps102
   go_wp2_with fail
   refine cc.out.mono ?_
   rintro e w0 ⟨rfl,hb0⟩
   have hcy0:=(hb0.cell (p:=ad'.add 0) (by rw [block_add];exact hblk')).trans hcy
   have hcy1:w0.cell? ad'=some (.int .i64 (y:Int)):=by simpa [Addr.add] using hcy0
   clear hcy hcy0
   go_wp2_with fail
   refine (cd.out _ hb0).mono ?_
   rintro e w1 ⟨v,rfl,hv,hb1⟩
   have HV:=Lib.hid (And.intro hv (Below.step_trans' hb0 hb1))
   clear hv hb1 hb0
   have hbN:Below w1.heap.size w1 (w1.alloc (.cells #[.int .i64 (r:Int)] 3)):=(Below.refl _ _).alloc (Nat.le_refl _) _
   have HN:=Lib.hid hbN
   clear hbN
   go_wp2_with (go_at_call 157;refine (trim_any _ _ _ [r] _ (ri_one (heap_alloc_new w1 _)) (Dig.cons HR.out (Dig.nil _))).mono ?_;rintro e w11 ⟨⟨v11,rfl,hv11⟩,rfl⟩)
   go_ret2
   exact ⟨v,v11,rfl,HV.out.1.below HN.out,by simpa [val] using hv11,Below.step_trans' HV.out.2 HN.out⟩
theorem di_divDigits {v v' : Value} {a b:Nat} {w:World} (h:Di w v a) (h' : Di w v' b) (ha:a<B9^1099511627776) (hb:0<b):Calls Tryz.prog 102 #[v,v'] w (GivesDi2 w (a/b) (a%b)):=by
 obtain ⟨A,n,c,xs,rfl,hr,hd,hn,rfl⟩:=h
 obtain ⟨A',n',c',ys,rfl,hr',hd',hn',rfl⟩:=h'
 refine divDigits_any A n c xs A' n' c' ys w hr hr' hd hd' hn hn' ?_ ?_
 ·rw [← hr.len];exact length_le_of_val B9_one hn ha
 ·rw [← hr'.len]
  exact List.length_pos_iff.2 (by rintro rfl;simp [val] at hb)
def CommAt (w:World) (T a b k:Nat) (va vb:Value) (wr:World):Prop := ∃ x,Di wr va x∧Di wr vb k∧Nat.gcd x k=Nat.gcd a b∧x<T∧k<T∧Below w.heap.size w wr
set_option maxHeartbeats 1000000 in
set_option maxRecDepth 100000 in
theorem common_any (v v' : Value) (a b:Nat) (w:World) (h:Di w v a) (h' : Di w v' b) (ha:a<B9^1099511627776) (hb:b<B9^1099511627776) :
 Calls Tryz.prog 45 #[v,v'] w (GivesDi w (Nat.gcd a b)):=by
 obtain ⟨T,hT⟩:∃ T,T=B9^1099511627776:=⟨_,rfl⟩
 have HB:=Lib.hid (fun (x y:Nat) (u u' : Value) (W:World) (k:Di W u x) (k' : Di W u' y) (kx:x<T) (ky:0<y)=>di_divDigits k k' (by rw [← hT];exact kx) ky)
 rw [← hT] at ha hb
 clear hT
 have HA:=Lib.hid (And.intro h (And.intro h' (And.intro ha hb)))
 obtain ⟨A,n,c,xs,rfl,hr,hd,hn,rfl⟩:=h
 obtain ⟨A',n',c',ys,rfl,hr',hd',hn',rfl⟩:=h'
 generalize val B9 xs=a at *
 generalize val B9 ys=b at *
 clear hr hd hn hr' hd' hn' ha hb
 go_enter Tryz.func45,Tryz.ntmps45
 go_wp2
 go_loopg [0,1] b (fun k va vb wr=>CommAt w T a b k va vb wr)
 case atStart=>exact ⟨a,HA.out.1,HA.out.2.1,rfl,HA.out.2.2.1,HA.out.2.2.2,Below.refl _ _⟩
 case round =>
  obtain ⟨x,hx,hy,hg,hxT,hyT,hbe⟩:=hrel
  have HR:=Lib.hid (And.intro hx (And.intro hy (And.intro hg (And.intro hxT (And.intro hyT hbe)))))
  obtain ⟨A',n',c',ys,rfl,hr',hd',hn',hv'⟩:=hy
  rcases Nat.eq_zero_or_pos n' with h0|h0
  ·subst h0
   have hk:gk=0:=by
    rw [← hv',List.eq_nil_of_length_eq_zero hr'.len];rfl
   obtain ⟨A2,n2,c2,zs,rfl,hr2,hd2,hn2,hv2⟩:=hx
   have HK:=Lib.hid hk
   clear hg hxT hyT hbe hr' hd' hn' hv' hk hr2 hd2 hn2 hv2
   go_wp2
   go_ret
   obtain ⟨hx,hy,hg,hxT,hyT,hbe⟩:=HR.out
   refine ⟨_,rfl,?_,hbe⟩
   rw [← hg,HK.out,Nat.gcd_zero_right]
   exact hx
  ·have k1:(0:Int)<n':=by omega
   have hkp:0<gk:=by
    rw [← hv']
    exact hn'.pos B9_pos (by rintro rfl;have:=hr'.len;simp at this;omega)
   have HK:=Lib.hid hkp
   obtain ⟨A2,n2,c2,zs,rfl,hr2,hd2,hn2,hv2⟩:=hx
   clear hg hxT hyT hbe hr' hd' hn' hv' hkp hr2 hd2 hn2 hv2 h0
   go_wp2_with fail
   refine (HB.out x gk _ _ _ HR.out.1 HR.out.2.1 HR.out.2.2.2.1 HK.out).mono ?_
   rintro e w3 ⟨v1,v2,rfl,q1,q2,q3⟩
   obtain ⟨A1,n1,c1,zs1,rfl,_⟩:=id q1
   obtain ⟨A3,n3,c3,zs3,rfl,_⟩:=id q2
   have Q:=Lib.hid (And.intro q2 q3)
   clear q1 q2 q3
   go_wp2
   go_roundg (x%gk)
   case measure=>exact Nat.mod_lt _ HK.out
   case rel =>
    obtain ⟨hx,hy,hg,hxT,hyT,hbe⟩:=HR.out
    exact ⟨gk,hy.below Q.out.2,Q.out.1,by rw [← hg,Nat.gcd_comm gk,Nat.gcd_comm x,Nat.gcd_rec gk x],hyT,Nat.lt_trans (Nat.mod_lt _ HK.out) hyT,Below.step_trans' hbe Q.out.2⟩
end Go.Proofs.YtggkobpggnamoaaGreatDoor
namespace Go.Proofs.YtggkobpggnamoaaGreatDoor
open Go.RowKit Pl
def Kr:Value→Bool
 | .int .i64 _=>true
 | _=>false
theorem Ri.ext {K:Value→Bool} (hK:∀ x,K (.int .i64 x)=true) {w w' : World} {A:Option Addr} {n c:Nat} {xs:List Nat} (h:Ri w A n c xs) (hx:Ext K w w'):Ri w' A n c xs:=by
 refine ⟨h.1,h.2.1,h.2.2.1,fun hn=>?_⟩
 obtain ⟨ad,e,hl,hc⟩:=h.2.2.2 hn
 exact ⟨ad,e,Nat.lt_of_lt_of_le hl hx.size,fun j x hj=>hx.cell (hc j x hj) (hK _)⟩
theorem Di.ext {w w' : World} {v:Value} {a:Nat} (h:Di w v a) (hx:Ext Kr w w'):Di w' v a:=by
 obtain ⟨A,n,c,xs,hv,hr,hd,hn,ha⟩:=h
 exact ⟨A,n,c,xs,hv,hr.ext (fun _=>rfl) hx,hd,hn,ha⟩
def Ru (w:World) (v:Value) (a:Nat):Prop := ∃ A n c xs,v = .slice A n c∧Ri w A n c xs∧Dig B9 xs∧val B9 xs=a
theorem Ru.ext {w w' : World} {v:Value} {a:Nat} (h:Ru w v a) (hx:Ext Kr w w'):Ru w' v a:=by
 obtain ⟨A,n,c,xs,hv,hr,hd,ha⟩:=h
 exact ⟨A,n,c,xs,hv,hr.ext (fun _=>rfl) hx,hd,ha⟩
end Go.Proofs.YtggkobpggnamoaaGreatDoor
namespace Go.Proofs.YtggkobpggnamoaaGreatDoor.Ab
open Go.RowKit Go.Proofs.YtggkobpggnamoaaGreatDoor Pl
theorem kr_ok:KOk Kr:=⟨fun _=>rfl,fun _ _ _=>rfl⟩
def csDi (a:Nat):CS Kr where
 size:=1
 cold:=true
 pred cs w := ∃ v,cs = [v]∧Di w v a
 stable cs w w' h hx:=by obtain ⟨v,e,h⟩:=h;exact ⟨v,e,h.ext hx⟩
 len cs w h:=by obtain ⟨v,e,_⟩:=h;rw [e];rfl
 one cs w h:=by
  obtain ⟨v,e,A,n,c,xs,hv,_⟩:=h
  rw [e];intro d hd;rw [List.mem_singleton] at hd;rw [hd,hv];rfl
 iscold _ cs w h:=by
  obtain ⟨v,e,A,n,c,xs,hv,_⟩:=h
  rw [e];intro d hd;rw [List.mem_singleton] at hd;rw [hd,hv];rfl
def csRu (a:Nat):CS Kr where
 size:=1
 cold:=true
 pred cs w := ∃ v,cs = [v]∧Ru w v a
 stable cs w w' h hx:=by obtain ⟨v,e,h⟩:=h;exact ⟨v,e,h.ext hx⟩
 len cs w h:=by obtain ⟨v,e,_⟩:=h;rw [e];rfl
 one cs w h:=by
  obtain ⟨v,e,A,n,c,xs,hv,_⟩:=h
  rw [e];intro d hd;rw [List.mem_singleton] at hd;rw [hd,hv];rfl
 iscold _ cs w h:=by
  obtain ⟨v,e,A,n,c,xs,hv,_⟩:=h
  rw [e];intro d hd;rw [List.mem_singleton] at hd;rw [hd,hv];rfl
def csIsR (v:Value) (h:v.oneCell'=true) (c:Bool) (hc:c=true→Kr v=false):CS Kr where
 size:=1
 cold:=c
 pred cs _:=cs = [v]
 stable _ _ _ h _:=h
 len _ _ h:=by rw [h];rfl
 one _ _ hp:=by rw [hp];intro c hc;rw [List.mem_singleton] at hc;rw [hc];exact h
 iscold hb _ _ hp:=by rw [hp];intro d hd;rw [List.mem_singleton] at hd;rw [hd];exact hc hb
abbrev di (a:Nat):AV Kr := .fv (.sc (.sp (csDi a)))
abbrev ru (a:Nat):AV Kr := .fv (.sc (.sp (csRu a)))
abbrev rB (b:Bool):Seg Kr := .sp (csIsR (.bool b) rfl true (fun _=>rfl))
abbrev rb (b:Bool):AV Kr := .fv (.sc (rB b))
abbrev rS (s:ByteArray):AV Kr := .fv (.sc (.sp (csIsR (.string s) rfl true (fun _=>rfl))))
abbrev iz (z:Int):AV Kr := .fv (.ag [rB (decide (z<0)),.sp (csDi z.natAbs)])
theorem di_holds {β:List Nat} {v:Value} {w:World} {a:Nat}:(di a).holds β v w↔Di w v a:=by
 constructor
 ·rintro ⟨u,e,h⟩
  injection e with e
  rw [e];exact h
 ·intro h;exact ⟨v,rfl,h⟩
theorem ru_holds {β:List Nat} {v:Value} {w:World} {a:Nat}:(ru a).holds β v w↔Ru w v a:=by
 constructor
 ·rintro ⟨u,e,h⟩
  injection e with e
  rw [e];exact h
 ·intro h;exact ⟨v,rfl,h⟩
theorem r_is {v u:Value} {h:v.oneCell'=true} {c:Bool} {hc:c=true→Kr v=false} {β:List Nat} {w:World} (k:(AV.fv (.sc (.sp (csIsR v h c hc))):AV Kr).holds β u w):u=v:=by
 have:[u] = [v]:=k
 injection this
theorem is_r {v:Value} {h:v.oneCell'=true} {c:Bool} {hc:c=true→Kr v=false} {β:List Nat} {w:World}:(AV.fv (.sc (.sp (csIsR v h c hc))):AV Kr).holds β v w:=rfl
theorem iz_holds {β:List Nat} {v:Value} {w:World} {z:Int}:(iz z).holds β v w↔In w v z:=by
 constructor
 ·rintro ⟨cs,rfl,a,r,rfl,h1,b,r2,rfl,⟨u,e,A,n,c,xs,rfl,hr,hd,hn,hv⟩,h3⟩
  have h1:a = [.bool (decide (z<0))]:=h1
  rw [show r2 = [] from h3,h1,e]
  exact ⟨A,n,c,xs,rfl,hr,hd,hn,hv⟩
 ·rintro ⟨A,n,c,xs,rfl,hr,hd,hn,hv⟩
  exact ⟨[.bool (decide (z<0)),.slice A n c],rfl,[.bool (decide (z<0))],_,rfl,rfl,[.slice A n c],[],rfl,⟨_,rfl,A,n,c,xs,rfl,hr,hd,hn,hv⟩,rfl⟩
theorem rgo {f:FuncId} {fn:Func} {args:List (AV Kr)} {x:AV Kr} (hfn:Tryz.prog.funcs[f]?=some fn) (hc:(fn.body.isSome,decide (args.length≤fn.ntmps),x.noPtr,args.all AV.noPtr)=(true,true,true,true))
 (h:∀ w00,Ok Tryz.prog f w00 (fun v w=>x.holds [] v w) (runA Tryz.prog 1000 (startA fn args))):Fits Tryz.prog f args x:=by
 simp only [Prod.mk.injEq] at hc
 exact fits_go hfn hc.1 hc.2.1 hc.2.2.1 hc.2.2.2 fun w00=>Ok.go (by kernel_rfl) kr_ok 1000 (h w00)
section
variable {f:FuncId} {w00:World} {Out:Value→World→Prop}
theorem rcall {c:Cfg Kr} (fn:FuncId) (args:List (AV Kr)) {x:AV Kr} (h:Fits Tryz.prog fn args x) (hc:(c.callee Tryz.prog,c.args Tryz.prog,c.okT x)=(some fn,args,true)) (hfn:∀ (args:Array Value) (w:World),(callFunc fn args).run Tryz.prog w = .ok (.enter fn args) w)
 (hg:Ok Tryz.prog f w00 Out (runA Tryz.prog 1000 (c.give x))):Ok Tryz.prog f w00 Out c:=by
 simp only [Prod.mk.injEq] at hc
 exact Ok.call fn args h hc.1 hc.2.1 hc.2.2 hfn (Ok.go (by kernel_rfl) kr_ok 1000 hg)
theorem rop2 {c:Cfg Kr} (op:Op) (x y:Operand) (X Y r:AV Kr) (hc:(c.op.map fun o=>o.op,c.okT r,c.ev x,c.ev y)=(some op,true,X,Y)) (hx:x∈op.operands) (hy:y∈op.operands)
 (h:∀ (ρ:Operand→Value) (o:Oper) (β:List Nat) (w:World),o.op=op→X.holds β (ρ x) w→Y.holds β (ρ y) w→∃ v,(execOp ρ o).run Tryz.prog w = .ok (.value v) w∧r.holds β v w)
 (hg:Ok Tryz.prog f w00 Out (runA Tryz.prog 1000 (c.give r))):Ok Tryz.prog f w00 Out c:=by
 simp only [Prod.mk.injEq] at hc
 obtain ⟨h1,h2,h3,h4⟩:=hc
 rw [Option.map_eq_some_iff] at h1
 obtain ⟨o,ho,ho2⟩:=h1
 refine Ok.op o r ho h2 (fun β ρ w _ _ hs => .inl ?_) (Ok.go (by kernel_rfl) kr_ok 1000 hg)
 obtain ⟨v,e,hv⟩:=h ρ o β w ho2 (by rw [← h3];exact hs x (by rw [ho2];exact hx)) (by rw [← h4];exact hs y (by rw [ho2];exact hy))
 exact ⟨v,w,e,Below.refl _ _,hv⟩
theorem rret {c:Cfg Kr} {fn:Func} {x:AV Kr} (hfn:Tryz.prog.funcs[f]?=some fn) (hc:(x.noPtr,c.res Tryz.prog fn)=(true,some x)):Ok Tryz.prog f w00 (fun v w=>x.holds [] v w) c:=by
 simp only [Prod.mk.injEq] at hc
 exact Ok.ret hfn hc.1 hc.2
end
theorem beq_run {o:Oper} {ρ:Operand→Value} {w:World} {x y:Operand} {a b:Bool} (ho:o.op = .binOp .eql 4 x y 4) (hx:ρ x = .bool a) (hy:ρ y = .bool b):(execOp ρ o).run Tryz.prog w = .ok (.value (.bool (a==b))) w:=by
 simp only [execOp,ho,hx,hy]
 refine run_v ?_
 cases a <;> cases b <;> exact evalP_run (by kernel_rfl) w
theorem bne_run {o:Oper} {ρ:Operand→Value} {w:World} {x y:Operand} {a b:Bool} (ho:o.op = .binOp .neq 4 x y 4) (hx:ρ x = .bool a) (hy:ρ y = .bool b):(execOp ρ o).run Tryz.prog w = .ok (.value (.bool (a != b))) w:=by
 simp only [execOp,ho,hx,hy]
 refine run_v ?_
 cases a <;> cases b <;> exact evalP_run (by kernel_rfl) w
abbrev Bd (a:Nat):Prop:=a<B9^1099511627776
theorem mulF {a b:Nat} (ha:Bd a) (hb:Bd b):Fits Tryz.prog 112 [di a,di b] (di (a*b)):=by
 intro β w vs hv
 obtain ⟨v,u,rfl,h1,h2⟩:=args2 hv
 obtain ⟨A,n,c,xs,rfl,hr,hd,hn,rfl⟩:=di_holds.1 h1
 obtain ⟨A',n',c',ys,rfl,hr',hd',hn',rfl⟩:=di_holds.1 h2
 have hl:n≤1099511627776:=by rw [← hr.len];exact length_le_of_val B9_one hn ha
 have hl' : n'≤1099511627776:=by rw [← hr'.len];exact length_le_of_val B9_one hn' hb
 exact (mulDigits_any A n c xs A' n' c' ys w hr hr' hd hd' (by omega) (by omega)).mono fun e w' ⟨v,e1,e2,e3⟩=>⟨v,e1,e3,di_holds.2 e2⟩
theorem signedDF {b:Bool} {a:Nat}:Fits Tryz.prog 108 [rb b,di a] (iz (sgz b a)):=by
 intro β w vs hv
 obtain ⟨v,u,rfl,h1,h2⟩:=args2 hv
 rw [r_is h1]
 obtain ⟨A,n,c,xs,rfl,hr,hd,hn,rfl⟩:=di_holds.1 h2
 exact (signed_any b A n c xs w hr hd).mono fun e w' ⟨v,e1,e2,e3⟩=>⟨v,e1,e3,iz_holds.2 e2⟩
theorem signedRF {b:Bool} {a:Nat}:Fits Tryz.prog 108 [rb b,ru a] (iz (sgz b a)):=by
 intro β w vs hv
 obtain ⟨v,u,rfl,h1,h2⟩:=args2 hv
 rw [r_is h1]
 obtain ⟨A,n,c,xs,rfl,hr,hd,rfl⟩:=ru_holds.1 h2
 exact (signed_any b A n c xs w hr hd).mono fun e w' ⟨v,e1,e2,e3⟩=>⟨v,e1,e3,iz_holds.2 e2⟩
theorem sgz_mul (a b:Int):sgz (decide (a<0) != decide (b<0)) (a.natAbs*b.natAbs)=a*b:=by
 have ha:a=if decide (a<0) then -(a.natAbs:Int) else (a.natAbs:Int):=by split <;> simp_all <;> omega
 have hb:b=if decide (b<0) then -(b.natAbs:Int) else (b.natAbs:Int):=by split <;> simp_all <;> omega
 generalize decide (a<0)=na at *
 generalize decide (b<0)=nb at *
 generalize a.natAbs=x at *
 generalize b.natAbs=y at *
 subst ha
 subst hb
 cases na <;> cases nb <;> simp [sgz,Int.neg_mul,Int.mul_neg]
theorem timesZ {a b:Int} (ha:Bd a.natAbs) (hb:Bd b.natAbs):Fits Tryz.prog 50 [iz a,iz b] (iz (a*b)):=by
 refine rgo Tryz.func50 (by kernel_rfl) fun w00=>?_
 refine rop2 (.binOp .neq 4 (.tmp 6) (.tmp 8) 4) (.tmp 6) (.tmp 8) (rb (decide (a<0))) (rb (decide (b<0))) (rb (decide (a<0) != decide (b<0))) (by kernel_rfl) (by simp [Op.operands]) (by simp [Op.operands]) (fun ρ o β w ho hx hy=>⟨_,bne_run ho (r_is hx) (r_is hy),is_r⟩) ?_
 refine rcall 112 [di a.natAbs,di b.natAbs] (mulF ha hb) (by kernel_rfl) Tryz.call112 ?_
 refine rcall 108 [rb (decide (a<0) != decide (b<0)),di (a.natAbs*b.natAbs)] (by have := @signedDF (decide (a<0) != decide (b<0)) (a.natAbs*b.natAbs);rw [sgz_mul] at this;exact this) (by kernel_rfl) Tryz.call108 ?_
 exact rret Tryz.func50 (by kernel_rfl)
end Go.Proofs.YtggkobpggnamoaaGreatDoor.Ab
namespace Go.Proofs.YtggkobpggnamoaaGreatDoor.Ab
open Go.RowKit Go.Proofs.YtggkobpggnamoaaGreatDoor Pl
abbrev rl (b:Bool):AV Kr := .fv (.sc (.lit (.bool b)))
abbrev rI (n:Int):AV Kr := .fv (.sc (.sp (csIsR (.int .i64 n) rfl false (fun h=>by cases h))))
theorem rlit {v:Value} (h:v.oneCell'=true) {β:List Nat} {w:World}:(AV.fv (.sc (.lit v)):AV Kr).holds β v w:=⟨rfl,h⟩
theorem r_lit {v u:Value} {β:List Nat} {w:World} (k:(AV.fv (.sc (.lit v)):AV Kr).holds β u w):u=v:=by have:=k.1;injection this
theorem addF {a b:Nat} (ha:Bd a) (hb:Bd b):Fits Tryz.prog 109 [di a,di b] (ru (a+b)):=by
 intro β w vs hv
 obtain ⟨v,u,rfl,h1,h2⟩:=args2 hv
 obtain ⟨A,n,c,xs,rfl,hr,hd,hn,rfl⟩:=di_holds.1 h1
 obtain ⟨A',n',c',ys,rfl,hr',hd',hn',rfl⟩:=di_holds.1 h2
 have hl:n≤1099511627776:=by rw [← hr.len];exact length_le_of_val B9_one hn ha
 have hl' : n'≤1099511627776:=by rw [← hr'.len];exact length_le_of_val B9_one hn' hb
 refine (addDigits_any A n c xs A' n' c' ys w hr hr' hd hd' (by omega) (by omega)).mono ?_
 rintro e w' ⟨A2,n2,c2,zs,rfl,h1,h2,h3,h4⟩
 exact ⟨_,rfl,h4,ru_holds.2 ⟨A2,n2,c2,zs,rfl,h1,h2,h3⟩⟩
theorem subF {a b:Nat} (ha:Bd a) (hle:b≤a):Fits Tryz.prog 111 [di a,di b] (di (a-b)):=by
 intro β w vs hv
 obtain ⟨v,u,rfl,h1,h2⟩:=args2 hv
 obtain ⟨A,n,c,xs,rfl,hr,hd,hn,rfl⟩:=di_holds.1 h1
 obtain ⟨A',n',c',ys,rfl,hr',hd',hn',rfl⟩:=di_holds.1 h2
 have hl:n≤1099511627776:=by rw [← hr.len];exact length_le_of_val B9_one hn ha
 have hl' : n'≤n:=by
  rcases Nat.lt_or_ge n n' with e|e
  ·have:=lt_of_length B9_one hd hn' (by rw [hr.len,hr'.len];exact e)
   omega
  ·exact e
 exact (subDigits_any A n c xs A' n' c' ys w hr hr' hd hd' (by omega) hl' hle).mono fun e w' ⟨v,e1,e2,e3⟩=>⟨v,e1,e3,di_holds.2 e2⟩
theorem compareF {a b:Nat}:Fits Tryz.prog 110 [di a,di b] (rI (cmpI a b)):=by
 intro β w vs hv
 obtain ⟨v,u,rfl,h1,h2⟩:=args2 hv
 obtain ⟨A,n,c,xs,rfl,hr,hd,hn,rfl⟩:=di_holds.1 h1
 obtain ⟨A',n',c',ys,rfl,hr',hd',hn',rfl⟩:=di_holds.1 h2
 exact (compareDigits_any A n c xs A' n' c' ys w hr hr' hd hd' hn hn').mono fun e w' ⟨e1,e2⟩=>⟨_,e1,e2,is_r⟩
theorem divF {a b:Nat} (ha:Bd a) (hb:0<b):Fits Tryz.prog 102 [di a,di b] (.tup [.sc (.sp (csDi (a/b))),.sc (.sp (csDi (a%b)))]):=by
 intro β w vs hv
 obtain ⟨v,u,rfl,h1,h2⟩:=args2 hv
 refine (di_divDigits (di_holds.1 h1) (di_holds.1 h2) ha hb).mono ?_
 rintro e w' ⟨v1,v2,rfl,q1,q2,q3⟩
 exact ⟨_,rfl,q3,[v1,v2],rfl,v1,[v2],rfl,⟨v1,rfl,q1⟩,v2,[],rfl,⟨v2,rfl,q2⟩,rfl⟩
theorem commonF {a b:Nat} (ha:Bd a) (hb:Bd b):Fits Tryz.prog 45 [di a,di b] (di (Nat.gcd a b)):=by
 intro β w vs hv
 obtain ⟨v,u,rfl,h1,h2⟩:=args2 hv
 exact (common_any v u a b w (di_holds.1 h1) (di_holds.1 h2) ha hb).mono fun e w' ⟨v,e1,e2,e3⟩=>⟨v,e1,e3,di_holds.2 e2⟩
theorem textF {z:Int} (hz:z.natAbs<B9^100000000):Fits Tryz.prog 107 [iz z] (rS (textB z)):=by
 intro β w vs hv
 obtain ⟨v,rfl,h1⟩:=args1 hv
 exact (text_in v z w (iz_holds.1 h1) hz).mono fun e w' ⟨e1,e2⟩=>⟨_,e1,e2,is_r⟩
theorem geq_run {o:Oper} {ρ:Operand→Value} {w:World} {x y:Operand} {a b:Int} {r:Bool} (ho:o.op = .binOp .geq 3 x y 3) (hx:ρ x = .int .i64 a) (hy:ρ y = .int .i64 b) (h:decide (b≤a)=r) :
 (execOp ρ o).run Tryz.prog w = .ok (.value (.bool r)) w:=by
 simp only [execOp,ho,hx,hy]
 refine run_v ?_
 rw [← h]
 exact evalP_run (by kernel_rfl) w
theorem sgz_val (a:Int):a=sgz (decide (a<0)) a.natAbs:=by unfold sgz;split <;> simp_all <;> omega
theorem plusZ {a b:Int} (ha:Bd a.natAbs) (hb:Bd b.natAbs):Fits Tryz.prog 49 [iz a,iz b] (iz (a+b)):=by
 by_cases hs:decide (a<0)=decide (b<0)
 ·have hsum:sgz (decide (a<0)) (a.natAbs+b.natAbs)=a+b:=by
   have h1:=sgz_val a
   have h2:=sgz_val b
   rw [← hs] at h2
   generalize decide (a<0)=na at *
   generalize a.natAbs=x at *
   generalize b.natAbs=y at *
   rw [h1,h2]
   cases na <;> simp [sgz] <;> omega
  refine rgo Tryz.func49 (by kernel_rfl) fun w00=>?_
  refine rop2 (.binOp .eql 4 (.tmp 6) (.tmp 8) 4) (.tmp 6) (.tmp 8) (rb (decide (a<0))) (rb (decide (b<0))) (rl true) (by kernel_rfl) (by simp [Op.operands]) (by simp [Op.operands]) (fun ρ o β w ho hx hy=>⟨.bool true,by have:=beq_run (w:=w) ho (r_is hx) (r_is hy);rw [hs] at this;simpa using this,rlit rfl⟩) ?_
  refine rcall 109 [di a.natAbs,di b.natAbs] (addF ha hb) (by kernel_rfl) Tryz.call109 ?_
  refine rcall 108 [rb (decide (a<0)),ru (a.natAbs+b.natAbs)] (by have := @signedRF (decide (a<0)) (a.natAbs+b.natAbs);rw [hsum] at this;exact this) (by kernel_rfl) Tryz.call108 ?_
  exact rret Tryz.func49 (by kernel_rfl)
 ·have hne:(decide (a<0)==decide (b<0))=false:=by simpa using hs
  by_cases hle:b.natAbs≤a.natAbs
  ·have hsum:sgz (decide (a<0)) (a.natAbs-b.natAbs)=a+b:=by
    unfold sgz;split <;> simp_all <;> omega
   have hc:decide ((0:Int)≤cmpI a.natAbs b.natAbs)=true:=by unfold cmpI;rw [decide_eq_true_iff,if_neg (by omega)];split <;> omega
   refine rgo Tryz.func49 (by kernel_rfl) fun w00=>?_
   refine rop2 (.binOp .eql 4 (.tmp 6) (.tmp 8) 4) (.tmp 6) (.tmp 8) (rb (decide (a<0))) (rb (decide (b<0))) (rl false) (by kernel_rfl) (by simp [Op.operands]) (by simp [Op.operands]) (fun ρ o β w ho hx hy=>⟨.bool false,by have:=beq_run (w:=w) ho (r_is hx) (r_is hy);rw [hne] at this;exact this,rlit rfl⟩) ?_
   refine rcall 110 [di a.natAbs,di b.natAbs] compareF (by kernel_rfl) Tryz.call110 ?_
   refine rop2 (.binOp .geq 3 (.tmp 22) (.const (.int .i64 0)) 3) (.tmp 22) (.const (.int .i64 0)) (rI (cmpI a.natAbs b.natAbs)) (.fv (.sc (.lit (.int .i64 0)))) (rl true) (by kernel_rfl) (by simp [Op.operands]) (by simp [Op.operands]) (fun ρ o β w ho hx hy=>⟨.bool true,geq_run ho (r_is hx) (r_lit hy) hc,rlit rfl⟩) ?_
   refine rcall 111 [di a.natAbs,di b.natAbs] (subF ha hle) (by kernel_rfl) Tryz.call111 ?_
   refine rcall 108 [rb (decide (a<0)),di (a.natAbs-b.natAbs)] (by have := @signedDF (decide (a<0)) (a.natAbs-b.natAbs);rw [hsum] at this;exact this) (by kernel_rfl) Tryz.call108 ?_
   exact rret Tryz.func49 (by kernel_rfl)
  ·have hsum:sgz (decide (b<0)) (b.natAbs-a.natAbs)=a+b:=by
    unfold sgz;split <;> simp_all <;> omega
   have hc:decide ((0:Int)≤cmpI a.natAbs b.natAbs)=false:=by unfold cmpI;rw [decide_eq_false_iff_not,if_pos (by omega)];omega
   refine rgo Tryz.func49 (by kernel_rfl) fun w00=>?_
   refine rop2 (.binOp .eql 4 (.tmp 6) (.tmp 8) 4) (.tmp 6) (.tmp 8) (rb (decide (a<0))) (rb (decide (b<0))) (rl false) (by kernel_rfl) (by simp [Op.operands]) (by simp [Op.operands]) (fun ρ o β w ho hx hy=>⟨.bool false,by have:=beq_run (w:=w) ho (r_is hx) (r_is hy);rw [hne] at this;exact this,rlit rfl⟩) ?_
   refine rcall 110 [di a.natAbs,di b.natAbs] compareF (by kernel_rfl) Tryz.call110 ?_
   refine rop2 (.binOp .geq 3 (.tmp 22) (.const (.int .i64 0)) 3) (.tmp 22) (.const (.int .i64 0)) (rI (cmpI a.natAbs b.natAbs)) (.fv (.sc (.lit (.int .i64 0)))) (rl false) (by kernel_rfl) (by simp [Op.operands]) (by simp [Op.operands]) (fun ρ o β w ho hx hy=>⟨.bool false,geq_run ho (r_is hx) (r_lit hy) hc,rlit rfl⟩) ?_
   refine rcall 111 [di b.natAbs,di a.natAbs] (subF hb (by omega)) (by kernel_rfl) Tryz.call111 ?_
   refine rcall 108 [rb (decide (b<0)),di (b.natAbs-a.natAbs)] (by have := @signedDF (decide (b<0)) (b.natAbs-a.natAbs);rw [hsum] at this;exact this) (by kernel_rfl) Tryz.call108 ?_
   exact rret Tryz.func49 (by kernel_rfl)
abbrev pz (d:Nat):AV Kr := .fv (.ag [.lit (.bool false),.sp (csDi d)])
theorem len_di {o:Oper} {ρ:Operand→Value} {w:World} {t:Tmp} {A:Option Addr} {n c:Nat} (ho:o.op = .call ⟨.builtin .len,#[.tmp t],#[82]⟩) (hx:ρ (.tmp t) = .slice A n c) :
 (execOp ρ o).run Tryz.prog w = .ok (.value (.int .i64 n)) w:=by
 have hm:(#[Operand.tmp t].map ρ) = #[.slice A n c]:=by simp [hx]
 simp only [execOp,ho,resolve,Sem.run_bind,Sem.run_pure,Result.andThen,hm,invoke,builtin,Builtin.len_]
 simp [Sem.run_bind,run_underlying Tryz.underlying82,Result.andThen,goInt,Builtin.lenOf]
theorem index_di {o:Oper} {ρ:Operand→Value} {w:World} {t:Tmp} {ad:Addr} {n c:Nat} (ho:o.op = .indexAddr 82 (.tmp t) (.const (.int .i64 0))) (hx:ρ (.tmp t) = .slice (some ad) n c) (hy:ρ (.const (.int .i64 0)) = .int .i64 0) (hn:0<n) :
 (execOp ρ o).run Tryz.prog w = .ok (.value (.pointer (some ad))) w:=by
 simp only [execOp,ho,hx,hy]
 refine run_v ?_
 have h0:¬ n=0:=by omega
 simp [go_sem,run_underlying Tryz.underlying82,hn,h0]
 done
def csP (x:Nat):CS Kr where
 size:=1
 cold:=true
 pred cs w := ∃ ad:Addr,cs = [.pointer (some ad)]∧w.cell? ad=some (.int .i64 (x:Int))
 stable cs w w' h hx:=by obtain ⟨ad,e,h⟩:=h;exact ⟨ad,e,hx.cell h rfl⟩
 len cs w h:=by obtain ⟨v,e,_⟩:=h;rw [e];rfl
 one cs w h:=by obtain ⟨v,e,_⟩:=h;rw [e];intro d hd;rw [List.mem_singleton] at hd;rw [hd];rfl
 iscold _ cs w h:=by obtain ⟨v,e,_⟩:=h;rw [e];intro d hd;rw [List.mem_singleton] at hd;rw [hd];rfl
def csNe:CS Kr where
 size:=1
 cold:=false
 pred cs _ := ∃ n:Int,cs = [.int .i64 n]∧n≠1
 stable _ _ _ h _:=h
 len cs w h:=by obtain ⟨v,e,_⟩:=h;rw [e];rfl
 one cs w h:=by obtain ⟨v,e,_⟩:=h;rw [e];intro d hd;rw [List.mem_singleton] at hd;rw [hd];rfl
 iscold h:=by cases h
abbrev rP (x:Nat):AV Kr := .fv (.sc (.sp (csP x)))
abbrev rNe:AV Kr := .fv (.sc (.sp csNe))
theorem di_one {w:World} {v:Value} {q:Nat} (h:Di w v q) (h0:0<q) (hq:q<B9):∃ ad c,v = .slice (some ad) 1 c∧w.cell? ad=some (.int .i64 (q:Int)):=by
 obtain ⟨A,n,c,xs,rfl,hr,hd,hn,rfl⟩:=h
 have hl:=length_le_of_val B9_one hn (L:=1) (by rw [Nat.pow_one];exact hq)
 match xs,hl,hr with
 | [],_,_=>simp [val] at h0
 | [x],_,hr =>
   obtain rfl:n=1:=hr.len.symm
   obtain ⟨ad,y,rfl,_,hy,hc⟩:=hr.at_ (k:=0) (by omega)
   simp at hy
   subst hy
   exact ⟨ad,c,rfl,by simpa [val,Addr.add] using hc⟩
theorem di_more {w:World} {v:Value} {q:Nat} (h:Di w v q) (hq:B9≤q):∃ A n c,v = .slice A n c∧n≠1:=by
 obtain ⟨A,n,c,xs,rfl,hr,hd,hn,rfl⟩:=h
 refine ⟨A,n,c,rfl,fun e=>?_⟩
 have h1:=val_lt hd
 rw [hr.len,e,Nat.pow_one] at h1
 omega
theorem load_i {o:Oper} {ρ:Operand→Value} {w:World} {t:Tmp} {ad:Addr} {x:Int} (ho:o.op = .load 3 (.tmp t)) (hx:ρ (.tmp t) = .pointer (some ad)) (hc:w.cell? ad=some (.int .i64 x)) :
 (execOp ρ o).run Tryz.prog w = .ok (.value (.int .i64 x)) w:=by
 simp only [execOp,ho,hx]
 refine run_v ?_
 simp [go_sem,hc]
theorem ieq_run {o:Oper} {ρ:Operand→Value} {w:World} {x y:Operand} {a b:Int} {r:Bool} (ho:o.op = .binOp .eql 3 x y 3) (hx:ρ x = .int .i64 a) (hy:ρ y = .int .i64 b) (h:(a==b)=r) :
 (execOp ρ o).run Tryz.prog w = .ok (.value (.bool r)) w:=by
 simp only [execOp,ho,hx,hy]
 refine run_v ?_
 rw [← h]
 exact evalP_run (by kernel_rfl) w
theorem signedLF {a:Nat}:Fits Tryz.prog 108 [rl false,di a] (iz (a:Int)):=by
 intro β w vs hv
 obtain ⟨v,u,rfl,h1,h2⟩:=args2 hv
 rw [r_lit h1]
 have := @signedDF false a β w [.bool false,u] ⟨_,_,rfl,is_r,u,[],rfl,h2,rfl⟩
 simpa [sgz] using this
section
variable {n:Int} {d:Nat}
theorem fractionF (hn:Bd n.natAbs) (hd:Bd d) (hd0:0<d) (hp:n.natAbs<B9^100000000) (hq:d<B9^100000000) (hs1:(textB (sgz (decide (n<0)) (n.natAbs/Nat.gcd n.natAbs d))).size≤1000000000) (hs2:(textB ((d/Nat.gcd n.natAbs d:Nat):Int)).size≤1000000000) :
 Fits Tryz.prog 48 [iz n,pz d] (rS (if d/Nat.gcd n.natAbs d=1 then textB (sgz (decide (n<0)) (n.natAbs/Nat.gcd n.natAbs d)) else textB (sgz (decide (n<0)) (n.natAbs/Nat.gcd n.natAbs d))++⟨#[47]⟩++textB ((d/Nat.gcd n.natAbs d:Nat):Int))):=by
 have hg:0<Nat.gcd n.natAbs d:=Nat.gcd_pos_of_pos_right _ hd0
 have hq0:0<d/Nat.gcd n.natAbs d:=Nat.div_pos (Nat.gcd_le_right _ hd0) hg
 have hq1:d/Nat.gcd n.natAbs d≤d:=Nat.div_le_self _ _
 have hp1:(sgz (decide (n<0)) (n.natAbs/Nat.gcd n.natAbs d)).natAbs<B9^100000000:=by rw [sgz_abs];exact Nat.lt_of_le_of_lt (Nat.div_le_self _ _) hp
 have hq2:((d/Nat.gcd n.natAbs d:Nat):Int).natAbs<B9^100000000:=by rw [Int.natAbs_natCast];exact Nat.lt_of_le_of_lt hq1 hq
 generalize hG:Nat.gcd n.natAbs d=g at *
 generalize hP:sgz (decide (n<0)) (n.natAbs/g)=p at *
 generalize hQ:d/g=q at *
 by_cases h1:q=1
 ·rw [if_pos h1]
  refine rgo Tryz.func48 (by kernel_rfl) fun w00=>?_
  refine rcall 45 [di n.natAbs,di d] (by have:=commonF hn hd;rw [hG] at this;exact this) (by kernel_rfl) Tryz.call45 ?_
  refine rcall 102 [di n.natAbs,di g] (divF hn hg) (by kernel_rfl) Tryz.call102 ?_
  refine rcall 102 [di d,di g] (by have:=divF (a:=d) (b:=g) hd hg;rw [hQ] at this;exact this) (by kernel_rfl) Tryz.call102 ?_
  refine rcall 108 [rb (decide (n<0)),di (n.natAbs/g)] (by have := @signedDF (decide (n<0)) (n.natAbs/g);rw [hP] at this;exact this) (by kernel_rfl) Tryz.call108 ?_
  refine rcall 107 [iz p] (textF hp1) (by kernel_rfl) Tryz.call107 ?_
  refine rop2 (.call ⟨.builtin .len,#[.tmp 41],#[82]⟩) (.tmp 41) (.tmp 41) (di q) (di q) (.fv (.sc (.lit (.int .i64 1)))) (by kernel_rfl) (by simp [Op.operands,Call.operands]) (by simp [Op.operands,Call.operands]) (fun ρ o β w ho hx _=>?_) ?_
  ·obtain ⟨ad,c,e,_⟩:=di_one (di_holds.1 hx) hq0 (by rw [h1];exact B9_one)
   exact ⟨_,len_di ho e,rlit rfl⟩
  refine rop2 (.indexAddr 82 (.tmp 45) (.const (.int .i64 0))) (.tmp 45) (.const (.int .i64 0)) (di q) (.fv (.sc (.lit (.int .i64 0)))) (rP q) (by kernel_rfl) (by simp [Op.operands]) (by simp [Op.operands]) (fun ρ o β w ho hx hy=>?_) ?_
  ·obtain ⟨ad,c,e,hc⟩:=di_one (di_holds.1 hx) hq0 (by rw [h1];exact B9_one)
   exact ⟨_,index_di ho e (r_lit hy) (by omega),⟨ad,rfl,hc⟩⟩
  refine rop2 (.load 3 (.tmp 46)) (.tmp 46) (.tmp 46) (rP q) (rP q) (.fv (.sc (.lit (.int .i64 1)))) (by kernel_rfl) (by simp [Op.operands]) (by simp [Op.operands]) (fun ρ o β w ho hx _=>?_) ?_
  ·obtain ⟨ad,e,hc⟩:=hx
   injection e with e
   rw [h1] at hc
   exact ⟨_,load_i ho e hc,rlit rfl⟩
  exact rret Tryz.func48 (by kernel_rfl)
 ·rw [if_neg h1]
  have hcat1:(textB p).size+(⟨#[47]⟩:ByteArray).size≤9223372036854775807:=by
   have:(⟨#[47]⟩:ByteArray).size=1:=rfl
   omega
  have hcat2:(textB p++⟨#[47]⟩:ByteArray).size+(textB (q:Int)).size≤9223372036854775807:=by
   have:(⟨#[47]⟩:ByteArray).size=1:=rfl
   rw [ByteArray.size_append]
   omega
  by_cases h2:q<B9
  ·refine rgo Tryz.func48 (by kernel_rfl) fun w00=>?_
   refine rcall 45 [di n.natAbs,di d] (by have:=commonF hn hd;rw [hG] at this;exact this) (by kernel_rfl) Tryz.call45 ?_
   refine rcall 102 [di n.natAbs,di g] (divF hn hg) (by kernel_rfl) Tryz.call102 ?_
   refine rcall 102 [di d,di g] (by have:=divF (a:=d) (b:=g) hd hg;rw [hQ] at this;exact this) (by kernel_rfl) Tryz.call102 ?_
   refine rcall 108 [rb (decide (n<0)),di (n.natAbs/g)] (by have := @signedDF (decide (n<0)) (n.natAbs/g);rw [hP] at this;exact this) (by kernel_rfl) Tryz.call108 ?_
   refine rcall 107 [iz p] (textF hp1) (by kernel_rfl) Tryz.call107 ?_
   refine rop2 (.call ⟨.builtin .len,#[.tmp 41],#[82]⟩) (.tmp 41) (.tmp 41) (di q) (di q) (.fv (.sc (.lit (.int .i64 1)))) (by kernel_rfl) (by simp [Op.operands,Call.operands]) (by simp [Op.operands,Call.operands]) (fun ρ o β w ho hx _=>?_) ?_
   ·obtain ⟨ad,c,e,_⟩:=di_one (di_holds.1 hx) hq0 h2
    exact ⟨_,len_di ho e,rlit rfl⟩
   refine rop2 (.indexAddr 82 (.tmp 45) (.const (.int .i64 0))) (.tmp 45) (.const (.int .i64 0)) (di q) (.fv (.sc (.lit (.int .i64 0)))) (rP q) (by kernel_rfl) (by simp [Op.operands]) (by simp [Op.operands]) (fun ρ o β w ho hx hy=>?_) ?_
   ·obtain ⟨ad,c,e,hc⟩:=di_one (di_holds.1 hx) hq0 h2
    exact ⟨_,index_di ho e (r_lit hy) (by omega),⟨ad,rfl,hc⟩⟩
   refine rop2 (.load 3 (.tmp 46)) (.tmp 46) (.tmp 46) (rP q) (rP q) (rI q) (by kernel_rfl) (by simp [Op.operands]) (by simp [Op.operands]) (fun ρ o β w ho hx _=>?_) ?_
   ·obtain ⟨ad,e,hc⟩:=hx
    injection e with e
    exact ⟨_,load_i ho e hc,is_r⟩
   refine rop2 (.binOp .eql 3 (.tmp 47) (.const (.int .i64 1)) 3) (.tmp 47) (.const (.int .i64 1)) (rI q) (.fv (.sc (.lit (.int .i64 1)))) (rl false) (by kernel_rfl) (by simp [Op.operands]) (by simp [Op.operands]) (fun ρ o β w ho hx hy=>⟨.bool false,ieq_run ho (r_is hx) (r_lit hy) (by simp;omega),rlit rfl⟩) ?_
   refine rop2 (.binOp .add 9 (.tmp 51) (.const (.string ⟨#[47]⟩)) 9) (.tmp 51) (.const (.string ⟨#[47]⟩)) (rS (textB p)) (.fv (.sc (.lit (.string ⟨#[47]⟩)))) (rS (textB p++⟨#[47]⟩)) (by kernel_rfl) (by simp [Op.operands]) (by simp [Op.operands]) (fun ρ o β w ho hx hy=>⟨_,cat_run ho (r_is hx) (r_lit hy) hcat1,is_r⟩) ?_
   refine rcall 108 [rl false,di q] signedLF (by kernel_rfl) Tryz.call108 ?_
   refine rcall 107 [iz (q:Int)] (textF hq2) (by kernel_rfl) Tryz.call107 ?_
   refine rop2 (.binOp .add 9 (.tmp 52) (.tmp 55) 9) (.tmp 52) (.tmp 55) (rS (textB p++⟨#[47]⟩)) (rS (textB (q:Int))) (rS (textB p++⟨#[47]⟩++textB (q:Int))) (by kernel_rfl) (by simp [Op.operands]) (by simp [Op.operands]) (fun ρ o β w ho hx hy=>⟨_,cat_run ho (r_is hx) (r_is hy) hcat2,is_r⟩) ?_
   exact rret Tryz.func48 (by kernel_rfl)
  ·refine rgo Tryz.func48 (by kernel_rfl) fun w00=>?_
   refine rcall 45 [di n.natAbs,di d] (by have:=commonF hn hd;rw [hG] at this;exact this) (by kernel_rfl) Tryz.call45 ?_
   refine rcall 102 [di n.natAbs,di g] (divF hn hg) (by kernel_rfl) Tryz.call102 ?_
   refine rcall 102 [di d,di g] (by have:=divF (a:=d) (b:=g) hd hg;rw [hQ] at this;exact this) (by kernel_rfl) Tryz.call102 ?_
   refine rcall 108 [rb (decide (n<0)),di (n.natAbs/g)] (by have := @signedDF (decide (n<0)) (n.natAbs/g);rw [hP] at this;exact this) (by kernel_rfl) Tryz.call108 ?_
   refine rcall 107 [iz p] (textF hp1) (by kernel_rfl) Tryz.call107 ?_
   refine rop2 (.call ⟨.builtin .len,#[.tmp 41],#[82]⟩) (.tmp 41) (.tmp 41) (di q) (di q) rNe (by kernel_rfl) (by simp [Op.operands,Call.operands]) (by simp [Op.operands,Call.operands]) (fun ρ o β w ho hx _=>?_) ?_
   ·obtain ⟨A,m,c,e,hm⟩:=di_more (di_holds.1 hx) (Nat.le_of_not_lt h2)
    exact ⟨_,len_di ho e,⟨(m:Int),rfl,by omega⟩⟩
   refine rop2 (.binOp .eql 3 (.tmp 42) (.const (.int .i64 1)) 3) (.tmp 42) (.const (.int .i64 1)) rNe (.fv (.sc (.lit (.int .i64 1)))) (rl false) (by kernel_rfl) (by simp [Op.operands]) (by simp [Op.operands]) (fun ρ o β w ho hx hy=>?_) ?_
   ·obtain ⟨m,e,hm⟩:=hx
    injection e with e
    exact ⟨.bool false,ieq_run ho e (r_lit hy) (by simpa using hm),rlit rfl⟩
   refine rop2 (.binOp .add 9 (.tmp 51) (.const (.string ⟨#[47]⟩)) 9) (.tmp 51) (.const (.string ⟨#[47]⟩)) (rS (textB p)) (.fv (.sc (.lit (.string ⟨#[47]⟩)))) (rS (textB p++⟨#[47]⟩)) (by kernel_rfl) (by simp [Op.operands]) (by simp [Op.operands]) (fun ρ o β w ho hx hy=>⟨_,cat_run ho (r_is hx) (r_lit hy) hcat1,is_r⟩) ?_
   refine rcall 108 [rl false,di q] signedLF (by kernel_rfl) Tryz.call108 ?_
   refine rcall 107 [iz (q:Int)] (textF hq2) (by kernel_rfl) Tryz.call107 ?_
   refine rop2 (.binOp .add 9 (.tmp 52) (.tmp 55) 9) (.tmp 52) (.tmp 55) (rS (textB p++⟨#[47]⟩)) (rS (textB (q:Int))) (rS (textB p++⟨#[47]⟩++textB (q:Int))) (by kernel_rfl) (by simp [Op.operands]) (by simp [Op.operands]) (fun ρ o β w ho hx hy=>⟨_,cat_run ho (r_is hx) (r_is hy) hcat2,is_r⟩) ?_
   exact rret Tryz.func48 (by kernel_rfl)
end
end Go.Proofs.YtggkobpggnamoaaGreatDoor.Ab
