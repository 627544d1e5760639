/- Parts of the proof, joined. -/
import Derived.Test.YtejbgingjeedaaaGreatDoorJ2
import Derived.Test.YtejbgingjeedaaaGreatDoorJ9
import Derived.Test.YtejbgingjeedaaaGreatDoorJ7
import Derived.Test.YtejbgingjeedaaaGreatDoorShelf
set_option linter.unusedSimpArgs false
set_option linter.unusedVariables false
namespace Go.Proofs.YtejbgingjeedaaaGreatDoor.Ab
open Go.RowKit Go.Proofs.YtejbgingjeedaaaGreatDoor
variable {Kc:Value→Bool}
def Seg.noPtr:Seg Kc→Bool
 | .ptr .. | .slc .. => false
 | _=>true
def FV.noPtr:FV Kc→Bool
 | .sc s=>s.noPtr
 | .ag l | .nsl _ _ l=>l.all Seg.noPtr
 | .clo _ a b=>(a.all fun c=>c.2.all Seg.noPtr)&&(b.all fun c=>c.2.all Seg.noPtr)
 | .un=>true
def AV.noPtr:AV Kc→Bool
 | .fv f=>f.noPtr
 | .tup l=>l.all FV.noPtr
theorem Seg.noPtr_holds {s:Seg Kc} (h:s.noPtr=true) {β γ:List Nat} {cs:List Value} {w:World} (hs:s.holds β cs w):s.holds γ cs w:=by
 cases s <;> first|exact hs|cases h
theorem holdsL.noPtr {β γ:List Nat} {w:World}:∀ {l:List (Seg Kc)} {cs:List Value},l.all Seg.noPtr=true→holdsL β l cs w→holdsL γ l cs w
 | [],_,_,h=>h
 | s::l,_,hn,⟨a,b,e,h1,h2⟩=>by
   rw [List.all_cons,Bool.and_eq_true] at hn
   exact ⟨a,b,e,Seg.noPtr_holds hn.1 h1,holdsL.noPtr hn.2 h2⟩
theorem holdsC.noPtr {β γ:List Nat} {w:World}:∀ {l:List (Bool×List (Seg Kc))} {vs:List Value},(l.all fun c=>c.2.all Seg.noPtr)=true→holdsC β l vs w→holdsC γ l vs w
 | [],_,_,h=>h
 | (b,m)::l,_,hn,⟨v,r,e,h1,h2⟩=>by
   rw [List.all_cons,Bool.and_eq_true] at hn
   refine ⟨v,r,e,?_,holdsC.noPtr hn.2 h2⟩
   cases b with
   | true=>obtain ⟨cs,e,h1⟩:=h1;exact ⟨cs,e,h1.noPtr hn.1⟩
   | false=>exact holdsL.noPtr hn.1 h1
theorem FV.noPtr_holds {f:FV Kc} (h:f.noPtr=true) {β γ:List Nat} {v:Value} {w:World} (hs:f.holds β v w):f.holds γ v w:=by
 cases f with
 | sc s=>exact Seg.noPtr_holds h hs
 | ag l=>obtain ⟨cs,e,hl⟩:=hs;exact ⟨cs,e,hl.noPtr h⟩
 | nsl n T l=>obtain ⟨g,cs,e,hg,hl⟩:=hs;exact ⟨g,cs,e,hg,hl.noPtr h⟩
 | clo F a b =>
   rw [FV.noPtr,Bool.and_eq_true] at h
   obtain ⟨xs,ys,e,h1,h2⟩:=hs
   exact ⟨xs,ys,e,h1.noPtr h.1,h2.noPtr h.2⟩
 | un=>trivial
theorem holdsF.noPtr {β γ:List Nat} {w:World}:∀ {l:List (FV Kc)} {vs:List Value},l.all FV.noPtr=true→holdsF β l vs w→holdsF γ l vs w
 | [],_,_,h=>h
 | f::l,_,hn,⟨v,r,e,h1,h2⟩=>by
   rw [List.all_cons,Bool.and_eq_true] at hn
   exact ⟨v,r,e,FV.noPtr_holds hn.1 h1,holdsF.noPtr hn.2 h2⟩
theorem AV.noPtr_holds {x:AV Kc} (h:x.noPtr=true) {β γ:List Nat} {v:Value} {w:World} (hs:x.holds β v w):x.holds γ v w:=by
 cases x with
 | fv f=>exact FV.noPtr_holds h hs
 | tup l=>obtain ⟨vs,e,hl⟩:=hs;exact ⟨vs,e,hl.noPtr h⟩
def Fits (P:Program) (f:FuncId) (args:List (AV Kc)) (x:AV Kc):Prop :=
 ∀ β w vs,holdsA β args vs w→Calls P f vs.toArray w fun e w' => ∃ v,e = .returned v∧Below w.heap.size w w'∧x.holds β v w'
section
variable {P:Program} {f:FuncId} {w00:World} {Out:Value→World→Prop}
structure Ok (P:Program) (f:FuncId) (w00:World) (Out:Value→World→Prop) (c:Cfg Kc):Prop where
 good:iP P f w00 Out c
theorem Ok.go (hm:P.follows .mixedOrders=true) (hK:KOk Kc) (n:Nat) {c:Cfg Kc} (h:Ok P f w00 Out (dC P n c)):Ok P f w00 Out c:=⟨good_run hm hK n h.good⟩
theorem Ok.call {c:Cfg Kc} (fn:FuncId) (args:List (AV Kc)) {x:AV Kc} (h:Fits P fn args x) (hf:c.callee P=some fn) (ha:c.args P=args) (hx:c.okT x=true) (hfn:∀ (args:Array Value) (w:World),(callFunc fn args).run P w = .ok (.enter fn args) w)
 (hg:Ok P f w00 Out (c.give x)):Ok P f w00 Out c :=
 ⟨oU fn x hf hx hfn (fun β w vs _ _ hv=>h β w vs (by rw [← ha];exact hv)) hg.good⟩
theorem Ok.op {c:Cfg Kc} (o:Oper) (x:AV Kc) (ho:c.op=some o) (hx:c.okT x=true)
 (h:∀ β ρ w,(c.canB=true→Below w00.heap.size w00 w)→Mem β c.mem w→(∀ y∈o.op.operands,(c.ev y).holds β (ρ y) w) →
  (∃ v w',(execOp ρ o).run P w = .ok (.value v) w'∧Below w.heap.size w w'∧x.holds β v w') ∨
  (∃ fn vs,(execOp ρ o).run P w = .ok (.enter fn vs) w∧Calls P fn vs w fun e w' => ∃ v,e = .returned v∧Below w.heap.size w w'∧x.holds β v w'))
 (hg:Ok P f w00 Out (c.give x)):Ok P f w00 Out c:=⟨good_op o x ho hx h hg.good⟩
def FitsW (P:Program) (I:World→Prop) (f:FuncId) (args:List (AV Kc)) (x:AV Kc):Prop :=
 ∀ β w vs,I w→holdsA β args vs w→Calls P f vs.toArray w fun e w' => ∃ v,e = .returned v∧Below w.heap.size w w'∧x.holds β v w'
theorem Ok.callW {I:World→Prop} {c:Cfg Kc} (hI:∀ w,Below w00.heap.size w00 w→I w) (fn:FuncId) (args:List (AV Kc)) {x:AV Kc} (h:FitsW P I fn args x) (hf:c.callee P=some fn) (ha:c.args P=args) (hx:c.okT x=true) (hro:c.canB=true) (hfn:∀ (args:Array Value) (w:World),(callFunc fn args).run P w = .ok (.enter fn args) w)
 (hg:Ok P f w00 Out (c.give x)):Ok P f w00 Out c :=
 ⟨oU fn x hf hx hfn (fun β w vs hB _ hv=>h β w vs (hI w (hB hro)) (by rw [← ha];exact hv)) hg.good⟩
theorem Ok.callS {c:Cfg Kc} (fn:FuncId) (k n:Nat) (T:TypeId) (l:List (Seg Kc)) {x:AV Kc} (h:Fits P fn [.fv (.nsl n T l)] x) (hf:c.callee P=some fn) (ha:c.args P = [.fv (.sc (.slc k 0 n n))]) (hx:c.okT x=true) (hm:c.mem[k]?=some (some (T,l))) (hfn:∀ (args:Array Value) (w:World),(callFunc fn args).run P w = .ok (.enter fn args) w)
 (hg:Ok P f w00 Out (c.give x)):Ok P f w00 Out c :=
 ⟨oU fn x hf hx hfn (fun β w vs _ hM hv=>by
  rw [ha] at hv
  obtain ⟨v,r,rfl,h1,h2⟩:=hv
  obtain ⟨g,hg,hv⟩:=wD h1
  obtain ⟨g',cs,hg',hh,hl⟩:=hM k T l hm
  rw [hg] at hg'
  injection hg' with hg'
  subst hg'
  exact h β w _ ⟨v,r,rfl,⟨g,cs,hv,hh,hl⟩,h2⟩) hg.good⟩
theorem fitsW_of {I:World→Prop} {fn:Func} {args:List (AV Kc)} {x:AV Kc} (hfn:P.funcs[f]?=some fn) (hb:fn.body.isSome=true) (hn:(args.length≤fn.ntmps:Bool)=true) (hx:x.noPtr=true) (ha:args.all AV.noPtr=true)
 (h:∀ w00,I w00→Ok P f w00 (fun v w=>x.holds [] v w) (.items [.code (fn.body.getD .skip)] { slots:=args++List.replicate (fn.ntmps-args.length) .un,blocks := [],ro:=0 })):FitsW P I f args x:=by
 intro β w vs hI hv
 have hv' : holdsA [] args vs w:=by
  have key:∀ {l:List (AV Kc)} {us:List Value},l.all AV.noPtr=true→holdsA β l us w→holdsA [] l us w:=fun {l}=>by
   induction l with
   | nil=>intro us _ h;exact h
   | cons y l ih =>
     rintro us hn ⟨v,r,e,h1,h2⟩
     rw [List.all_cons,Bool.and_eq_true] at hn
     exact ⟨v,r,e,AV.noPtr_holds hn.1 h1,ih hn.2 h2⟩
  exact key ha hv
 have hb2:fn.body=some (fn.body.getD .skip):=by
  cases hb2:fn.body with
  | none=>rw [hb2] at hb;cases hb
  | some c=>rfl
 refine (eO (w00:=w) (Out:=fun v w=>x.holds [] v w) hfn hb2 args [] [] vs (fn.ntmps-args.length) (by simp at hn;omega) hv' rfl (by simp) (fun k T l hk=>by simp at hk) (by simp) (h w hI).good).mono ?_
 rintro e w' ⟨v,rfl,hb,ho⟩
 exact ⟨v,rfl,hb,AV.noPtr_holds hx ho⟩
theorem fitsS_of {fn:Func} {n:Nat} {T:TypeId} {l:List (Seg Kc)} {x:AV Kc} (hfn:P.funcs[f]?=some fn) (hb:fn.body.isSome=true) (hn:(1≤fn.ntmps:Bool)=true) (hx:x.noPtr=true) (hl:l.all Seg.noPtr=true)
 (h:∀ w00,Ok P f w00 (fun v w=>x.holds [] v w) (.items [.code (fn.body.getD .skip)] { slots := [.fv (.sc (.slc 0 0 n n))]++List.replicate (fn.ntmps-1) .un,blocks := [(T,l)],ro:=1 })):Fits P f [.fv (.nsl n T l)] x:=by
 rintro β w vs ⟨v,r,rfl,⟨g,cs,rfl,hg,hcs⟩,h2⟩
 rw [show r = [] from h2]
 have hb2:fn.body=some (fn.body.getD .skip):=by
  cases hb2:fn.body with
  | none=>rw [hb2] at hb;cases hb
  | some c=>rfl
 refine (eO (w00:=w) (Out:=fun v w=>x.holds [] v w) hfn hb2 [.fv (.sc (.slc 0 0 n n))] [(T,l)] [g] [.slice (some ⟨g,0,none⟩) n n] (fn.ntmps-1) (by simp at hn;simp;omega) ⟨_,[],rfl,⟨g,rfl,rfl⟩,rfl⟩ rfl (by simp)
  (fun k T' l' hk=>?_) (by simp;exact lt_of_block hg) (h w).good).mono ?_
 ·match k,hk with
  | 0,hk =>
    simp at hk
    obtain ⟨rfl,rfl⟩:=hk
    exact ⟨g,cs,rfl,hg,hcs.noPtr hl⟩
 ·rintro e w' ⟨v,rfl,hb,ho⟩
  exact ⟨v,rfl,hb,AV.noPtr_holds hx ho⟩
theorem fits_of {fn:Func} {code:Code} {args:List (AV Kc)} {x:AV Kc} (hfn:P.funcs[f]?=some fn) (hb:fn.body=some code) (n:Nat) (hn:fn.ntmps=args.length+n) (hx:x.noPtr=true) (ha:args.all AV.noPtr=true)
 (h:∀ w00,iP P f w00 (fun v w=>x.holds [] v w) (.items [.code code] { slots:=args++List.replicate n .un,blocks := [],ro:=0 })):Fits P f args x:=by
 intro β w vs hv
 have hv' : holdsA [] args vs w:=by
  have key:∀ {l:List (AV Kc)} {us:List Value},l.all AV.noPtr=true→holdsA β l us w→holdsA [] l us w:=fun {l}=>by
   induction l with
   | nil=>intro us _ h;exact h
   | cons y l ih =>
     rintro us hn ⟨v,r,e,h1,h2⟩
     rw [List.all_cons,Bool.and_eq_true] at hn
     exact ⟨v,r,e,AV.noPtr_holds hn.1 h1,ih hn.2 h2⟩
  exact key ha hv
 refine (eO (w00:=w) (Out:=fun v w=>x.holds [] v w) hfn hb args [] [] vs n hn hv' rfl (by simp) (fun k T l hk=>by simp at hk) (by simp) (h w)).mono ?_
 rintro e w' ⟨v,rfl,hb,ho⟩
 exact ⟨v,rfl,hb,AV.noPtr_holds hx ho⟩
abbrev qF (fn:Func) (args:List (AV Kc)):Cfg Kc := .items [.code (fn.body.getD .skip)] { slots:=args++List.replicate (fn.ntmps-args.length) .un,blocks := [],ro:=0 }
theorem fits_go {fn:Func} {args:List (AV Kc)} {x:AV Kc} (hfn:P.funcs[f]?=some fn) (hb:fn.body.isSome=true) (hn:(args.length≤fn.ntmps:Bool)=true) (hx:x.noPtr=true) (ha:args.all AV.noPtr=true)
 (h:∀ w00,Ok P f w00 (fun v w=>x.holds [] v w) (qF fn args)):Fits P f args x:=by
 refine fits_of hfn (code:=fn.body.getD .skip) ?_ (fn.ntmps-args.length) ?_ hx ha (fun w00=>(h w00).good)
 ·cases hb2:fn.body with
  | none=>rw [hb2] at hb;cases hb
  | some c=>rfl
 ·simp at hn
  omega
theorem Ok.ret {c:Cfg Kc} {fn:Func} {x:AV Kc} (hfn:P.funcs[f]?=some fn) (hx:x.noPtr=true) (hr:c.res P fn=some x):Ok P f w00 (fun v w=>x.holds [] v w) c :=
 ⟨good_ret hfn x hr (fun _ _ _ h=>AV.noPtr_holds hx h)⟩
end
theorem lM:KOk Kn:=⟨fun _=>rfl,fun _ _ _=>rfl⟩
def csNb (q:Rat):CS Kn where
 size:=3
 cold:=true
 pred cs w:=Nb w (.agg cs.toArray) q
 stable cs w w' h hx:=Nb.ext (K:=Kn) (fun _=>rfl) (fun _=>rfl) h hx
 len cs w h:=by
  obtain ⟨n,d,p,e⟩:=Nb.form h
  injection e with e
  have:=congrArg Array.toList e
  simp at this
  rw [this];rfl
 one cs w h:=by
  obtain ⟨n,d,p,e⟩:=Nb.form h
  injection e with e
  have:=congrArg Array.toList e
  simp at this
  rw [this]
  intro c hc
  simp at hc
  rcases hc with rfl|rfl|rfl <;> rfl
 iscold _ cs w h:=by
  obtain ⟨n,d,p,e⟩:=Nb.form h
  injection e with e
  have:=congrArg Array.toList e
  simp at this
  rw [this]
  intro c hc
  simp at hc
  rcases hc with rfl|rfl|rfl <;> rfl
abbrev nb (q:Rat):Seg Kn := .sp (csNb q)
abbrev num (q:Rat):AV Kn := .fv (.ag [nb q])
abbrev vc (a b c:Rat):AV Kn := .fv (.ag [nb a,nb b,nb c])
theorem dJ {β:List Nat} {v:Value} {w:World} {q:Rat}:(num q).holds β v w↔Nb w v q:=by
 constructor
 ·rintro ⟨cs,rfl,h⟩
  exact mK h
 ·intro h
  obtain ⟨n,d,p,rfl⟩:=Nb.form h
  exact ⟨[.int .i64 n,.int .i64 d,.pointer p],rfl,_,[],rfl,h,rfl⟩
theorem rM {β:List Nat} {v:Value} {w:World} {a b c:Rat}:(vc a b c).holds β v w↔Vc w v a b c:=by
 constructor
 ·rintro ⟨cs,rfl,x1,r1,rfl,h1,x2,r2,rfl,h2,x3,r3,rfl,h3,e⟩
  rw [show r3 = [] from e]
  obtain ⟨n1,d1,p1,e1⟩:=Nb.form h1
  obtain ⟨n2,d2,p2,e2⟩:=Nb.form h2
  obtain ⟨n3,d3,p3,e3⟩:=Nb.form h3
  injection e1 with e1
  injection e2 with e2
  injection e3 with e3
  have e1:=congrArg Array.toList e1
  have e2:=congrArg Array.toList e2
  have e3:=congrArg Array.toList e3
  simp at e1 e2 e3
  subst e1
  subst e2
  subst e3
  exact ⟨n1,d1,p1,n2,d2,p2,n3,d3,p3,rfl,h1,h2,h3⟩
 ·rintro ⟨n1,d1,p1,n2,d2,p2,n3,d3,p3,rfl,h1,h2,h3⟩
  exact ⟨[.int .i64 n1,.int .i64 d1,.pointer p1,.int .i64 n2,.int .i64 d2,.pointer p2,.int .i64 n3,.int .i64 d3,.pointer p3],rfl,
   [.int .i64 n1,.int .i64 d1,.pointer p1],_,rfl,h1,[.int .i64 n2,.int .i64 d2,.pointer p2],_,rfl,h2,[.int .i64 n3,.int .i64 d3,.pointer p3],[],rfl,h3,rfl⟩
theorem dE {β:List Nat} {w:World} {x:AV Kc} {vs:List Value} (h:holdsA β [x] vs w):∃ v,vs = [v]∧x.holds β v w:=by
 obtain ⟨v,r,rfl,h1,h2⟩:=h
 exact ⟨v,by rw [show r = [] from h2],h1⟩
theorem eG {β:List Nat} {w:World} {x y:AV Kc} {vs:List Value} (h:holdsA β [x,y] vs w):∃ v u,vs = [v,u]∧x.holds β v w∧y.holds β u w:=by
 obtain ⟨v,r,rfl,h1,h2⟩:=h
 obtain ⟨u,rfl,h3⟩:=dE h2
 exact ⟨v,u,rfl,h1,h3⟩
theorem fits_nb1 {P:Program} {f:FuncId} {p r:Rat} (h:∀ v w,Nb w v p→Calls P f #[v] w (GivesNb w r)):Fits P f [num p] (num r):=by
 intro β w vs hv
 obtain ⟨v,rfl,h1⟩:=dE hv
 exact (h v w (dJ.1 h1)).mono fun e w' ⟨u,e,h1,h2⟩=>⟨u,e,h2,dJ.2 h1⟩
theorem rN {P:Program} {f:FuncId} {p q r:Rat} (h:∀ v v' w,Nb w v p→Nb w v' q→Calls P f #[v,v'] w (GivesNb w r)):Fits P f [num p,num q] (num r):=by
 intro β w vs hv
 obtain ⟨v,u,rfl,h1,h2⟩:=eG hv
 exact (h v u w (dJ.1 h1) (dJ.1 h2)).mono fun e w' ⟨u,e,h1,h2⟩=>⟨u,e,h2,dJ.2 h1⟩
theorem kgo {f:FuncId} {fn:Func} {args:List (AV Kn)} {x:AV Kn} (hfn:Tryz.prog.funcs[f]?=some fn) (hc:(fn.body.isSome,decide (args.length≤fn.ntmps),x.noPtr,args.all AV.noPtr)=(true,true,true,true))
 (h:∀ w00,Ok Tryz.prog f w00 (fun v w=>x.holds [] v w) (dC Tryz.prog 1000 (qF fn args))):Fits Tryz.prog f args x:=by
 simp only [Prod.mk.injEq] at hc
 exact fits_go hfn hc.1 hc.2.1 hc.2.2.1 hc.2.2.2 fun w00=>Ok.go (by kernel_rfl) lM 1000 (h w00)
theorem cA {I:World→Prop} {f:FuncId} {fn:Func} {args:List (AV Kn)} {x:AV Kn} (hfn:Tryz.prog.funcs[f]?=some fn) (hc:(fn.body.isSome,decide (args.length≤fn.ntmps),x.noPtr,args.all AV.noPtr)=(true,true,true,true))
 (h:∀ w00,I w00→Ok Tryz.prog f w00 (fun v w=>x.holds [] v w) (dC Tryz.prog 1000 (qF fn args))):FitsW Tryz.prog I f args x:=by
 simp only [Prod.mk.injEq] at hc
 exact fitsW_of hfn hc.1 hc.2.1 hc.2.2.1 hc.2.2.2 fun w00 hI=>Ok.go (by kernel_rfl) lM 1000 (h w00 hI)
theorem nL {f:FuncId} {fn:Func} {n:Nat} {T:TypeId} {l:List (Seg Kn)} {x:AV Kn} (hfn:Tryz.prog.funcs[f]?=some fn) (hc:(fn.body.isSome,decide (1≤fn.ntmps),x.noPtr,l.all Seg.noPtr)=(true,true,true,true))
 (h:∀ w00,Ok Tryz.prog f w00 (fun v w=>x.holds [] v w) (dC Tryz.prog 1000 (.items [.code (fn.body.getD .skip)] { slots := [.fv (.sc (.slc 0 0 n n))]++List.replicate (fn.ntmps-1) .un,blocks := [(T,l)],ro:=1 }))):Fits Tryz.prog f [.fv (.nsl n T l)] x:=by
 simp only [Prod.mk.injEq] at hc
 exact fitsS_of hfn hc.1 hc.2.1 hc.2.2.1 hc.2.2.2 fun w00=>Ok.go (by kernel_rfl) lM 1000 (h w00)
section
variable {f:FuncId} {w00:World} {Out:Value→World→Prop}
theorem eM {c:Cfg Kn} (fn:FuncId) (args:List (AV Kn)) {x:AV Kn} (h:Fits Tryz.prog fn args x) (hc:(c.callee Tryz.prog,c.args Tryz.prog,c.okT x)=(some fn,args,true)) (hfn:∀ (args:Array Value) (w:World),(callFunc fn args).run Tryz.prog w = .ok (.enter fn args) w)
 (hg:Ok Tryz.prog f w00 Out (dC Tryz.prog 1000 (c.give x))):Ok Tryz.prog f w00 Out c:=by
 simp only [Prod.mk.injEq] at hc
 exact Ok.call fn args h hc.1 hc.2.1 hc.2.2 hfn (Ok.go (by kernel_rfl) lM 1000 hg)
theorem kcallW {I:World→Prop} {c:Cfg Kn} (hI:∀ w,Below w00.heap.size w00 w→I w) (fn:FuncId) (args:List (AV Kn)) {x:AV Kn} (h:FitsW Tryz.prog I fn args x) (hc:(c.callee Tryz.prog,c.args Tryz.prog,c.okT x,c.canB)=(some fn,args,true,true)) (hfn:∀ (args:Array Value) (w:World),(callFunc fn args).run Tryz.prog w = .ok (.enter fn args) w)
 (hg:Ok Tryz.prog f w00 Out (dC Tryz.prog 1000 (c.give x))):Ok Tryz.prog f w00 Out c:=by
 simp only [Prod.mk.injEq] at hc
 exact Ok.callW hI fn args h hc.1 hc.2.1 hc.2.2.1 hc.2.2.2 hfn (Ok.go (by kernel_rfl) lM 1000 hg)
theorem kcallS {c:Cfg Kn} (fn:FuncId) (k n:Nat) (T:TypeId) (l:List (Seg Kn)) {x:AV Kn} (h:Fits Tryz.prog fn [.fv (.nsl n T l)] x) (hc:(c.callee Tryz.prog,c.args Tryz.prog,c.okT x,c.mem[k]?)=(some fn,[.fv (.sc (.slc k 0 n n))],true,some (some (T,l)))) (hfn:∀ (args:Array Value) (w:World),(callFunc fn args).run Tryz.prog w = .ok (.enter fn args) w)
 (hg:Ok Tryz.prog f w00 Out (dC Tryz.prog 1000 (c.give x))):Ok Tryz.prog f w00 Out c:=by
 simp only [Prod.mk.injEq] at hc
 exact Ok.callS fn k n T l h hc.1 hc.2.1 hc.2.2.1 hc.2.2.2 hfn (Ok.go (by kernel_rfl) lM 1000 hg)
theorem dW {c:Cfg Kn} (op:Op) (x y:Operand) (X Y r:AV Kn) (hc:(c.op.map fun o=>o.op,c.okT r,c.ev x,c.ev y)=(some op,true,X,Y)) (hx:x∈op.operands) (hy:y∈op.operands)
 (h:∀ (ρ:Operand→Value) (o:Oper) (β:List Nat) (w:World),o.op=op→X.holds β (ρ x) w→Y.holds β (ρ y) w→∃ v,(execOp ρ o).run Tryz.prog w = .ok (.value v) w∧r.holds β v w)
 (hg:Ok Tryz.prog f w00 Out (dC Tryz.prog 1000 (c.give r))):Ok Tryz.prog f w00 Out c:=by
 simp only [Prod.mk.injEq] at hc
 obtain ⟨h1,h2,h3,h4⟩:=hc
 rw [Option.map_eq_some_iff] at h1
 obtain ⟨o,ho,ho2⟩:=h1
 refine Ok.op o r ho h2 (fun β ρ w _ _ hs => .inl ?_) (Ok.go (by kernel_rfl) lM 1000 hg)
 obtain ⟨v,e,hv⟩:=h ρ o β w ho2 (by rw [← h3];exact hs x (by rw [ho2];exact hx)) (by rw [← h4];exact hs y (by rw [ho2];exact hy))
 exact ⟨v,w,e,Below.refl _ _,hv⟩
theorem kret {c:Cfg Kn} {fn:Func} {x:AV Kn} (hfn:Tryz.prog.funcs[f]?=some fn) (hc:(x.noPtr,c.res Tryz.prog fn)=(true,some x)):Ok Tryz.prog f w00 (fun v w=>x.holds [] v w) c:=by
 simp only [Prod.mk.injEq] at hc
 exact Ok.ret hfn hc.1 hc.2
end
theorem jC{f:FuncId}{w00:World}{Out:Value→World→Prop}{c:Cfg Kn}(fn:FuncId)(args:List (AV Kn)){x:AV Kn}(h:Fits Tryz.prog fn args x)(hfn:∀(args:Array Value)(w:World),(callFunc fn args).run Tryz.prog w=.ok (.enter fn args) w)(hg:Ok Tryz.prog f w00 Out (dC Tryz.prog 1000 (c.give x)))(hc:(c.callee Tryz.prog,c.args Tryz.prog,c.okT x)=(some fn,args,true):=by kernel_rfl):Ok Tryz.prog f w00 Out c:=eM fn args h hc hfn hg
theorem jR{f:FuncId}{w00:World}{c:Cfg Kn}{fn:Func}{x:AV Kn}(hfn:Tryz.prog.funcs[f]?=some fn)(hc:(x.noPtr,c.res Tryz.prog fn)=(true,some x):=by kernel_rfl):Ok Tryz.prog f w00 (fun v w=>x.holds [] v w) c:=kret hfn hc
theorem jG{f:FuncId}{fn:Func}{args:List (AV Kn)}{x:AV Kn}(hfn:Tryz.prog.funcs[f]?=some fn)(h:∀w00,Ok Tryz.prog f w00 (fun v w=>x.holds [] v w) (dC Tryz.prog 1000 (qF fn args)))(hc:(fn.body.isSome,decide (args.length≤fn.ntmps),x.noPtr,args.all AV.noPtr)=(true,true,true,true):=by kernel_rfl):Fits Tryz.prog f args x:=kgo hfn hc h
theorem jW{f:FuncId}{w00:World}{Out:Value→World→Prop}{I:World→Prop}{c:Cfg Kn}(hI:∀w,Below w00.heap.size w00 w→I w)(fn:FuncId)(args:List (AV Kn)){x:AV Kn}(h:FitsW Tryz.prog I fn args x)(hfn:∀(args:Array Value)(w:World),(callFunc fn args).run Tryz.prog w=.ok (.enter fn args) w)(hg:Ok Tryz.prog f w00 Out (dC Tryz.prog 1000 (c.give x)))(hc:(c.callee Tryz.prog,c.args Tryz.prog,c.okT x,c.canB)=(some fn,args,true,true):=by kernel_rfl):Ok Tryz.prog f w00 Out c:=kcallW hI fn args h hc hfn hg
theorem uM {p q:Rat} (hp:Lf 36 p) (hq:Lf 36 q):Fits Tryz.prog 79 [num p,num q] (num (p+q)):=rN fun v v' w h h'=>plus_nb v v' p q w h h' hp hq
theorem oD {p q:Rat} (hp:Lf 36 p) (hq:Lf 36 q):Fits Tryz.prog 128 [num p,num q] (num (p-q)):=rN fun v v' w h h'=>minus_nb v v' p q w h h' hp hq
theorem fM {p q:Rat} (hp:Lf 38 p) (hq:Lf 38 q):Fits Tryz.prog 127 [num p,num q] (num (p*q)):=rN fun v v' w h h'=>times_nb v v' p q w h h' hp hq
theorem pT {p q:Rat} (hp:Lf 38 p) (hq:Lf 38 q) (h0:q≠0):Fits Tryz.prog 63 [num p,num q] (num (p/q)):=rN fun v v' w h h'=>over_nb v v' p q w h h' hp hq h0
theorem negatedF {p:Rat}:Fits Tryz.prog 138 [num p] (num (-p)):=fits_nb1 fun v w h=>xG v p w h
abbrev bl (b:Bool):AV Kn := .fv (.sc (.lit (.bool b)))
abbrev it (n:Int):AV Kn := .fv (.sc (.lit (.int .i64 n)))
theorem bK {p:Rat} {b:Bool} (h:decide (p=0)=b):Fits Tryz.prog 81 [num p] (bl b):=by
 intro β w vs hv
 obtain ⟨v,rfl,h1⟩:=dE hv
 refine (oW v p w (dJ.1 h1)).mono fun e w' ⟨e1,h2⟩=>⟨_,e1,h2,?_⟩
 rw [h]
 exact ⟨rfl,rfl⟩
theorem signF {p:Rat}:Fits Tryz.prog 90 [num p] (it (nK p)):=by
 intro β w vs hv
 obtain ⟨v,rfl,h1⟩:=dE hv
 exact (sign_nb v p w (dJ.1 h1)).mono fun e w' ⟨e1,h2⟩=>⟨_,e1,h2,rfl,rfl⟩
theorem Lf.addn {n:Nat} {p q:Rat} (hp:Lf (n-2) p) (hq:Lf (n-2) q) (hn:2≤n):Lf n (p+q):=(Lf.add hp hq).mono (by omega)
theorem Lf.subn {n:Nat} {p q:Rat} (hp:Lf (n-2) p) (hq:Lf (n-2) q) (hn:2≤n):Lf n (p-q):=by
 rw [Rat.sub_eq_add_neg]
 exact Lf.addn hp hq.neg hn
theorem Lf.muln {n:Nat} {p q:Rat} (hp:Lf (n-1) p) (hq:Lf (n-1) q) (hn:1≤n):Lf n (p*q):=(Lf.mul hp hq).mono (by omega)
end Go.Proofs.YtejbgingjeedaaaGreatDoor.Ab
namespace Go.Proofs.YtejbgingjeedaaaGreatDoor.Ab
open Go.RowKit Go.Proofs.YtejbgingjeedaaaGreatDoor
abbrev gP (F:FuncId):AV Kn := .fv (.sc (.lit (.func (.func F) #[] #[])))
abbrev qG (F:FuncId):Prop := ∀ (args:Array Value) (w:World),(callFunc F args).run Tryz.prog w = .ok (.enter F args) w
theorem joinF {F:FuncId} {a1 a2 a3 b1 b2 b3 r1 r2 r3:Rat} (hF:qG F) (h1:Fits Tryz.prog F [num a1,num b1] (num r1)) (h2:Fits Tryz.prog F [num a2,num b2] (num r2)) (h3:Fits Tryz.prog F [num a3,num b3] (num r3)) :
 Fits Tryz.prog 78 [gP F,vc a1 a2 a3,vc b1 b2 b3] (vc r1 r2 r3):=by
 refine jG Tryz.func78 fun w00=>?_
 refine eM F [num a1,num b1] (h1) (by kernel_rfl) (hF) ?_
 refine eM F [num a2,num b2] (h2) (by kernel_rfl) (hF) ?_
 refine eM F [num a3,num b3] (h3) (by kernel_rfl) (hF) ?_
 exact jR Tryz.func78
abbrev cloN (F:FuncId) (c:Rat):AV Kn := .fv (.clo F [(true,[nb c])] [])
theorem eachC {F:FuncId} {c a1 a2 a3 r1 r2 r3:Rat} (hF:qG F) (h1:Fits Tryz.prog F [num c,num a1] (num r1)) (h2:Fits Tryz.prog F [num c,num a2] (num r2)) (h3:Fits Tryz.prog F [num c,num a3] (num r3)) :
 Fits Tryz.prog 139 [cloN F c,vc a1 a2 a3] (vc r1 r2 r3):=by
 refine jG Tryz.func139 fun w00=>?_
 refine eM F [num c,num a1] (h1) (by kernel_rfl) (hF) ?_
 refine eM F [num c,num a2] (h2) (by kernel_rfl) (hF) ?_
 refine eM F [num c,num a3] (h3) (by kernel_rfl) (hF) ?_
 exact jR Tryz.func139
abbrev iv (a b c:Int):AV Kn := .fv (.ag [.lit (.int .i64 a),.lit (.int .i64 b),.lit (.int .i64 c)])
theorem lO {n:Int} (hn:-9223372036854775808≤n∧n≤9223372036854775807):Fits Tryz.prog 75 [it n] (num (n:Rat)):=by
 intro β w vs hv
 obtain ⟨v,rfl,h1⟩:=dE hv
 rw [aN h1]
 exact (integer_any n w hn.1 hn.2).mono fun e w' ⟨u,e,h1,h2⟩=>⟨u,e,h2,dJ.2 h1⟩
theorem eachI {F:FuncId} {a1 a2 a3:Int} {r1 r2 r3:Rat} (hF:qG F) (h1:Fits Tryz.prog F [it a1] (num r1)) (h2:Fits Tryz.prog F [it a2] (num r2)) (h3:Fits Tryz.prog F [it a3] (num r3)) :
 Fits Tryz.prog 144 [gP F,iv a1 a2 a3] (vc r1 r2 r3):=by
 refine jG Tryz.func144 fun w00=>?_
 refine eM F [it a1] (h1) (by kernel_rfl) (hF) ?_
 refine eM F [it a2] (h2) (by kernel_rfl) (hF) ?_
 refine eM F [it a3] (h3) (by kernel_rfl) (hF) ?_
 exact jR Tryz.func144
abbrev yK (n:Int):Prop := -9223372036854775808≤n∧n≤9223372036854775807
theorem jK {a b c:Int} (ha:yK a) (hb:yK b) (hc:yK c):Fits Tryz.prog 84 [iv a b c] (vc a b c):=by
 refine jG Tryz.func84 fun w00=>?_
 refine jC 144 [gP 75,iv a b c] (eachI Tryz.call75 (lO ha) (lO hb) (lO hc)) Tryz.call144 ?_
 exact jR Tryz.func84
theorem Fits.args {P:Program} {f:FuncId} {l l' : List (AV Kn)} {x:AV Kn} (h:Fits P f l x) (hl:∀ β vs w,holdsA β l' vs w→holdsA β l vs w):Fits P f l' x:=fun β w vs hv=>h β w vs (hl β vs w hv)
abbrev zeroN:AV Kn := .fv (.ag [.lit (.int .i64 0),.lit (.int .i64 0),.lit (.pointer none)])
theorem zero_num {β:List Nat} {v:Value} {w:World} (h:zeroN.holds β v w):(num 0).holds β v w:=by
 obtain ⟨cs,rfl,a,r,rfl,⟨rfl,_⟩,b,r2,rfl,⟨rfl,_⟩,c,r3,rfl,⟨rfl,_⟩,e⟩:=h
 rw [show r3 = [] from e]
 exact dJ.2 (.inl ⟨vL,rfl⟩)
section
variable {a1 a2 a3 b1 b2 b3 c:Rat}
theorem qH (h1:Lf 36 a1) (h2:Lf 36 a2) (h3:Lf 36 a3) (k1:Lf 36 b1) (k2:Lf 36 b2) (k3:Lf 36 b3):Fits Tryz.prog 41 [vc a1 a2 a3,vc b1 b2 b3] (vc (a1+b1) (a2+b2) (a3+b3)):=by
 refine jG Tryz.func41 fun w00=>?_
 refine jC 78 [gP 79,vc a1 a2 a3,vc b1 b2 b3] (joinF Tryz.call79 (uM h1 k1) (uM h2 k2) (uM h3 k3)) Tryz.call78 ?_
 exact jR Tryz.func41
theorem vM (h1:Lf 36 a1) (h2:Lf 36 a2) (h3:Lf 36 a3) (k1:Lf 36 b1) (k2:Lf 36 b2) (k3:Lf 36 b3):Fits Tryz.prog 70 [vc a1 a2 a3,vc b1 b2 b3] (vc (a1-b1) (a2-b2) (a3-b3)):=by
 refine jG Tryz.func70 fun w00=>?_
 refine jC 78 [gP 128,vc a1 a2 a3,vc b1 b2 b3] (joinF Tryz.call128 (oD h1 k1) (oD h2 k2) (oD h3 k3)) Tryz.call78 ?_
 exact jR Tryz.func70
theorem gM (hc:Lf 38 c) (h1:Lf 38 a1) (h2:Lf 38 a2) (h3:Lf 38 a3):Fits Tryz.prog 74 [vc a1 a2 a3,num c] (vc (c*a1) (c*a2) (c*a3)):=by
 refine jG Tryz.func74 fun w00=>?_
 refine jC 139 [cloN 127 c,vc a1 a2 a3] (eachC Tryz.call127 (fM hc h1) (fM hc h2) (fM hc h3)) Tryz.call139 ?_
 exact jR Tryz.func74
theorem totalF {T:TypeId} (h1:Lf 32 a1) (h2:Lf 32 a2) (h3:Lf 32 a3):Fits Tryz.prog 129 [.fv (.nsl 3 T [nb a1,nb a2,nb a3])] (num (a1+a2+a3)):=by
 refine nL Tryz.func129 (by kernel_rfl) fun w00=>?_
 refine jC 79 [zeroN,num a1] (Fits.args (uM (p:=0) (q:=a1) (Lf.zero _) (h1.mono (by decide))) (fun β vs w ⟨v,r,e,k1,k2⟩=>⟨v,r,e,zero_num k1,k2⟩)) Tryz.call79 ?_
 refine jC 79 [num (0+a1),num a2] (uM ((Lf.addn (n:=34) (Lf.zero _) h1 (by decide)).mono (by decide)) (h2.mono (by decide))) Tryz.call79 ?_
 refine jC 79 [num (0+a1+a2),num a3] (uM (Lf.addn (n:=36) (Lf.addn (n:=34) (Lf.zero _) h1 (by decide)) (h2.mono (by decide)) (by decide)) (h3.mono (by decide))) Tryz.call79 ?_
 rw [show a1+a2+a3=0+a1+a2+a3 by rw [Rat.zero_add]]
 exact jR Tryz.func129
theorem xJ (h1:Lf 35 a1) (h2:Lf 35 a2) (h3:Lf 35 a3) (k1:Lf 35 b1) (k2:Lf 35 b2) (k3:Lf 35 b3) :
 Fits Tryz.prog 61 [vc a1 a2 a3,vc b1 b2 b3] (vc (a2*b3-a3*b2) (a3*b1-a1*b3) (a1*b2-a2*b1)):=by
 refine jG Tryz.func61 fun w00=>?_
 refine jC 127 [num a2,num b3] (fM (h2.mono (by decide)) (k3.mono (by decide))) Tryz.call127 ?_
 refine jC 127 [num a3,num b2] (fM (h3.mono (by decide)) (k2.mono (by decide))) Tryz.call127 ?_
 refine jC 128 [num (a2*b3),num (a3*b2)] (oD (h2.mul k3) (h3.mul k2)) Tryz.call128 ?_
 refine jC 127 [num a3,num b1] (fM (h3.mono (by decide)) (k1.mono (by decide))) Tryz.call127 ?_
 refine jC 127 [num a1,num b3] (fM (h1.mono (by decide)) (k3.mono (by decide))) Tryz.call127 ?_
 refine jC 128 [num (a3*b1),num (a1*b3)] (oD (h3.mul k1) (h1.mul k3)) Tryz.call128 ?_
 refine jC 127 [num a1,num b2] (fM (h1.mono (by decide)) (k2.mono (by decide))) Tryz.call127 ?_
 refine jC 127 [num a2,num b1] (fM (h2.mono (by decide)) (k1.mono (by decide))) Tryz.call127 ?_
 refine jC 128 [num (a1*b2),num (a2*b1)] (oD (h1.mul k2) (h2.mul k1)) Tryz.call128 ?_
 exact jR Tryz.func61
theorem nM (h1:Lf 31 a1) (h2:Lf 31 a2) (h3:Lf 31 a3) (k1:Lf 31 b1) (k2:Lf 31 b2) (k3:Lf 31 b3):Fits Tryz.prog 62 [vc a1 a2 a3,vc b1 b2 b3] (num (a1*b1+a2*b2+a3*b3)):=by
 refine jG Tryz.func62 fun w00=>?_
 refine jC 78 [gP 127,vc a1 a2 a3,vc b1 b2 b3] (joinF Tryz.call127 (fM (h1.mono (by decide)) (k1.mono (by decide))) (fM (h2.mono (by decide)) (k2.mono (by decide))) (fM (h3.mono (by decide)) (k3.mono (by decide)))) Tryz.call78 ?_
 refine kcallS 129 3 3 70 [nb (a1*b1),nb (a2*b2),nb (a3*b3)] (totalF (h1.mul k1) (h2.mul k2) (h3.mul k3)) (by kernel_rfl) Tryz.call129 ?_
 exact jR Tryz.func62
theorem oY (h1:Lf 31 a1) (h2:Lf 31 a2) (h3:Lf 31 a3):Fits Tryz.prog 64 [vc a1 a2 a3] (num (a1*a1+a2*a2+a3*a3)):=by
 refine jG Tryz.func64 fun w00=>?_
 refine jC 62 [vc a1 a2 a3,vc a1 a2 a3] (nM h1 h2 h3 h1 h2 h3) Tryz.call62 ?_
 exact jR Tryz.func64
theorem eZ {z:Bool} (h:(decide (a1=0)&&decide (a2=0)&&decide (a3=0))=z):Fits Tryz.prog 60 [vc a1 a2 a3] (bl z):=by
 intro β w vs hv
 obtain ⟨v,rfl,h1⟩:=dE hv
 refine (isZero_vc v a1 a2 a3 w (rM.1 h1)).mono fun e w' ⟨e1,h2⟩=>⟨_,e1,h2,?_⟩
 rw [h]
 exact ⟨rfl,rfl⟩
end
end Go.Proofs.YtejbgingjeedaaaGreatDoor.Ab
namespace Go.Proofs.YtejbgingjeedaaaGreatDoor.Ab
open Go.RowKit Go.Proofs.YtejbgingjeedaaaGreatDoor Pl
def csNt (a:Nat):CS Kn where
 size:=1
 cold:=true
 pred cs w := ∃ v,cs = [v]∧Nt w v a
 stable:=fun cs w w' ⟨v,e,h⟩ hx=>⟨v,e,Nt.ext (K:=Kn) (fun _=>rfl) h hx⟩
 len:=fun cs w ⟨v,e,h⟩=>by rw [e];rfl
 one:=fun cs w ⟨v,e,h⟩=>by
  obtain ⟨A,n,c,rfl⟩:=Nt.form h
  rw [e]
  intro c hc
  rw [List.mem_singleton] at hc
  subst hc
  rfl
 iscold:=fun _ cs w ⟨v,e,h⟩=>by
  obtain ⟨A,n,c,rfl⟩:=Nt.form h
  rw [e]
  intro c hc
  rw [List.mem_singleton] at hc
  subst hc
  rfl
abbrev nts (a:Nat):Seg Kn := .sp (csNt a)
abbrev nt (a:Nat):AV Kn := .fv (.sc (nts a))
theorem dL {β:List Nat} {v:Value} {w:World} {a:Nat}:(nt a).holds β v w↔Nt w v a :=
 ⟨fun ⟨u,e,h⟩=>by injection e with e;rw [e];exact h,fun h=>⟨v,rfl,h⟩⟩
abbrev frv (neg:Bool) (n d:Nat):AV Kn := .fv (.ag [.lit (.bool neg),nts n,nts d])
abbrev fra (q:Rat):AV Kn:=frv (decide (q.num<0)) q.num.natAbs q.den
theorem frv_holds {β:List Nat} {v:Value} {w:World} {neg:Bool} {n d:Nat}:(frv neg n d).holds β v w↔∃ s1 s2,v = .agg #[.bool neg,s1,s2]∧Nt w s1 n∧Nt w s2 d:=by
 constructor
 ·rintro ⟨cs,rfl,a,r,rfl,⟨rfl,_⟩,b,r2,rfl,⟨s1,rfl,h1⟩,c,r3,rfl,⟨s2,rfl,h2⟩,e⟩
  rw [show r3 = [] from e]
  exact ⟨s1,s2,rfl,h1,h2⟩
 ·rintro ⟨s1,s2,rfl,h1,h2⟩
  exact ⟨[.bool neg,s1,s2],rfl,[.bool neg],_,rfl,⟨rfl,rfl⟩,[s1],_,rfl,⟨s1,rfl,h1⟩,[s2],[],rfl,⟨s2,rfl,h2⟩,rfl⟩
theorem tJ {β:List Nat} {v:Value} {w:World} {q:Rat}:(fra q).holds β v w↔Fr w v q:=frv_holds
theorem cE {q:Rat}:Fits Tryz.prog 142 [num q] (fra q):=by
 intro β w vs hv
 obtain ⟨v,rfl,h1⟩:=dE hv
 exact (cD v q w (dJ.1 h1)).mono fun e w' ⟨u,e,h1,h2⟩=>⟨u,e,h2,tJ.2 h1⟩
theorem jH {q:Rat}:Fits Tryz.prog 57 [fra q] (num q):=by
 intro β w vs hv
 obtain ⟨v,rfl,h1⟩:=dE hv
 exact (eY v q w (tJ.1 h1)).mono fun e w' ⟨u,e,h1,h2⟩=>⟨u,e,h2,dJ.2 h1⟩
theorem gV {a b:Nat} (ha:Lv 40 a) (hb:Lv 40 b) (h0:0<a∨0<b):Fits Tryz.prog 116 [nt a,nt b] (nt (Nat.gcd a b)):=by
 intro β w vs hv
 obtain ⟨v,u,rfl,h1,h2⟩:=eG hv
 exact (vK v u a b w (dL.1 h1) (dL.1 h2) ha hb h0).mono fun e w' ⟨u,e,h1,h2⟩=>⟨u,e,h2,dL.2 h1⟩
theorem fR {a b:Nat} (ha:Lv 40 a) (hb:Lv 40 b):Fits Tryz.prog 119 [nt a,nt b] (nt (a*b)):=by
 intro β w vs hv
 obtain ⟨v,u,rfl,h1,h2⟩:=eG hv
 exact (iJ (dL.1 h1) (dL.1 h2) ha hb).mono fun e w' ⟨u,e,h1,h2⟩=>⟨u,e,h2,dL.2 h1⟩
theorem eN {a b:Nat} (ha:Lv 40 a) (hb:0<b):Fits Tryz.prog 117 [nt a,nt b] (.tup [.sc (nts (a/b)),.sc (nts (a%b))]):=by
 intro β w vs hv
 obtain ⟨v,u,rfl,h1,h2⟩:=eG hv
 refine (fJ (dL.1 h1) (dL.1 h2) ha hb).mono fun e w' ⟨u,u',e,h1,h2,h3⟩=>⟨_,e,h3,?_⟩
 exact ⟨[u,u'],rfl,u,_,rfl,⟨u,rfl,h1⟩,u',_,rfl,⟨u',rfl,h2⟩,rfl⟩
theorem fW {a:Nat} (ha:a<aD):Fits Tryz.prog 120 [.fv (.sc (.lit (.int .u64 (a:Int))))] (nt a):=by
 intro β w vs hv
 obtain ⟨v,rfl,h1⟩:=dE hv
 rw [aN h1]
 exact (cB a ha w).mono fun e w' ⟨u,e,h1,h2⟩=>⟨u,e,h2,dL.2 h1⟩
theorem oE {neg:Bool} {n d:Nat} (hn:Lv 40 n) (hd:Lv 40 d) (hd0:0<d):Fits Tryz.prog 55 [bl neg,nt n,nt d] (fra (mkRat (sg neg n) d)):=by
 rintro β w vs ⟨v,r,rfl,h0,hv⟩
 obtain ⟨v',u,rfl,h1,h2⟩:=eG hv
 rw [aN h0]
 exact (tG neg n d v' u w (dL.1 h1) (dL.1 h2) hn hd hd0).mono fun e w' ⟨u,e,h1,h2⟩=>⟨u,e,h2,tJ.2 h1⟩
abbrev hf (a b c d:Rat):AV Kn := .fv (.ag [nb a,nb b,nb c,nb d])
abbrev kY (o1 o2 o3 x1 x2 x3 y1 y2 y3 z1 z2 z3:Rat):AV Kn := .fv (.ag [nb o1,nb o2,nb o3,nb x1,nb x2,nb x3,nb y1,nb y2,nb y3,nb z1,nb z2,nb z3])
abbrev mt (x1 x2 x3 y1 y2 y3 z1 z2 z3:Rat):AV Kn := .fv (.ag [nb x1,nb x2,nb x3,nb y1,nb y2,nb y3,nb z1,nb z2,nb z3])
abbrev dt (a1 a2 a3 b1 b2 b3:Rat):Rat:=a1*b1+a2*b2+a3*b3
theorem iX {n:Nat} {a1 a2 a3 b1 b2 b3:Rat} (h1:Lf (n-5) a1) (h2:Lf (n-5) a2) (h3:Lf (n-5) a3) (k1:Lf (n-5) b1) (k2:Lf (n-5) b2) (k3:Lf (n-5) b3) (hn:5≤n):Lf n (dt a1 a2 a3 b1 b2 b3) :=
 Lf.addn (Lf.addn ((h1.mul k1).mono (by omega)) ((h2.mul k2).mono (by omega)) (by omega)) ((h3.mul k3).mono (by omega)) (by omega)
section
variable {n1 n2 n3 d p1 p2 p3:Rat}
theorem excessF (h1:Lf 31 n1) (h2:Lf 31 n2) (h3:Lf 31 n3) (hd:Lf 36 d) (k1:Lf 31 p1) (k2:Lf 31 p2) (k3:Lf 31 p3):Fits Tryz.prog 89 [hf n1 n2 n3 d,vc p1 p2 p3] (num (dt n1 n2 n3 p1 p2 p3-d)):=by
 refine jG Tryz.func89 fun w00=>?_
 refine jC 62 [vc n1 n2 n3,vc p1 p2 p3] (nM h1 h2 h3 k1 k2 k3) Tryz.call62 ?_
 refine jC 128 [num (dt n1 n2 n3 p1 p2 p3),num d] (oD (iX h1 h2 h3 k1 k2 k3 (by decide)) hd) Tryz.call128 ?_
 exact jR Tryz.func89
abbrev lP (n1 n2 n3 d p1 p2 p3:Rat):Rat := -(dt n1 n2 n3 p1 p2 p3-d)/dt n1 n2 n3 n1 n2 n3
theorem lf_way {n:Nat} (h1:Lf (n-11) n1) (h2:Lf (n-11) n2) (h3:Lf (n-11) n3) (hd:Lf (n-6) d) (k1:Lf (n-11) p1) (k2:Lf (n-11) p2) (k3:Lf (n-11) p3) (hn:11≤n):Lf n (lP n1 n2 n3 d p1 p2 p3):=by
 rw [lP,Rat.div_def]
 have e1:Lf (n-6) (dt n1 n2 n3 p1 p2 p3):=iX (h1.mono (by omega)) (h2.mono (by omega)) (h3.mono (by omega)) (k1.mono (by omega)) (k2.mono (by omega)) (k3.mono (by omega)) (by omega)
 have e2:Lf (n-6) (dt n1 n2 n3 n1 n2 n3):=iX (h1.mono (by omega)) (h2.mono (by omega)) (h3.mono (by omega)) (h1.mono (by omega)) (h2.mono (by omega)) (h3.mono (by omega)) (by omega)
 exact Lf.muln ((Lf.subn (n:=n-4) (e1.mono (by omega)) (hd.mono (by omega)) (by omega)).neg.mono (by omega)) ((Lf.inv e2).mono (by omega)) (by omega)
theorem toPlaneF (h1:Lf 25 n1) (h2:Lf 25 n2) (h3:Lf 25 n3) (hd:Lf 30 d) (k1:Lf 25 p1) (k2:Lf 25 p2) (k3:Lf 25 p3) (h0:dt n1 n2 n3 n1 n2 n3≠0) :
 Fits Tryz.prog 73 [hf n1 n2 n3 d,vc p1 p2 p3] (vc (lP n1 n2 n3 d p1 p2 p3*n1) (lP n1 n2 n3 d p1 p2 p3*n2) (lP n1 n2 n3 d p1 p2 p3*n3)):=by
 have hE:Lf 32 (dt n1 n2 n3 p1 p2 p3-d):=Lf.subn (iX h1 h2 h3 k1 k2 k3 (by decide)) (hd.mono (by decide)) (by decide)
 refine jG Tryz.func73 fun w00=>?_
 refine jC 89 [hf n1 n2 n3 d,vc p1 p2 p3] (excessF (h1.mono (by decide)) (h2.mono (by decide)) (h3.mono (by decide)) (hd.mono (by decide)) (k1.mono (by decide)) (k2.mono (by decide)) (k3.mono (by decide))) Tryz.call89 ?_
 refine jC 138 [num (dt n1 n2 n3 p1 p2 p3-d)] (negatedF) Tryz.call138 ?_
 refine jC 64 [vc n1 n2 n3] (oY (h1.mono (by decide)) (h2.mono (by decide)) (h3.mono (by decide))) Tryz.call64 ?_
 refine jC 63 [num (-(dt n1 n2 n3 p1 p2 p3-d)),num (dt n1 n2 n3 n1 n2 n3)] (pT (hE.neg.mono (by decide)) (iX (h1.mono (by decide)) (h2.mono (by decide)) (h3.mono (by decide)) (h1.mono (by decide)) (h2.mono (by decide)) (h3.mono (by decide)) (by decide)) h0) Tryz.call63 ?_
 refine jC 74 [vc n1 n2 n3,num (lP n1 n2 n3 d p1 p2 p3)] (gM (lf_way (n:=38) (h1.mono (by decide)) (h2.mono (by decide)) (h3.mono (by decide)) (hd.mono (by decide)) (k1.mono (by decide)) (k2.mono (by decide)) (k3.mono (by decide)) (by decide)) (h1.mono (by decide)) (h2.mono (by decide)) (h3.mono (by decide))) Tryz.call74 ?_
 exact jR Tryz.func73
end
abbrev cloV (F:FuncId) (a b c:Rat):AV Kn := .fv (.clo F [(true,[nb a,nb b,nb c])] [])
section
variable {x1 x2 x3 y1 y2 y3 z1 z2 z3 r1 r2 r3:Rat} {F:FuncId}
theorem eachVN (hF:qG F) (h1:Fits Tryz.prog F [vc x1 x2 x3] (num r1)) (h2:Fits Tryz.prog F [vc y1 y2 y3] (num r2)) (h3:Fits Tryz.prog F [vc z1 z2 z3] (num r3)):Fits Tryz.prog 100 [gP F,mt x1 x2 x3 y1 y2 y3 z1 z2 z3] (vc r1 r2 r3):=by
 refine jG Tryz.func100 fun w00=>?_
 refine eM F [vc x1 x2 x3] (h1) (by kernel_rfl) (hF) ?_
 refine eM F [vc y1 y2 y3] (h2) (by kernel_rfl) (hF) ?_
 refine eM F [vc z1 z2 z3] (h3) (by kernel_rfl) (hF) ?_
 exact jR Tryz.func100
theorem eachVNc {a b c:Rat} (hF:qG F) (h1:Fits Tryz.prog F [vc a b c,vc x1 x2 x3] (num r1)) (h2:Fits Tryz.prog F [vc a b c,vc y1 y2 y3] (num r2)) (h3:Fits Tryz.prog F [vc a b c,vc z1 z2 z3] (num r3)):Fits Tryz.prog 100 [cloV F a b c,mt x1 x2 x3 y1 y2 y3 z1 z2 z3] (vc r1 r2 r3):=by
 refine jG Tryz.func100 fun w00=>?_
 refine eM F [vc a b c,vc x1 x2 x3] (h1) (by kernel_rfl) (hF) ?_
 refine eM F [vc a b c,vc y1 y2 y3] (h2) (by kernel_rfl) (hF) ?_
 refine eM F [vc a b c,vc z1 z2 z3] (h3) (by kernel_rfl) (hF) ?_
 exact jR Tryz.func100
theorem eachVVc {s1 s2 s3 t1 t2 t3 u1 u2 u3 o1 o2 o3 a1 a2 a3 b1 b2 b3 c1 c2 c3:Rat} (hF:qG F) (h1:Fits Tryz.prog F [kY o1 o2 o3 a1 a2 a3 b1 b2 b3 c1 c2 c3,vc x1 x2 x3] (vc s1 s2 s3)) (h2:Fits Tryz.prog F [kY o1 o2 o3 a1 a2 a3 b1 b2 b3 c1 c2 c3,vc y1 y2 y3] (vc t1 t2 t3)) (h3:Fits Tryz.prog F [kY o1 o2 o3 a1 a2 a3 b1 b2 b3 c1 c2 c3,vc z1 z2 z3] (vc u1 u2 u3)):Fits Tryz.prog 85 [.fv (.clo F [(true,[nb o1,nb o2,nb o3,nb a1,nb a2,nb a3,nb b1,nb b2,nb b3,nb c1,nb c2,nb c3])] []),mt x1 x2 x3 y1 y2 y3 z1 z2 z3] (mt s1 s2 s3 t1 t2 t3 u1 u2 u3):=by
 refine jG Tryz.func85 fun w00=>?_
 refine eM F [kY o1 o2 o3 a1 a2 a3 b1 b2 b3 c1 c2 c3,vc x1 x2 x3] (h1) (by kernel_rfl) (hF) ?_
 refine eM F [kY o1 o2 o3 a1 a2 a3 b1 b2 b3 c1 c2 c3,vc y1 y2 y3] (h2) (by kernel_rfl) (hF) ?_
 refine eM F [kY o1 o2 o3 a1 a2 a3 b1 b2 b3 c1 c2 c3,vc z1 z2 z3] (h3) (by kernel_rfl) (hF) ?_
 exact jR Tryz.func85
theorem eachIV {s1 s2 s3 t1 t2 t3 u1 u2 u3:Rat} (hF:qG F) (h1:Fits Tryz.prog F [iv 1 0 0] (vc s1 s2 s3)) (h2:Fits Tryz.prog F [iv 0 1 0] (vc t1 t2 t3)) (h3:Fits Tryz.prog F [iv 0 0 1] (vc u1 u2 u3)):Fits Tryz.prog 145 [gP F,.fv (.ag [.lit (.int .i64 1),.lit (.int .i64 0),.lit (.int .i64 0),.lit (.int .i64 0),.lit (.int .i64 1),.lit (.int .i64 0),.lit (.int .i64 0),.lit (.int .i64 0),.lit (.int .i64 1)])] (mt s1 s2 s3 t1 t2 t3 u1 u2 u3):=by
 refine jG Tryz.func145 fun w00=>?_
 refine eM F [iv 1 0 0] (h1) (by kernel_rfl) (hF) ?_
 refine eM F [iv 0 1 0] (h2) (by kernel_rfl) (hF) ?_
 refine eM F [iv 0 0 1] (h3) (by kernel_rfl) (hF) ?_
 exact jR Tryz.func145
theorem unitsF:Fits Tryz.prog 86 [] (mt (1:Int) (0:Int) (0:Int) (0:Int) (1:Int) (0:Int) (0:Int) (0:Int) (1:Int)):=by
 have i1:yK 1:=by constructor <;> omega
 have i0:yK 0:=by constructor <;> omega
 refine jG Tryz.func86 fun w00=>?_
 refine jC 145 [gP 84,.fv (.ag [.lit (.int .i64 1),.lit (.int .i64 0),.lit (.int .i64 0),.lit (.int .i64 0),.lit (.int .i64 1),.lit (.int .i64 0),.lit (.int .i64 0),.lit (.int .i64 0),.lit (.int .i64 1)])] (eachIV Tryz.call84 (jK i1 i0 i0) (jK i0 i1 i0) (jK i0 i0 i1)) Tryz.call145 ?_
 exact jR Tryz.func86
variable {o1 o2 o3 p1 p2 p3:Rat}
structure Lm (k:Nat) (x1 x2 x3 y1 y2 y3 z1 z2 z3:Rat):Prop where
 x1:Lf k x1
 x2:Lf k x2
 x3:Lf k x3
 y1:Lf k y1
 y2:Lf k y2
 y3:Lf k y3
 z1:Lf k z1
 z2:Lf k z2
 z3:Lf k z3
structure Lv3 (k:Nat) (a b c:Rat):Prop where
 a:Lf k a
 b:Lf k b
 c:Lf k c
theorem Lm.mono {k l:Nat} (h:Lm k x1 x2 x3 y1 y2 y3 z1 z2 z3) (hk:k≤l):Lm l x1 x2 x3 y1 y2 y3 z1 z2 z3:=⟨h.x1.mono hk,h.x2.mono hk,h.x3.mono hk,h.y1.mono hk,h.y2.mono hk,h.y3.mono hk,h.z1.mono hk,h.z2.mono hk,h.z3.mono hk⟩
theorem Lv3.mono {k l:Nat} {a b c:Rat} (h:Lv3 k a b c) (hk:k≤l):Lv3 l a b c:=⟨h.a.mono hk,h.b.mono hk,h.c.mono hk⟩
theorem xK (h:Lm 31 x1 x2 x3 y1 y2 y3 z1 z2 z3):Fits Tryz.prog 43 [kY o1 o2 o3 x1 x2 x3 y1 y2 y3 z1 z2 z3] (vc (dt x1 x2 x3 x1 x2 x3) (dt y1 y2 y3 y1 y2 y3) (dt z1 z2 z3 z1 z2 z3)):=by
 refine jG Tryz.func43 fun w00=>?_
 refine jC 100 [gP 64,mt x1 x2 x3 y1 y2 y3 z1 z2 z3] (eachVN Tryz.call64 (oY h.x1 h.x2 h.x3) (oY h.y1 h.y2 h.y3) (oY h.z1 h.z2 h.z3)) Tryz.call100 ?_
 exact jR Tryz.func43
abbrev ld (p1 p2 p3 x y z:Rat):Rat:=p1*x+p2*y+p3*z
theorem leadF (h:Lm 31 x1 x2 x3 y1 y2 y3 z1 z2 z3) (k:Lv3 31 p1 p2 p3):Fits Tryz.prog 77 [kY o1 o2 o3 x1 x2 x3 y1 y2 y3 z1 z2 z3,vc p1 p2 p3] (vc (ld p1 p2 p3 x1 y1 z1) (ld p1 p2 p3 x2 y2 z2) (ld p1 p2 p3 x3 y3 z3)):=by
 have k1:=k.a.mono (l:=38) (by decide)
 have k2:=k.b.mono (l:=38) (by decide)
 have k3:=k.c.mono (l:=38) (by decide)
 have h':=h.mono (l:=38) (by decide)
 refine jG Tryz.func77 fun w00=>?_
 refine jC 74 [vc x1 x2 x3,num p1] (gM k1 h'.x1 h'.x2 h'.x3) Tryz.call74 ?_
 refine jC 74 [vc y1 y2 y3,num p2] (gM k2 h'.y1 h'.y2 h'.y3) Tryz.call74 ?_
 refine jC 41 [vc (p1*x1) (p1*x2) (p1*x3),vc (p2*y1) (p2*y2) (p2*y3)] (qH ((k.a.mul h.x1).mono (by decide)) ((k.a.mul h.x2).mono (by decide)) ((k.a.mul h.x3).mono (by decide)) ((k.b.mul h.y1).mono (by decide)) ((k.b.mul h.y2).mono (by decide)) ((k.b.mul h.y3).mono (by decide))) Tryz.call41 ?_
 refine jC 74 [vc z1 z2 z3,num p3] (gM k3 h'.z1 h'.z2 h'.z3) Tryz.call74 ?_
 refine jC 41 [vc (p1*x1+p2*y1) (p1*x2+p2*y2) (p1*x3+p2*y3),vc (p3*z1) (p3*z2) (p3*z3)] (qH (((k.a.mul h.x1).add (k.b.mul h.y1)).mono (by decide)) (((k.a.mul h.x2).add (k.b.mul h.y2)).mono (by decide)) (((k.a.mul h.x3).add (k.b.mul h.y3)).mono (by decide)) ((k.c.mul h.z1).mono (by decide)) ((k.c.mul h.z2).mono (by decide)) ((k.c.mul h.z3).mono (by decide))) Tryz.call41 ?_
 exact jR Tryz.func77
theorem lf_ld {n:Nat} {p1 p2 p3 x y z:Rat} (k:Lv3 (n-5) p1 p2 p3) (hx:Lf (n-5) x) (hy:Lf (n-5) y) (hz:Lf (n-5) z) (hn:5≤n):Lf n (ld p1 p2 p3 x y z):=iX (a1:=p1) (a2:=p2) (a3:=p3) k.a k.b k.c hx hy hz hn
theorem placeF (h:Lm 31 x1 x2 x3 y1 y2 y3 z1 z2 z3) (k:Lv3 31 p1 p2 p3) (ho:Lv3 36 o1 o2 o3) :
 Fits Tryz.prog 38 [kY o1 o2 o3 x1 x2 x3 y1 y2 y3 z1 z2 z3,vc p1 p2 p3] (vc (o1+ld p1 p2 p3 x1 y1 z1) (o2+ld p1 p2 p3 x2 y2 z2) (o3+ld p1 p2 p3 x3 y3 z3)):=by
 refine jG Tryz.func38 fun w00=>?_
 refine jC 77 [kY o1 o2 o3 x1 x2 x3 y1 y2 y3 z1 z2 z3,vc p1 p2 p3] (leadF h k) Tryz.call77 ?_
 refine jC 41 [vc o1 o2 o3,vc (ld p1 p2 p3 x1 y1 z1) (ld p1 p2 p3 x2 y2 z2) (ld p1 p2 p3 x3 y3 z3)] (qH ho.a ho.b ho.c (lf_ld k h.x1 h.y1 h.z1 (by decide)) (lf_ld k h.x2 h.y2 h.z2 (by decide)) (lf_ld k h.x3 h.y3 h.z3 (by decide))) Tryz.call41 ?_
 exact jR Tryz.func38
structure Sq0 (x1 x2 x3 y1 y2 y3 z1 z2 z3:Rat):Prop where
 x:dt x1 x2 x3 x1 x2 x3≠0
 y:dt y1 y2 y3 y1 y2 y3≠0
 z:dt z1 z2 z3 z1 z2 z3≠0
theorem multiplesF (h:Lm 31 x1 x2 x3 y1 y2 y3 z1 z2 z3) (k:Lv3 31 p1 p2 p3) (h0:Sq0 x1 x2 x3 y1 y2 y3 z1 z2 z3) :
 Fits Tryz.prog 99 [kY o1 o2 o3 x1 x2 x3 y1 y2 y3 z1 z2 z3,vc p1 p2 p3] (vc (dt p1 p2 p3 x1 x2 x3/dt x1 x2 x3 x1 x2 x3) (dt p1 p2 p3 y1 y2 y3/dt y1 y2 y3 y1 y2 y3) (dt p1 p2 p3 z1 z2 z3/dt z1 z2 z3 z1 z2 z3)):=by
 have l1:=(iX (n:=36) k.a k.b k.c h.x1 h.x2 h.x3 (by decide)).mono (l:=38) (by decide)
 have l2:=(iX (n:=36) k.a k.b k.c h.y1 h.y2 h.y3 (by decide)).mono (l:=38) (by decide)
 have l3:=(iX (n:=36) k.a k.b k.c h.z1 h.z2 h.z3 (by decide)).mono (l:=38) (by decide)
 have m1:=(iX (n:=36) h.x1 h.x2 h.x3 h.x1 h.x2 h.x3 (by decide)).mono (l:=38) (by decide)
 have m2:=(iX (n:=36) h.y1 h.y2 h.y3 h.y1 h.y2 h.y3 (by decide)).mono (l:=38) (by decide)
 have m3:=(iX (n:=36) h.z1 h.z2 h.z3 h.z1 h.z2 h.z3 (by decide)).mono (l:=38) (by decide)
 refine jG Tryz.func99 fun w00=>?_
 refine jC 100 [cloV 62 p1 p2 p3,mt x1 x2 x3 y1 y2 y3 z1 z2 z3] (eachVNc Tryz.call62 (nM k.a k.b k.c h.x1 h.x2 h.x3) (nM k.a k.b k.c h.y1 h.y2 h.y3) (nM k.a k.b k.c h.z1 h.z2 h.z3)) Tryz.call100 ?_
 refine jC 43 [kY o1 o2 o3 x1 x2 x3 y1 y2 y3 z1 z2 z3] (xK h) Tryz.call43 ?_
 refine jC 78 [gP 63,vc (dt p1 p2 p3 x1 x2 x3) (dt p1 p2 p3 y1 y2 y3) (dt p1 p2 p3 z1 z2 z3),vc (dt x1 x2 x3 x1 x2 x3) (dt y1 y2 y3 y1 y2 y3) (dt z1 z2 z3 z1 z2 z3)] (joinF Tryz.call63 (pT l1 m1 h0.x) (pT l2 m2 h0.y) (pT l3 m3 h0.z)) Tryz.call78 ?_
 exact jR Tryz.func99
theorem localF (h:Lm 31 x1 x2 x3 y1 y2 y3 z1 z2 z3) (k:Lv3 29 p1 p2 p3) (ho:Lv3 29 o1 o2 o3) (h0:Sq0 x1 x2 x3 y1 y2 y3 z1 z2 z3) :
 Fits Tryz.prog 40 [kY o1 o2 o3 x1 x2 x3 y1 y2 y3 z1 z2 z3,vc p1 p2 p3] (vc (dt (p1-o1) (p2-o2) (p3-o3) x1 x2 x3/dt x1 x2 x3 x1 x2 x3) (dt (p1-o1) (p2-o2) (p3-o3) y1 y2 y3/dt y1 y2 y3 y1 y2 y3) (dt (p1-o1) (p2-o2) (p3-o3) z1 z2 z3/dt z1 z2 z3 z1 z2 z3)):=by
 have k':=k.mono (l:=36) (by decide)
 have ho':=ho.mono (l:=36) (by decide)
 refine jG Tryz.func40 fun w00=>?_
 refine jC 70 [vc p1 p2 p3,vc o1 o2 o3] (vM k'.a k'.b k'.c ho'.a ho'.b ho'.c) Tryz.call70 ?_
 refine jC 99 [kY o1 o2 o3 x1 x2 x3 y1 y2 y3 z1 z2 z3,vc (p1-o1) (p2-o2) (p3-o3)] (multiplesF h ⟨Lf.subn k.a ho.a (by decide),Lf.subn k.b ho.b (by decide),Lf.subn k.c ho.c (by decide)⟩ h0) Tryz.call99 ?_
 exact jR Tryz.func40
theorem uN (h:Lm 31 x1 x2 x3 y1 y2 y3 z1 z2 z3) (hxy:dt x1 x2 x3 y1 y2 y3=0) (hyz:dt y1 y2 y3 z1 z2 z3=0) (hzx:dt z1 z2 z3 x1 x2 x3=0) :
 Fits Tryz.prog 146 [kY o1 o2 o3 x1 x2 x3 y1 y2 y3 z1 z2 z3] (bl true):=by
 refine jG Tryz.func146 fun w00=>?_
 refine jC 62 [vc x1 x2 x3,vc y1 y2 y3] (nM h.x1 h.x2 h.x3 h.y1 h.y2 h.y3) Tryz.call62 ?_
 refine jC 81 [num (dt x1 x2 x3 y1 y2 y3)] (bK (b:=true) (by rw [decide_eq_true_eq];exact hxy)) Tryz.call81 ?_
 refine jC 62 [vc y1 y2 y3,vc z1 z2 z3] (nM h.y1 h.y2 h.y3 h.z1 h.z2 h.z3) Tryz.call62 ?_
 refine jC 81 [num (dt y1 y2 y3 z1 z2 z3)] (bK (b:=true) (by rw [decide_eq_true_eq];exact hyz)) Tryz.call81 ?_
 refine jC 62 [vc z1 z2 z3,vc x1 x2 x3] (nM h.z1 h.z2 h.z3 h.x1 h.x2 h.x3) Tryz.call62 ?_
 refine jC 81 [num (dt z1 z2 z3 x1 x2 x3)] (bK (b:=true) (by rw [decide_eq_true_eq];exact hzx)) Tryz.call81 ?_
 exact jR Tryz.func146
end
def csIs (v:Value) (h:v.oneCell'=true) (c:Bool) (hc:c=true→Kn v=false):CS Kn where
 size:=1
 cold:=c
 pred cs _:=cs = [v]
 stable _ _ _ h _:=h
 len _ _ h:=by rw [h];rfl
 one _ _ hp:=by rw [hp];intro c hc;rw [List.mem_singleton] at hc;rw [hc];exact h
 iscold hb _ _ hp:=by rw [hp];intro d hd;rw [List.mem_singleton] at hd;rw [hd];exact hc hb
abbrev bY (s:ByteArray):Seg Kn := .sp (csIs (.string s) rfl true (fun _=>rfl))
abbrev jZ (n:Int):Seg Kn := .sp (csIs (.int .i64 n) rfl true (fun _=>rfl))
abbrev isU (n:Int):Seg Kn := .sp (csIs (.int .u64 n) rfl false (fun h=>by cases h))
abbrev tx (s:ByteArray):AV Kn := .fv (.sc (bY s))
abbrev lt (s:ByteArray):AV Kn := .fv (.sc (.lit (.string s)))
theorem aP {v u:Value} {h:v.oneCell'=true} {c:Bool} {hc:c=true→Kn v=false} {β:List Nat} {w:World} (k:(AV.fv (.sc (.sp (csIs v h c hc))):AV Kn).holds β u w):u=v:=by
 have:[u] = [v]:=k
 injection this
theorem bG {v:Value} {h:v.oneCell'=true} {c:Bool} {hc:c=true→Kn v=false} {β:List Nat} {w:World}:(AV.fv (.sc (.sp (csIs v h c hc))):AV Kn).holds β v w:=rfl
theorem aX {v:Value} (h:v.oneCell'=true) {β:List Nat} {w:World}:(AV.fv (.sc (.lit v)):AV Kn).holds β v w:=⟨rfl,h⟩
def Gl (w:World):Prop:=Laid w∧∃ m,w.cell? ⟨0,0,none⟩=some (.int .i64 m)
theorem Gl.below {w w' : World} (h:Gl w) (hb:Below w.heap.size w w'):Gl w':=by
 refine ⟨h.1.below hb,?_⟩
 obtain ⟨m,hm⟩:=h.2
 exact ⟨m,(hb.cell (p:=⟨0,0,none⟩) (block_lt_of_cell hm)).trans hm⟩
theorem aS {w00:World} (h:Gl w00):∀ w,Below w00.heap.size w00 w→Gl w:=fun _ hb=>h.below hb
def decB (n:Nat):ByteArray:=⟨(Lib.decDigits n).toArray⟩
def overB (q:Rat):ByteArray:=if q.num<0 then ⟨#[45]⟩++decB q.num.natAbs else decB q.num.natAbs
theorem rO {a:Nat} (ha:Lv 20 a):FitsW Tryz.prog Gl 245 [nt a] (tx (decB a)):=by
 intro β w vs hG hv
 obtain ⟨v,rfl,h1⟩:=dE hv
 exact (text_any v a w (dL.1 h1) ha hG.1).mono fun e w' ⟨e1,h2⟩=>⟨_,e1,h2,bG⟩
def zJ (n:Int):ByteArray:=⟨(Lib.itoa n).toArray⟩
theorem formatInt0F {n:Int} (hn:yK n):FitsW Tryz.prog Gl 246 [it n,it 10] (tx (zJ n)):=by
 intro β w vs hG hv
 obtain ⟨v,u,rfl,h1,h2⟩:=eG hv
 rw [aN h1,aN h2]
 refine (Tryz.internal_strconv_FormatInt_10 n hn.1 hn.2 w hG.1).mono fun e w' ⟨e1,k,os,e2⟩=>⟨_,e1,?_,bG⟩
 rw [e2]
 exact (nS w k).trans (wV (w.drewN k) os)
theorem xL {n:Int} (hn:yK n):FitsW Tryz.prog Gl 190 [it n,it 10] (tx (zJ n)):=by
 refine cA Tryz.func190 (by kernel_rfl) fun w00 hG=>?_;have hI:=aS hG
 refine jW hI 246 [it n,it 10] (formatInt0F hn) Tryz.call246 ?_
 exact jR Tryz.func190
abbrev smA (q:Rat):AV Kn := .fv (.ag [.lit (.int .i64 q.num),.lit (.int .i64 ((q.den:Int)-1)),.lit (.pointer none)])
theorem sm_holds {β:List Nat} {v:Value} {w:World} {q:Rat} (h:Sm q):(num q).holds β v w↔(smA q).holds β v w:=by
 rw [dJ]
 constructor
 ·rintro (⟨_,rfl⟩|⟨h2,_⟩)
  ·exact ⟨[_,_,_],rfl,[_],_,rfl,⟨rfl,rfl⟩,[_],_,rfl,⟨rfl,rfl⟩,[_],[],rfl,⟨rfl,rfl⟩,rfl⟩
  ·exact absurd h h2
 ·rintro ⟨cs,rfl,a,r,rfl,⟨rfl,_⟩,b,r2,rfl,⟨rfl,_⟩,c,r3,rfl,⟨rfl,_⟩,e⟩
  rw [show r3 = [] from e]
  exact .inl ⟨h,rfl⟩
theorem denF {q:Rat} (h:Sm q):Fits Tryz.prog 131 [smA q] (it q.den):=by
 intro β w vs hv
 obtain ⟨v,rfl,h1⟩:=dE hv
 obtain ⟨cs,rfl,a,r,rfl,⟨rfl,_⟩,b,r2,rfl,⟨rfl,_⟩,c,r3,rfl,⟨rfl,_⟩,e⟩:=h1
 rw [show r3 = [] from e]
 have hd:=iT h
 refine (mV q.num ((q.den:Int)-1) none w (by omega) (by omega)).mono fun e w' ⟨e1,h2⟩=>⟨_,e1,h2,?_⟩
 rw [show ((q.den:Int)-1+1)=q.den by omega]
 exact aX rfl
theorem eW {P:Program} {o:Oper} {ρ:Operand→Value} {w:World} {T T' : TypeId} {x y:Operand} {a b:ByteArray} (ho:o.op = .binOp .add T x y T') (hx:ρ x = .string a) (hy:ρ y = .string b) (hs:a.size+b.size≤9223372036854775807) :
 (execOp ρ o).run P w = .ok (.value (.string (a++b))) w:=by
 simp only [execOp,ho,hx,hy]
 refine bJ ?_
 have hne:¬ (((a.size+b.size:Nat):Int) > IntKind.i64.max):=by
  have:IntKind.i64.max=9223372036854775807:=by decide
  rw [this]
  omega
 simp only [eqGuard,binOp,Op.stringOp,if_neg hne]
 rfl
theorem decB_size {a k:Nat} (h:a<10^(k+1)):(decB a).size≤k+1:=by
 exact wU h
theorem fraTextF {q:Rat} (hq:Lf 20 q) (hs:(decB q.num.natAbs).size≤1000000000):FitsW Tryz.prog Gl 189 [fra q] (.tup [.sc (bY (overB q)),.sc (bY (decB q.den))]):=by
 by_cases hn:q.num<0
 ·have hd:decide (q.num<0)=true:=by simpa using hn
  have ho:overB q=⟨#[45]⟩++decB q.num.natAbs:=by rw [overB,if_pos hn]
  rw [ho,show fra q=frv true q.num.natAbs q.den by rw [fra,hd]]
  obtain ⟨hq1,hq2⟩:=hq
  generalize q.num.natAbs=n at *
  have hcat:(⟨#[45]⟩:ByteArray).size+(decB n).size≤9223372036854775807:=by
   have:(⟨#[45]⟩:ByteArray).size=1:=rfl
   omega
  refine cA Tryz.func189 (by kernel_rfl) fun w00 hG=>?_;have hI:=aS hG
  refine jW hI 245 [nt n] (rO hq1) Tryz.call245 ?_
  refine jW hI 245 [nt q.den] (rO hq2) Tryz.call245 ?_
  refine dW (.binOp .add 9 (.const (.string ⟨#[45]⟩)) (.tmp 12) 9) (.const (.string ⟨#[45]⟩)) (.tmp 12) (lt ⟨#[45]⟩) (tx (decB n)) (tx (⟨#[45]⟩++decB n)) (by kernel_rfl) (by simp [Op.operands]) (by simp [Op.operands]) (fun ρ o β w ho hx hy=>⟨_,eW ho (aN hx) (aP hy) hcat,bG⟩) ?_
  exact jR Tryz.func189
 ·have hd:decide (q.num<0)=false:=by simpa using hn
  have ho:overB q=decB q.num.natAbs:=by rw [overB,if_neg hn]
  rw [ho,show fra q=frv false q.num.natAbs q.den by rw [fra,hd]]
  refine cA Tryz.func189 (by kernel_rfl) fun w00 hG=>?_;have hI:=aS hG
  refine jW hI 245 [nt q.num.natAbs] (rO hq.1) Tryz.call245 ?_
  refine jW hI 245 [nt q.den] (rO hq.2) Tryz.call245 ?_
  exact jR Tryz.func189
theorem itoa_over (q:Rat):zJ q.num=overB q:=by
 unfold zJ overB decB Lib.itoa
 split
 ·congr 1
 ·rename_i h
  congr 3
  omega
theorem itoa_den (d:Nat):zJ (d:Int)=decB d:=by
 unfold zJ decB Lib.itoa
 rw [if_neg (by omega)]
 rfl
theorem smTextF {q:Rat} (h:Sm q):FitsW Tryz.prog Gl 125 [smA q] (.tup [.sc (bY (overB q)),.sc (bY (decB q.den))]):=by
 have hn:=iU h
 have hd:=iT h
 rw [← itoa_over,← itoa_den]
 refine cA Tryz.func125 (by kernel_rfl) fun w00 hG=>?_;have hI:=aS hG
 refine jW hI 190 [it q.num,it 10] (xL ⟨by have:=hn.1;omega,by have:=hn.2;omega⟩) Tryz.call190 ?_
 refine jC 131 [smA q] (denF h) Tryz.call131 ?_
 refine jW hI 190 [it q.den,it 10] (xL ⟨by omega,hd.2⟩) Tryz.call190 ?_
 exact jR Tryz.func125
theorem num_large {I:World→Prop} {f:FuncId} {fn:Func} {q:Rat} {x:AV Kn} (hq:¬ Sm q) (hfn:Tryz.prog.funcs[f]?=some fn) (hc:(fn.body.isSome,decide (1≤fn.ntmps),x.noPtr)=(true,true,true))
 (h:∀ w00,I w00→Ok Tryz.prog f w00 (fun v w=>x.holds [] v w) (dC Tryz.prog 1000 (.items [.code (fn.body.getD .skip)] { slots := [.fv (.ag [.lit (.int .i64 0),.lit (.int .i64 0),.ptr 0 0])]++List.replicate (fn.ntmps-1) .un,blocks := [(97,[.lit (.bool (decide (q.num<0))),nts q.num.natAbs,nts q.den])],ro:=1 }))) :
 FitsW Tryz.prog I f [num q] x:=by
 simp only [Prod.mk.injEq] at hc
 intro β w vs hI hv
 obtain ⟨v,rfl,h1⟩:=dE hv
 rcases dJ.1 h1 with ⟨h2,_⟩|⟨_,g,s1,s2,rfl,hg,n1,n2⟩
 ·exact absurd h2 hq
 have hb2:fn.body=some (fn.body.getD .skip):=by
  cases hb2:fn.body with
  | none=>rw [hb2] at hc;cases hc.1
  | some c=>rfl
 have hl:holdsL [g] [Seg.lit (.bool (decide (q.num<0))),nts q.num.natAbs,nts q.den] [.bool (decide (q.num<0)),s1,s2] w :=
  ⟨[.bool (decide (q.num<0))],_,rfl,⟨rfl,rfl⟩,[s1],_,rfl,⟨s1,rfl,n1⟩,[s2],[],rfl,⟨s2,rfl,n2⟩,rfl⟩
 refine (eO (w00:=w) (Out:=fun v w=>x.holds [] v w) hfn hb2 [.fv (.ag [.lit (.int .i64 0),.lit (.int .i64 0),.ptr 0 0])] [(97,[.lit (.bool (decide (q.num<0))),nts q.num.natAbs,nts q.den])] [g] _ (fn.ntmps-1) (by simp at hc;simp;omega)
  ⟨_,[],rfl,⟨[.int .i64 0,.int .i64 0,.pointer (some ⟨g,0,none⟩)],rfl,[_],_,rfl,⟨rfl,rfl⟩,[_],_,rfl,⟨rfl,rfl⟩,[_],[],rfl,⟨g,rfl,rfl⟩,rfl⟩,rfl⟩ rfl (by simp) (fun k T l hk=>?_) (by simp;exact lt_of_block hg) (Ok.go (by kernel_rfl) lM 1000 (h w hI)).good).mono ?_
 ·match k,hk with
  | 0,hk =>
    simp at hk
    obtain ⟨rfl,rfl⟩:=hk
    exact ⟨g,_,rfl,hg,hl⟩
 ·rintro e w' ⟨v,rfl,hb,ho⟩
  exact ⟨v,rfl,hb,AV.noPtr_holds hc.2.2 ho⟩
theorem numTextF {q:Rat} (hq:Lf 20 q) (hs:(decB q.num.natAbs).size≤1000000000):FitsW Tryz.prog Gl 125 [num q] (.tup [.sc (bY (overB q)),.sc (bY (decB q.den))]):=by
 by_cases h:Sm q
 ·intro β w vs hG hv
  obtain ⟨v,r,rfl,h1,h2⟩:=hv
  exact smTextF h β w _ hG ⟨v,r,rfl,(sm_holds h).1 h1,h2⟩
 ·refine num_large h Tryz.func125 (by kernel_rfl) fun w00 hG=>?_
  have hI:=aS hG
  refine dW (.binOp .neq 67 (.tmp 5) (.const (.pointer none)) 67) (.tmp 5) (.const (.pointer none)) (.fv (.sc (.ptr 0 0))) (.fv (.sc (.lit (.pointer none)))) (bl true) (by kernel_rfl) (by simp [Op.operands]) (by simp [Op.operands]) (fun ρ o β w ho hx hy=>?_) ?_
  ·obtain ⟨g,_,hx⟩:=gI hx
   have hy:=aN hy
   refine ⟨.bool true,?_,aX rfl⟩
   simp only [execOp,ho,hx,hy]
   exact bJ (bT (by kernel_rfl) w)
  refine jW hI 189 [fra q] (fraTextF hq hs) Tryz.call189 ?_
  exact jR Tryz.func125
theorem trimF {s t:ByteArray} (h:(⟨(Lib.trimPrefix s.data.toList [45]).toArray⟩:ByteArray)=t):Fits Tryz.prog 126 [tx s,lt ⟨#[45]⟩] (tx t):=by
 intro β w vs hv
 obtain ⟨v,u,rfl,h1,h2⟩:=eG hv
 rw [aP h1,aN h2]
 refine (Tryz.strings_TrimPrefix s ⟨#[45]⟩ w).mono fun e w' ⟨e1,e2⟩=>⟨_,e1,by rw [e2];exact Below.refl _ _,?_⟩
 rw [← h]
 exact bG
theorem zK {q:Rat}:(⟨(Lib.trimPrefix (overB q).data.toList [45]).toArray⟩:ByteArray)=decB q.num.natAbs:=by
 unfold overB
 split
 ·have:(⟨#[45]⟩++decB q.num.natAbs:ByteArray).data.toList=45::Lib.decDigits q.num.natAbs:=by
   simp [decB]
  rw [this]
  simp [Lib.trimPrefix,Lib.hasPrefix,decB]
 ·simp only [decB]
  have hd:=(cF q.num.natAbs).2
  unfold Lib.trimPrefix
  split
  ·rename_i hp
   exfalso
   have h0:=hd.2
   cases hl:Lib.decDigits q.num.natAbs with
   | nil=>exact h0 hl
   | cons c r =>
     rw [hl] at hp
     simp [Lib.hasPrefix] at hp
     have:=hd.1 c (by rw [hl];simp)
     rw [← hp] at this
     revert this
     decide
  ·rfl
theorem vN {o:Oper} {ρ:Operand→Value} {w:World} {t:Tmp} {T:TypeId} {s:ByteArray} (ho:o.op = .call ⟨.builtin .len,#[.tmp t],#[T]⟩) (hT:Tryz.prog.underlying T=some .string) (hx:ρ (.tmp t) = .string s) :
 (execOp ρ o).run Tryz.prog w = .ok (.value (.int .i64 s.size)) w:=by
 have hm:(#[Operand.tmp t].map ρ) = #[.string s]:=by simp [hx]
 simp only [execOp,ho,resolve,Sem.run_bind,Sem.run_pure,Result.andThen,hm,invoke,builtin,Builtin.len_]
 simp [Sem.run_bind,run_underlying hT,Result.andThen,goInt]
section
variable {f:FuncId} {w00:World} {Out:Value→World→Prop}
theorem lR {c:Cfg Kn} (t:Tmp) (s:ByteArray) (hc:(c.op.map fun o=>o.op,c.okT (.fv (.sc (jZ s.size))),c.ev (.tmp t))=(some (.call ⟨.builtin .len,#[.tmp t],#[9]⟩),true,tx s))
 (hg:Ok Tryz.prog f w00 Out (dC Tryz.prog 1000 (c.give (.fv (.sc (jZ s.size)))))):Ok Tryz.prog f w00 Out c:=by
 simp only [Prod.mk.injEq] at hc
 obtain ⟨h1,h2,h3⟩:=hc
 exact dW _ (.tmp t) (.tmp t) (tx s) (tx s) (.fv (.sc (jZ s.size))) (by rw [h1,h2,h3]) (by simp [Op.operands,Call.operands]) (by simp [Op.operands,Call.operands])
  (fun ρ o β w ho hx _=>⟨_,vN ho Tryz.underlying9 (aP hx),bG⟩) hg
end
theorem qI {o:Oper} {ρ:Operand→Value} {w:World} {x y:Operand} {a b:Int} {r:Bool} (ho:o.op = .binOp .gtr 3 x y 3) (hx:ρ x = .int .i64 a) (hy:ρ y = .int .i64 b) (h:decide (b<a)=r) :
 (execOp ρ o).run Tryz.prog w = .ok (.value (.bool r)) w:=by
 simp only [execOp,ho,hx,hy]
 refine bJ ?_
 rw [← h]
 exact bT (by kernel_rfl) w
theorem sne_run {o:Oper} {ρ:Operand→Value} {w:World} {x y:Operand} {a b:ByteArray} {r:Bool} {T T' : TypeId} (ho:o.op = .binOp .neq T x y T') (hx:ρ x = .string a) (hy:ρ y = .string b) (h:(!(a.toList==b.toList))=r) :
 (execOp ρ o).run Tryz.prog w = .ok (.value (.bool r)) w:=by
 simp only [execOp,ho,hx,hy]
 refine bJ ?_
 rw [← h]
 exact bT (by kernel_rfl) w
def writeB (q:Rat):ByteArray:=if q.den=1 then overB q else overB q++(⟨#[47]⟩++decB q.den)
theorem rQ {a k:Nat} (h:a<10^(k+1)):(decB a).size≤k+1:=decB_size h
theorem over_size {q:Rat}:(overB q).size≤(decB q.num.natAbs).size+1:=by
 unfold overB
 split
 ·simp
  have:(⟨#[45]⟩:ByteArray).size=1:=rfl
  omega
 ·omega
theorem uO {n:Nat}:(!((decB n).toList==(⟨#[49]⟩:ByteArray).toList)) = !decide (n=1):=by
 congr 1
 rw [Bool.eq_iff_iff]
 simp only [beq_iff_eq,decide_eq_true_eq]
 rw [Go.ByteArray.toList_eq,Go.ByteArray.toList_eq]
 simp only [decB]
 constructor
 ·intro h
  have:=(cF n).1
  rw [h] at this
  rw [← this]
  rfl
 ·rintro rfl
  exact cT (by omega)
theorem tK {q:Rat} (hq:Lf 20 q) (hn:(decB q.num.natAbs).size≤600) (hd:(decB q.den).size≤600):FitsW Tryz.prog Gl 58 [num q] (.tup [.sc (bY (writeB q)),.sc (.lit (.int .i64 0))]):=by
 have h1:decide ((600:Int)<((decB q.num.natAbs).size:Int))=false:=by simp;omega
 have h2:decide ((600:Int)<((decB q.den).size:Int))=false:=by simp;omega
 have hs:=over_size (q:=q)
 have hb1:(⟨#[47]⟩:ByteArray).size+(decB q.den).size≤9223372036854775807:=by
  have:(⟨#[47]⟩:ByteArray).size=1:=rfl
  omega
 have hb2:(overB q).size+(⟨#[47]⟩++decB q.den:ByteArray).size≤9223372036854775807:=by
  have:(⟨#[47]⟩:ByteArray).size=1:=rfl
  simp
  omega
 by_cases h:q.den=1
 ·have hw:writeB q=overB q:=by rw [writeB,if_pos h]
  have h3:(!((decB q.den).toList==(⟨#[49]⟩:ByteArray).toList))=false:=by rw [uO,h];rfl
  rw [hw]
  refine cA Tryz.func58 (by kernel_rfl) fun w00 hG=>?_;have hI:=aS hG
  refine jW hI 125 [num q] (numTextF hq (by omega)) Tryz.call125 ?_
  refine jC 126 [tx (overB q),lt ⟨#[45]⟩] (trimF zK) Tryz.call126 ?_
  refine lR 12 (decB q.num.natAbs) (by kernel_rfl) ?_
  refine dW (.binOp .gtr 3 (.tmp 13) (.const (.int .i64 600)) 3) (.tmp 13) (.const (.int .i64 600)) (.fv (.sc (jZ (decB q.num.natAbs).size))) (it 600) (bl false) (by kernel_rfl) (by simp [Op.operands]) (by simp [Op.operands]) (fun ρ o β w ho hx hy=>⟨_,qI ho (aP hx) (aN hy) h1,aX rfl⟩) ?_
  refine lR 16 (decB q.den) (by kernel_rfl) ?_
  refine dW (.binOp .gtr 3 (.tmp 17) (.const (.int .i64 600)) 3) (.tmp 17) (.const (.int .i64 600)) (.fv (.sc (jZ (decB q.den).size))) (it 600) (bl false) (by kernel_rfl) (by simp [Op.operands]) (by simp [Op.operands]) (fun ρ o β w ho hx hy=>⟨_,qI ho (aP hx) (aN hy) h2,aX rfl⟩) ?_
  refine dW (.binOp .neq 9 (.tmp 20) (.const (.string ⟨#[49]⟩)) 9) (.tmp 20) (.const (.string ⟨#[49]⟩)) (tx (decB q.den)) (lt ⟨#[49]⟩) (bl false) (by kernel_rfl) (by simp [Op.operands]) (by simp [Op.operands]) (fun ρ o β w ho hx hy=>⟨_,sne_run ho (aP hx) (aN hy) h3,aX rfl⟩) ?_
  exact jR Tryz.func58
 ·have hw:writeB q=overB q++(⟨#[47]⟩++decB q.den):=by rw [writeB,if_neg h]
  have h3:(!((decB q.den).toList==(⟨#[49]⟩:ByteArray).toList))=true:=by rw [uO];simpa using h
  rw [hw]
  refine cA Tryz.func58 (by kernel_rfl) fun w00 hG=>?_;have hI:=aS hG
  refine jW hI 125 [num q] (numTextF hq (by omega)) Tryz.call125 ?_
  refine jC 126 [tx (overB q),lt ⟨#[45]⟩] (trimF zK) Tryz.call126 ?_
  refine lR 12 (decB q.num.natAbs) (by kernel_rfl) ?_
  refine dW (.binOp .gtr 3 (.tmp 13) (.const (.int .i64 600)) 3) (.tmp 13) (.const (.int .i64 600)) (.fv (.sc (jZ (decB q.num.natAbs).size))) (it 600) (bl false) (by kernel_rfl) (by simp [Op.operands]) (by simp [Op.operands]) (fun ρ o β w ho hx hy=>⟨_,qI ho (aP hx) (aN hy) h1,aX rfl⟩) ?_
  refine lR 16 (decB q.den) (by kernel_rfl) ?_
  refine dW (.binOp .gtr 3 (.tmp 17) (.const (.int .i64 600)) 3) (.tmp 17) (.const (.int .i64 600)) (.fv (.sc (jZ (decB q.den).size))) (it 600) (bl false) (by kernel_rfl) (by simp [Op.operands]) (by simp [Op.operands]) (fun ρ o β w ho hx hy=>⟨_,qI ho (aP hx) (aN hy) h2,aX rfl⟩) ?_
  refine dW (.binOp .neq 9 (.tmp 20) (.const (.string ⟨#[49]⟩)) 9) (.tmp 20) (.const (.string ⟨#[49]⟩)) (tx (decB q.den)) (lt ⟨#[49]⟩) (bl true) (by kernel_rfl) (by simp [Op.operands]) (by simp [Op.operands]) (fun ρ o β w ho hx hy=>⟨_,sne_run ho (aP hx) (aN hy) h3,aX rfl⟩) ?_
  refine dW (.binOp .add 9 (.const (.string ⟨#[47]⟩)) (.tmp 23) 9) (.const (.string ⟨#[47]⟩)) (.tmp 23) (lt ⟨#[47]⟩) (tx (decB q.den)) (tx (⟨#[47]⟩++decB q.den)) (by kernel_rfl) (by simp [Op.operands]) (by simp [Op.operands]) (fun ρ o β w ho hx hy=>⟨_,eW ho (aN hx) (aP hy) hb1,bG⟩) ?_
  refine dW (.binOp .add 9 (.tmp 22) (.tmp 24) 9) (.tmp 22) (.tmp 24) (tx (overB q)) (tx (⟨#[47]⟩++decB q.den)) (tx (overB q++(⟨#[47]⟩++decB q.den))) (by kernel_rfl) (by simp [Op.operands]) (by simp [Op.operands]) (fun ρ o β w ho hx hy=>⟨_,eW ho (aP hx) (aP hy) hb2,bG⟩) ?_
  exact jR Tryz.func58
end Go.Proofs.YtejbgingjeedaaaGreatDoor.Ab
namespace Go.Proofs.YtejbgingjeedaaaGreatDoor
open Go.RowKit Pl
theorem fA (w:World) (s:ByteArray) (pos:Nat):Below w.heap.size w (w.iter s pos):=(Below.refl _ _).alloc (Nat.le_refl _) _
set_option maxRecDepth 100000 in
theorem isDigits_any (s:ByteArray) (w:World) (hd:AllDig (aC s)) (h0:0<s.size):Calls Tryz.prog 110 #[.string s] w fun e w'=>e = .returned (.bool true)∧Below w.heap.size w w':=by
 have hne:(!(s.toList==(⟨#[]⟩:ByteArray).toList))=true:=by
  rw [Go.ByteArray.toList_eq,Go.ByteArray.toList_eq]
  have:s.data.toList≠[]:=fun h=>by
   have h2:(aC s).length=0:=by simp only [aC];rw [h];rfl
   rw [aE] at h2
   omega
  simpa using this
 have H:=aH (aI hd (aI h0 hne))
 clear hd h0 hne
 go_enter Tryz.func110,Tryz.ntmps110
 go_wp2
 go_loopw [4] (fun _ wr => ∃ pos:Nat,wr=w.iter s pos∧pos≤s.size) (fun _ wr=>s.size-wr.iterPos w.heap.size)
 case atStart=>exact ⟨0,rfl,Nat.zero_le _⟩
 case round =>
  obtain ⟨pos,rfl,hpos⟩:=hrel
  by_cases hp:pos<s.size
  ·have hc:48≤(s[pos]'hp).toNat∧(s[pos]'hp).toNat≤57:=by
    have:=H.out.1 (s[pos]'hp) (by
     unfold aC
     rw [Array.mem_toList_iff]
     exact Array.getElem_mem _)
    exact this
   obtain ⟨c,hcc⟩:∃ c,c=(s[pos]'hp).toNat:=⟨_,rfl⟩
   have hnx:∀ ty,(Instr.next (.pointer (some ⟨w.heap.size,0,none⟩)) true ty).run Tryz.prog (w.iter s pos) = .ok (.tuple #[.bool true,.int .i64 pos,.int .i32 (c:Int)]) (w.iter s (pos+1)):=fun ty=>by
    rw [hcc]
    exact run_next_ascii w s pos ty hp (by omega)
   rw [← hcc] at hc
   have k1:(48:Int)≤c:=by omega
   have k2:(c:Int)≤57:=by omega
   have HH:=aH (aI hp hpos)
   clear hc hcc hp hpos
   go_wp2
   go_roundw
   case rel=>exact ⟨pos+1,rfl,HH.out.1⟩
   case measure =>
    have:=HH.out.1
    simp
    omega
  ·have hnx:∀ ty,(Instr.next (.pointer (some ⟨w.heap.size,0,none⟩)) true ty).run Tryz.prog (w.iter s pos)=_:=fun ty=>run_next_end w s pos ty hp
   have hne:=H.out.2.2
   go_wp2
   go_ret
   exact ⟨by simp at hne ⊢;exact hne,fA _ _ _⟩
end Go.Proofs.YtejbgingjeedaaaGreatDoor
namespace Go.Proofs.YtejbgingjeedaaaGreatDoor.Ab
open Go.RowKit Go.Proofs.YtejbgingjeedaaaGreatDoor Pl
theorem oZ {s:ByteArray} (hd:AllDig (aC s)) (h0:0<s.size):Fits Tryz.prog 110 [tx s] (bl true):=by
 intro β w vs hv
 obtain ⟨v,rfl,h1⟩:=dE hv
 rw [aP h1]
 exact (isDigits_any s w hd h0).mono fun e w' ⟨e1,e2⟩=>⟨_,e1,e2,aX rfl⟩
theorem lS {o:Oper} {ρ:Operand→Value} {w:World} {x y:Operand} {s:ByteArray} {i:Nat} {c:UInt8} {T:TypeId} (ho:o.op = .index T x y) (hT:Tryz.prog.underlying T=some .string) (hx:ρ x = .string s) (hy:ρ y = .int .i64 i) (hc:s[i]?=some c) :
 (execOp ρ o).run Tryz.prog w = .ok (.value (.int .u8 c.toNat)) w:=by
 simp only [execOp,ho,hx,hy]
 refine bJ ?_
 simp [Instr.index,asIntOf,Sem.run_bind,run_underlying hT,Result.andThen,hc]
theorem mX {o:Oper} {ρ:Operand→Value} {w:World} {x y:Operand} {a b:Int} {r:Bool} {T T' : TypeId} (ho:o.op = .binOp .neq T x y T') (hx:ρ x = .int .u8 a) (hy:ρ y = .int .u8 b) (h:(a != b)=r) :
 (execOp ρ o).run Tryz.prog w = .ok (.value (.bool r)) w:=by
 simp only [execOp,ho,hx,hy]
 refine bJ ?_
 rw [← h]
 exact bT (by kernel_rfl) w
theorem zL {o:Oper} {ρ:Operand→Value} {w:World} {x y:Operand} {a b:Int} {r:Bool} {T T' : TypeId} (ho:o.op = .binOp .eql T x y T') (hx:ρ x = .int .i64 a) (hy:ρ y = .int .i64 b) (h:(a==b)=r) :
 (execOp ρ o).run Tryz.prog w = .ok (.value (.bool r)) w:=by
 simp only [execOp,ho,hx,hy]
 refine bJ ?_
 rw [← h]
 exact bT (by kernel_rfl) w
theorem seq_run {o:Oper} {ρ:Operand→Value} {w:World} {x y:Operand} {a b:ByteArray} {r:Bool} {T T' : TypeId} (ho:o.op = .binOp .eql T x y T') (hx:ρ x = .string a) (hy:ρ y = .string b) (h:(a.toList==b.toList)=r) :
 (execOp ρ o).run Tryz.prog w = .ok (.value (.bool r)) w:=by
 simp only [execOp,ho,hx,hy]
 refine bJ ?_
 rw [← h]
 exact bT (by kernel_rfl) w
abbrev isB (n:Int):Seg Kn := .sp (csIs (.int .u8 n) rfl true (fun _=>rfl))
theorem lT (n:Nat):Fits Tryz.prog 134 [tx (decB n)] (bl true):=by
 have hd:=cF n
 have hsz:0<(decB n).size:=by
  have:(Lib.decDigits n).length≠0:=fun h=>hd.2.2 (List.eq_nil_of_length_eq_zero h)
  have e:(decB n).size=(Lib.decDigits n).length:=by simp [decB,ByteArray.size]
  omega
 have hlen:0<(Lib.decDigits n).length:=List.length_pos_iff.2 hd.2.2
 obtain ⟨c,hcl⟩:∃ c,(Lib.decDigits n)[0]?=some c:=⟨_,List.getElem?_eq_getElem hlen⟩
 have hc:(decB n)[0]?=some c:=by
  rw [getElem?_pos (decB n) 0 hsz]
  have:(decB n)[0]'hsz=(Lib.decDigits n)[0]'hlen:=by
   first
    | rfl
    | exact List.getElem_toArray _
  rw [this,← hcl,List.getElem?_eq_getElem hlen]
 by_cases h:c=48
 ·have hone:(decB n).size=1:=by
   have h0:n=0:=by
    rcases Nat.eq_zero_or_pos n with e|e
    ·exact e
    ·exfalso
     have:=wT e
     rw [List.head?_eq_getElem?,hcl,h] at this
     exact this rfl
   subst h0
   simp only [decB]
   rw [cT (by omega)]
   rfl
  have h1:(((c.toNat:Nat):Int) != 48)=false:=by rw [h];rfl
  have h2:(((decB n).size:Int)==1)=true:=by rw [hone];rfl
  refine jG Tryz.func134 fun w00=>?_
  refine jC 110 [tx (decB n)] (oZ hd.2.1 hsz) Tryz.call110 ?_
  refine dW (.index 9 (.tmp 6) (.const (.int .i64 0))) (.tmp 6) (.const (.int .i64 0)) (tx (decB n)) (it 0) (.fv (.sc (isB c.toNat))) (by kernel_rfl) (by simp [Op.operands]) (by simp [Op.operands]) (fun ρ o β w ho hx hy=>⟨_,lS (i:=0) ho Tryz.underlying9 (aP hx) (aN hy) hc,bG⟩) ?_
  refine dW (.binOp .neq 5 (.tmp 7) (.const (.int .u8 48)) 5) (.tmp 7) (.const (.int .u8 48)) (.fv (.sc (isB c.toNat))) (.fv (.sc (.lit (.int .u8 48)))) (bl false) (by kernel_rfl) (by simp [Op.operands]) (by simp [Op.operands]) (fun ρ o β w ho hx hy=>⟨_,mX ho (aP hx) (aN hy) h1,aX rfl⟩) ?_
  refine lR 10 (decB n) (by kernel_rfl) ?_
  refine dW (.binOp .eql 3 (.tmp 11) (.const (.int .i64 1)) 3) (.tmp 11) (.const (.int .i64 1)) (.fv (.sc (jZ (decB n).size))) (it 1) (bl true) (by kernel_rfl) (by simp [Op.operands]) (by simp [Op.operands]) (fun ρ o β w ho hx hy=>⟨_,zL ho (aP hx) (aN hy) h2,aX rfl⟩) ?_
  exact jR Tryz.func134
 ·have h1:(((c.toNat:Nat):Int) != 48)=true:=by
   rw [bne_iff_ne]
   intro e
   exact h (UInt8.toNat_inj.1 (by have:(48:UInt8).toNat=48:=rfl;omega))
  refine jG Tryz.func134 fun w00=>?_
  refine jC 110 [tx (decB n)] (oZ hd.2.1 hsz) Tryz.call110 ?_
  refine dW (.index 9 (.tmp 6) (.const (.int .i64 0))) (.tmp 6) (.const (.int .i64 0)) (tx (decB n)) (it 0) (.fv (.sc (isB c.toNat))) (by kernel_rfl) (by simp [Op.operands]) (by simp [Op.operands]) (fun ρ o β w ho hx hy=>⟨_,lS (i:=0) ho Tryz.underlying9 (aP hx) (aN hy) hc,bG⟩) ?_
  refine dW (.binOp .neq 5 (.tmp 7) (.const (.int .u8 48)) 5) (.tmp 7) (.const (.int .u8 48)) (.fv (.sc (isB c.toNat))) (.fv (.sc (.lit (.int .u8 48)))) (bl true) (by kernel_rfl) (by simp [Op.operands]) (by simp [Op.operands]) (fun ρ o β w ho hx hy=>⟨_,mX ho (aP hx) (aN hy) h1,aX rfl⟩) ?_
  exact jR Tryz.func134
end Go.Proofs.YtejbgingjeedaaaGreatDoor.Ab
namespace Go.Proofs.YtejbgingjeedaaaGreatDoor.Ab
open Go.RowKit Go.Proofs.YtejbgingjeedaaaGreatDoor Pl
theorem rR:∀ {l:List UInt8},AllDig l→Lib.index l [47] = -1
 | [],_=>rfl
 | c :: l,h=>by
   have hc:=h c (by simp)
   have h2:([47]:List UInt8).isPrefixOf (c::l)=false:=by
    simp [List.isPrefixOf]
    intro e
    rw [← e] at hc
    revert hc
    decide
   unfold Lib.index
   rw [h2,rR (fun d hd=>h d (by simp [hd]))]
   rfl
theorem xM:∀ {l r:List UInt8},AllDig l→Lib.index (l++47::r) [47]=(l.length:Int)
 | [],r,_=>by
   unfold Lib.index
   rfl
 | c :: l,r,h=>by
   have hc:=h c (by simp)
   have h2:([47]:List UInt8).isPrefixOf (c::(l++47::r))=false:=by
    simp [List.isPrefixOf]
    intro e
    rw [← e] at hc
    revert hc
    decide
   have ih:=xM (l:=l) (r:=r) (fun d hd=>h d (by simp [hd]))
   rw [List.cons_append]
   unfold Lib.index
   rw [h2,ih]
   have:((l.length:Int) == -1)=false:=by rw [beq_eq_false_iff_ne];omega
   rw [this]
   simp
def aY (q:Rat):ByteArray:=if q.den=1 then decB q.num.natAbs else decB q.num.natAbs++(⟨#[47]⟩++decB q.den)
theorem ba_ext {a b:ByteArray} (h:a.data.toList=b.data.toList):a=b:=by
 cases a;cases b
 simp only [ByteArray.mk.injEq]
 exact Array.toList_inj.1 h
theorem dA (n:Nat):(decB n).data.toList=Lib.decDigits n:=by simp [decB]
theorem lU {q:Rat} (h:q.num<0):writeB q=⟨#[45]⟩++aY q:=by
 apply ba_ext
 unfold writeB aY overB
 split <;> simp [h]
theorem eB {q:Rat} (h:¬ q.num<0):writeB q=aY q:=by
 unfold writeB aY overB
 simp only [h,if_false]
theorem tL (q:Rat):∃ c r,(aY q).data.toList=c::r∧(48≤c.toNat∧c.toNat≤57):=by
 have hd:=cF q.num.natAbs
 obtain ⟨c,r,hl⟩:∃ c r,Lib.decDigits q.num.natAbs=c::r:=by
  cases h:Lib.decDigits q.num.natAbs with
  | nil=>exact absurd h hd.2.2
  | cons c r=>exact ⟨c,r,rfl⟩
 have hc:=hd.2.1 c (by rw [hl];simp)
 unfold aY
 split
 ·exact ⟨c,r,by rw [dA,hl],hc⟩
 ·exact ⟨c,r++(⟨#[47]⟩++decB q.den:ByteArray).data.toList,by rw [ByteArray.toList_data_append,dA,hl];rfl,hc⟩
theorem mY {q:Rat} {neg:Bool} (hn:decide (q.num<0)=neg):Fits Tryz.prog 53 [tx (writeB q),lt ⟨#[45]⟩] (.tup [.sc (bY (aY q)),.sc (.lit (.bool neg))]):=by
 intro β w vs hv
 obtain ⟨v,u,rfl,h1,h2⟩:=eG hv
 rw [aP h1,aN h2]
 have key:(⟨(Lib.trimPrefix (writeB q).data.toList [45]).toArray⟩:ByteArray)=aY q∧Lib.hasPrefix (writeB q).data.toList [45]=neg:=by
  by_cases h:q.num<0
  ·have hneg:neg=true:=by rw [← hn];simpa using h
   rw [lU h,hneg]
   have e:(⟨#[45]⟩++aY q:ByteArray).data.toList=45::(aY q).data.toList:=by rw [ByteArray.toList_data_append];rfl
   rw [e]
   refine ⟨ba_ext (by simp [Lib.trimPrefix,Lib.hasPrefix]),by simp [Lib.hasPrefix]⟩
  ·have hneg:neg=false:=by rw [← hn];simpa using h
   rw [eB h,hneg]
   obtain ⟨c,r,e,hc⟩:=tL q
   have hp:Lib.hasPrefix (aY q).data.toList [45]=false:=by
    rw [e]
    simp [Lib.hasPrefix,List.isPrefixOf]
    intro h45
    rw [← h45] at hc
    revert hc
    decide
   refine ⟨ba_ext (by unfold Lib.trimPrefix;rw [hp];simp),hp⟩
 refine (Tryz.strings_CutPrefix (writeB q) ⟨#[45]⟩ w).mono fun e w' ⟨e1,e2⟩=>⟨_,e1,by rw [e2];exact Below.refl _ _,?_⟩
 rw [show (⟨#[45]⟩:ByteArray).data.toList = [45] from rfl,key.1,key.2]
 exact ⟨[.string (aY q),.bool neg],rfl,_,_,rfl,bG (β:=β),_,_,rfl,⟨rfl,rfl⟩,rfl⟩
theorem rT {s a b:ByteArray} {r:Bool} (hs:s.size<4294967281) (h:Lib.cut s.data.toList [47]=(a.data.toList,b.data.toList,r)):FitsW Tryz.prog Gl 133 [tx s,lt ⟨#[47]⟩] (.tup [.sc (bY a),.sc (bY b),.sc (.lit (.bool r))]):=by
 intro β w vs hG hv
 obtain ⟨v,u,rfl,h1,h2⟩:=eG hv
 rw [aP h1,aN h2]
 obtain ⟨m,hm⟩:=hG.2
 refine (Tryz.strings_Cut s ⟨#[47]⟩ m w hs hm).mono fun e w' ⟨e1,n,e2⟩=>⟨_,e1,by rw [e2];exact nS w n,?_⟩
 rw [show (⟨#[47]⟩:ByteArray).data.toList = [47] from rfl,h]
 have ea:(⟨a.data.toList.toArray⟩:ByteArray)=a:=ba_ext (by simp)
 have eb:(⟨b.data.toList.toArray⟩:ByteArray)=b:=ba_ext (by simp)
 simp only [ea,eb]
 exact ⟨[.string a,.string b,.bool r],rfl,_,_,rfl,bG (β:=β),_,_,rfl,bG (β:=β),_,_,rfl,⟨rfl,rfl⟩,rfl⟩
theorem zM {q:Rat} (h:q.den=1):Lib.cut (aY q).data.toList [47]=((decB q.num.natAbs).data.toList,(⟨#[]⟩:ByteArray).data.toList,false):=by
 unfold aY Lib.cut
 rw [if_pos h,dA,rR (cF q.num.natAbs).2.1]
 rfl
theorem zN {q:Rat} (h:q.den≠1):Lib.cut (aY q).data.toList [47]=((decB q.num.natAbs).data.toList,(decB q.den).data.toList,true):=by
 unfold aY Lib.cut
 have e:(decB q.num.natAbs++(⟨#[47]⟩++decB q.den):ByteArray).data.toList=Lib.decDigits q.num.natAbs++47::Lib.decDigits q.den:=by
  rw [ByteArray.toList_data_append,ByteArray.toList_data_append,dA,dA];rfl
 rw [if_neg h,e,xM (cF q.num.natAbs).2.1,if_pos (by omega),dA,dA]
 simp
theorem bU {n:Nat} (h:(decB n).size≤100000):Fits Tryz.prog 56 [tx (decB n)] (nt n):=by
 intro β w vs hv
 obtain ⟨v,rfl,h1⟩:=dE hv
 rw [aP h1]
 have e:aC (decB n)=Lib.decDigits n:=dA n
 refine (vA (decB n) w h (by rw [e];exact (cF n).2.1)).mono fun e' w' ⟨u,e1,h1,h2⟩=>⟨u,e1,h2,?_⟩
 rw [e,(cF n).1] at h1
 exact dL.2 h1
theorem uP:Fits Tryz.prog 56 [lt ⟨#[49]⟩] (nt 1):=by
 intro β w vs hv
 obtain ⟨v,rfl,h1⟩:=dE hv
 have e:decB 1=⟨#[49]⟩:=by unfold decB;rw [cT (by omega)];rfl
 exact bU (n:=1) (by rw [e];decide) β w _ ⟨v,[],rfl,by rw [aN h1,← e];exact bG,rfl⟩
theorem isOneF {n:Nat} {b:Bool} (h:decide (n=1)=b):Fits Tryz.prog 115 [nt n] (bl b):=by
 intro β w vs hv
 obtain ⟨v,rfl,h1⟩:=dE hv
 refine (oB (dL.1 h1)).mono fun e w' ⟨e1,e2⟩=>⟨_,e1,by rw [e2];exact Below.refl _ _,?_⟩
 rw [h]
 exact aX rfl
theorem rV {q:Rat} {neg:Bool} (h:decide (q.num<0)=neg):Fits Tryz.prog 57 [frv neg q.num.natAbs q.den] (num q):=by
 rw [← h]
 exact jH
section
variable {f:FuncId} {w00:World} {Out:Value→World→Prop}
theorem klenL {c:Cfg Kn} (t:Tmp) (s:ByteArray) (hc:(c.op.map fun o=>o.op,c.okT (.fv (.sc (jZ s.size))),c.ev (.tmp t))=(some (.call ⟨.builtin .len,#[.tmp t],#[9]⟩),true,lt s))
 (hg:Ok Tryz.prog f w00 Out (dC Tryz.prog 1000 (c.give (.fv (.sc (jZ s.size)))))):Ok Tryz.prog f w00 Out c:=by
 simp only [Prod.mk.injEq] at hc
 obtain ⟨h1,h2,h3⟩:=hc
 exact dW _ (.tmp t) (.tmp t) (lt s) (lt s) (.fv (.sc (jZ s.size))) (by rw [h1,h2,h3]) (by simp [Op.operands,Call.operands]) (by simp [Op.operands,Call.operands])
  (fun ρ o β w ho hx _=>⟨_,vN ho Tryz.underlying9 (aN hx),bG⟩) hg
theorem yL {c:Cfg Kn} (t:Tmp) (a b:Int) (r:Bool) (h:decide (b<a)=r) (hc:(c.op.map fun o=>o.op,c.okT (bl r),c.ev (.tmp t),c.ev (.const (.int .i64 b)))=(some (.binOp .gtr 3 (.tmp t) (.const (.int .i64 b)) 3),true,.fv (.sc (jZ a)),it b))
 (hg:Ok Tryz.prog f w00 Out (dC Tryz.prog 1000 (c.give (bl r)))):Ok Tryz.prog f w00 Out c :=
 dW _ (.tmp t) (.const (.int .i64 b)) _ _ (bl r) hc (by simp [Op.operands]) (by simp [Op.operands]) (fun ρ o β w ho hx hy=>⟨_,qI ho (aP hx) (aN hy) h,aX rfl⟩) hg
theorem lW {c:Cfg Kn} (t:Tmp) (a b:ByteArray) (r:Bool) (h:(a.toList==b.toList)=r) (hc:(c.op.map fun o=>o.op,c.okT (bl r),c.ev (.tmp t),c.ev (.const (.string b)))=(some (.binOp .eql 9 (.tmp t) (.const (.string b)) 9),true,tx a,lt b))
 (hg:Ok Tryz.prog f w00 Out (dC Tryz.prog 1000 (c.give (bl r)))):Ok Tryz.prog f w00 Out c :=
 dW _ (.tmp t) (.const (.string b)) _ _ (bl r) hc (by simp [Op.operands]) (by simp [Op.operands]) (fun ρ o β w ho hx hy=>⟨_,seq_run ho (aP hx) (aN hy) h,aX rfl⟩) hg
end
theorem jU {n m:Nat} {b:ByteArray} (hb:decB m=b):((decB n).toList==b.toList)=decide (n=m):=by
 rw [← hb,Go.ByteArray.toList_eq,Go.ByteArray.toList_eq,dA,dA,Bool.eq_iff_iff]
 simp only [beq_iff_eq,decide_eq_true_eq]
 constructor
 ·intro h
  have:=(cF n).1
  rw [h,(cF m).1] at this
  exact this.symm
 ·rintro rfl
  rfl
theorem dec0:decB 0=⟨#[48]⟩:=by unfold decB;rw [cT (by omega)];rfl
theorem dec1:decB 1=⟨#[49]⟩:=by unfold decB;rw [cT (by omega)];rfl
structure Wr (q:Rat):Prop where
 n:(decB q.num.natAbs).size≤600
 d:(decB q.den).size≤600
theorem mZ {n k:Nat} (h:(decB n).size≤19*2^k):Lv k n:=by
 have e:aC (decB n)=Lib.decDigits n:=dA n
 have hd:=cF n
 refine lv_pow k (decB n).size h ?_
 have:=gJ hd.2.1
 rw [hd.1] at this
 have hl:(decB n).size=(Lib.decDigits n).length:=by rw [← aE,e]
 rw [hl]
 exact this
theorem Wr.lf {q:Rat} (h:Wr q):Lf 5 q:=⟨mZ (by have:=h.n;omega),mZ (by have:=h.d;omega)⟩
theorem body_size {q:Rat} (h:Wr q):(aY q).size<4294967281:=by
 have h1:=h.n
 have h2:=h.d
 have:(⟨#[47]⟩:ByteArray).size=1:=rfl
 unfold aY
 split <;> simp <;> omega
theorem xN {q:Rat} (h:Wr q):FitsW Tryz.prog Gl 67 [tx (writeB q)] (.tup [.ag [nb q],.sc (.lit (.int .i64 0))]):=by
 have g1:decide ((600:Int)<((decB q.num.natAbs).size:Int))=false:=by have:=h.n;simp;omega
 have g2:decide ((600:Int)<((decB q.den).size:Int))=false:=by have:=h.d;simp;omega
 have g3:decide ((600:Int)<(((⟨#[49]⟩:ByteArray).size:Nat):Int))=false:=by decide
 have hsz:=body_size h
 have s1:=h.n
 have s2:=h.d
 by_cases hn:q.num<0
 ·have hneg:decide (q.num<0)=true:=by simpa using hn
  have hz:((decB q.num.natAbs).toList==(⟨#[48]⟩:ByteArray).toList)=false:=by rw [jU dec0,decide_eq_false_iff_not];omega
  by_cases hd:q.den=1
  ·skip
   refine cA Tryz.func67 (by kernel_rfl) fun w00 hG=>?_;have hI:=aS hG
   refine jC 53 [tx (writeB q),lt ⟨#[45]⟩] (mY hneg) Tryz.call53 ?_
   refine jW hI 133 [tx (aY q),lt ⟨#[47]⟩] (rT (a:=decB q.num.natAbs) (b:=⟨#[]⟩) (r:=false) hsz (zM hd)) Tryz.call133 ?_
   refine jC 134 [tx (decB q.num.natAbs)] (lT _) Tryz.call134 ?_
   refine lW 31 (decB q.num.natAbs) ⟨#[48]⟩ false hz (by kernel_rfl) ?_
   refine lR 53 (decB q.num.natAbs) (by kernel_rfl) ?_
   refine yL 54 (decB q.num.natAbs).size 600 false g1 (by kernel_rfl) ?_
   refine klenL 57 ⟨#[49]⟩ (by kernel_rfl) ?_
   refine yL 58 ((⟨#[49]⟩:ByteArray).size:Nat) 600 false g3 (by kernel_rfl) ?_
   refine jC 56 [tx (decB q.num.natAbs)] (bU (by omega)) Tryz.call56 ?_
   refine jC 56 [lt ⟨#[49]⟩] (uP) Tryz.call56 ?_
   refine jC 57 [frv true q.num.natAbs 1] ((by rw [← hd];exact rV hneg)) Tryz.call57 ?_
   exact jR Tryz.func67
  ·skip
   have y0:((decB q.den).toList==(⟨#[48]⟩:ByteArray).toList)=false:=by rw [jU dec0,decide_eq_false_iff_not];have:=q.den_pos;omega
   have y1:((decB q.den).toList==(⟨#[49]⟩:ByteArray).toList)=false:=by rw [jU dec1];simpa using hd
   refine cA Tryz.func67 (by kernel_rfl) fun w00 hG=>?_;have hI:=aS hG
   refine jC 53 [tx (writeB q),lt ⟨#[45]⟩] (mY hneg) Tryz.call53 ?_
   refine jW hI 133 [tx (aY q),lt ⟨#[47]⟩] (rT (a:=decB q.num.natAbs) (b:=decB q.den) (r:=true) hsz (zN hd)) Tryz.call133 ?_
   refine jC 134 [tx (decB q.num.natAbs)] (lT _) Tryz.call134 ?_
   refine lW 31 (decB q.num.natAbs) ⟨#[48]⟩ false hz (by kernel_rfl) ?_
   refine jC 134 [tx (decB q.den)] (lT _) Tryz.call134 ?_
   refine lW 43 (decB q.den) ⟨#[48]⟩ false y0 (by kernel_rfl) ?_
   refine lW 47 (decB q.den) ⟨#[49]⟩ false y1 (by kernel_rfl) ?_
   refine lR 53 (decB q.num.natAbs) (by kernel_rfl) ?_
   refine yL 54 (decB q.num.natAbs).size 600 false g1 (by kernel_rfl) ?_
   refine lR 57 (decB q.den) (by kernel_rfl) ?_
   refine yL 58 (decB q.den).size 600 false g2 (by kernel_rfl) ?_
   refine jC 56 [tx (decB q.num.natAbs)] (bU (by omega)) Tryz.call56 ?_
   refine jC 56 [tx (decB q.den)] (bU (by omega)) Tryz.call56 ?_
   refine jC 116 [nt q.num.natAbs,nt q.den] (gV (h.lf.1.mono (by decide)) (h.lf.2.mono (by decide)) (.inr q.den_pos)) Tryz.call116 ?_
   refine jC 115 [nt (Nat.gcd q.num.natAbs q.den)] (isOneF (b:=true) (by rw [decide_eq_true_eq];exact q.reduced)) Tryz.call115 ?_
   refine jC 57 [frv true q.num.natAbs q.den] (rV hneg) Tryz.call57 ?_
   exact jR Tryz.func67
 ·have hneg:decide (q.num<0)=false:=by simpa using hn
  by_cases hd:q.den=1
  ·skip
   refine cA Tryz.func67 (by kernel_rfl) fun w00 hG=>?_;have hI:=aS hG
   refine jC 53 [tx (writeB q),lt ⟨#[45]⟩] (mY hneg) Tryz.call53 ?_
   refine jW hI 133 [tx (aY q),lt ⟨#[47]⟩] (rT (a:=decB q.num.natAbs) (b:=⟨#[]⟩) (r:=false) hsz (zM hd)) Tryz.call133 ?_
   refine jC 134 [tx (decB q.num.natAbs)] (lT _) Tryz.call134 ?_
   refine lR 53 (decB q.num.natAbs) (by kernel_rfl) ?_
   refine yL 54 (decB q.num.natAbs).size 600 false g1 (by kernel_rfl) ?_
   refine klenL 57 ⟨#[49]⟩ (by kernel_rfl) ?_
   refine yL 58 ((⟨#[49]⟩:ByteArray).size:Nat) 600 false g3 (by kernel_rfl) ?_
   refine jC 56 [tx (decB q.num.natAbs)] (bU (by omega)) Tryz.call56 ?_
   refine jC 56 [lt ⟨#[49]⟩] (uP) Tryz.call56 ?_
   refine jC 57 [frv false q.num.natAbs 1] ((by rw [← hd];exact rV hneg)) Tryz.call57 ?_
   exact jR Tryz.func67
  ·skip
   have y0:((decB q.den).toList==(⟨#[48]⟩:ByteArray).toList)=false:=by rw [jU dec0,decide_eq_false_iff_not];have:=q.den_pos;omega
   have y1:((decB q.den).toList==(⟨#[49]⟩:ByteArray).toList)=false:=by rw [jU dec1];simpa using hd
   refine cA Tryz.func67 (by kernel_rfl) fun w00 hG=>?_;have hI:=aS hG
   refine jC 53 [tx (writeB q),lt ⟨#[45]⟩] (mY hneg) Tryz.call53 ?_
   refine jW hI 133 [tx (aY q),lt ⟨#[47]⟩] (rT (a:=decB q.num.natAbs) (b:=decB q.den) (r:=true) hsz (zN hd)) Tryz.call133 ?_
   refine jC 134 [tx (decB q.num.natAbs)] (lT _) Tryz.call134 ?_
   refine jC 134 [tx (decB q.den)] (lT _) Tryz.call134 ?_
   refine lW 43 (decB q.den) ⟨#[48]⟩ false y0 (by kernel_rfl) ?_
   refine lW 47 (decB q.den) ⟨#[49]⟩ false y1 (by kernel_rfl) ?_
   refine lR 53 (decB q.num.natAbs) (by kernel_rfl) ?_
   refine yL 54 (decB q.num.natAbs).size 600 false g1 (by kernel_rfl) ?_
   refine lR 57 (decB q.den) (by kernel_rfl) ?_
   refine yL 58 (decB q.den).size 600 false g2 (by kernel_rfl) ?_
   refine jC 56 [tx (decB q.num.natAbs)] (bU (by omega)) Tryz.call56 ?_
   refine jC 56 [tx (decB q.den)] (bU (by omega)) Tryz.call56 ?_
   refine jC 116 [nt q.num.natAbs,nt q.den] (gV (h.lf.1.mono (by decide)) (h.lf.2.mono (by decide)) (.inr q.den_pos)) Tryz.call116 ?_
   refine jC 115 [nt (Nat.gcd q.num.natAbs q.den)] (isOneF (b:=true) (by rw [decide_eq_true_eq];exact q.reduced)) Tryz.call115 ?_
   refine jC 57 [frv false q.num.natAbs q.den] (rV hneg) Tryz.call57 ?_
   exact jR Tryz.func67
abbrev z0:Seg Kn := .lit (.int .i64 0)
theorem iF {T:TypeId}:Fits Tryz.prog 69 [.fv (.nsl 2 T [z0,z0])] (it 0):=by
 refine nL Tryz.func69 (by kernel_rfl) fun w00=>?_
 exact jR Tryz.func69
theorem first3F {T:TypeId}:Fits Tryz.prog 69 [.fv (.nsl 3 T [z0,z0,z0])] (it 0):=by
 refine nL Tryz.func69 (by kernel_rfl) fun w00=>?_
 exact jR Tryz.func69
theorem first4F {T:TypeId}:Fits Tryz.prog 69 [.fv (.nsl 4 T [z0,z0,z0,z0])] (it 0):=by
 refine nL Tryz.func69 (by kernel_rfl) fun w00=>?_
 exact jR Tryz.func69
abbrev vS (a b c:Rat):AV Kn := .fv (.ag [bY (writeB a),bY (writeB b),bY (writeB c)])
abbrev okV (a b c:Rat):AV Kn := .tup [.ag [nb a,nb b,nb c],.sc z0]
abbrev kA (a b c:Rat):Prop:=Wr a∧Wr b∧Wr c
theorem gN {a b c:Rat} (h:kA a b c):FitsW Tryz.prog Gl 37 [vS a b c] (okV a b c):=by
 refine cA Tryz.func37 (by kernel_rfl) fun w00 hG=>?_;have hI:=aS hG
 refine jW hI 67 [tx (writeB a)] (xN h.1) Tryz.call67 ?_
 refine jW hI 67 [tx (writeB b)] (xN h.2.1) Tryz.call67 ?_
 refine jW hI 67 [tx (writeB c)] (xN h.2.2) Tryz.call67 ?_
 refine kcallS 69 3 3 141 [z0,z0,z0] (first3F) (by kernel_rfl) Tryz.call69 ?_
 exact jR Tryz.func37
theorem tM {a b c:Rat} (h:kA a b c) (ha:Lf 20 a) (hb:Lf 20 b) (hc:Lf 20 c):FitsW Tryz.prog Gl 39 [vc a b c] (.tup [.ag [bY (writeB a),bY (writeB b),bY (writeB c)],.sc z0]):=by
 refine cA Tryz.func39 (by kernel_rfl) fun w00 hG=>?_;have hI:=aS hG
 refine jW hI 58 [num a] (tK ha h.1.n h.1.d) Tryz.call58 ?_
 refine jW hI 58 [num b] (tK hb h.2.1.n h.2.1.d) Tryz.call58 ?_
 refine jW hI 58 [num c] (tK hc h.2.2.n h.2.2.d) Tryz.call58 ?_
 exact jR Tryz.func39
end Go.Proofs.YtejbgingjeedaaaGreatDoor.Ab
