/- Parts of the proof, joined. -/
import Derived.Test.YtbkfbobdmojgnaaGreatDoorJ20
import Derived.Test.YtbkfbobdmojgnaaGreatDoorJ7
set_option linter.unusedSimpArgs false
set_option linter.unusedVariables false
namespace Go.Proofs.YtbkfbobdmojgnaaGreatDoor
open Go.RowKit Pl
def Vc (w:World) (v:Value) (a b c:Rat):Prop :=
 ∃ n1 d1 p1 n2 d2 p2 n3 d3 p3,v = .agg #[.int .i64 n1,.int .i64 d1,.pointer p1,.int .i64 n2,.int .i64 d2,.pointer p2,.int .i64 n3,.int .i64 d3,.pointer p3] ∧
   Nb w (.agg #[.int .i64 n1,.int .i64 d1,.pointer p1]) a∧Nb w (.agg #[.int .i64 n2,.int .i64 d2,.pointer p2]) b∧Nb w (.agg #[.int .i64 n3,.int .i64 d3,.pointer p3]) c
theorem Vc.below {w w' : World} {v:Value} {a b c:Rat} (h:Vc w v a b c) (hb:Below w.heap.size w w'):Vc w' v a b c:=by
 obtain ⟨n1,d1,p1,n2,d2,p2,n3,d3,p3,e,h1,h2,h3⟩:=h
 exact ⟨n1,d1,p1,n2,d2,p2,n3,d3,p3,e,h1.below hb,h2.below hb,h3.below hb⟩
theorem Vc.ext {K:Value→Bool} (hK:∀ x,K (.int .u64 x)=true) (hK2:∀ b,K (.bool b)=true) {w w' : World} {v:Value} {a b c:Rat} (h:Vc w v a b c) (hx:Ext K w w'):Vc w' v a b c:=by
 obtain ⟨n1,d1,p1,n2,d2,p2,n3,d3,p3,e,h1,h2,h3⟩:=h
 exact ⟨n1,d1,p1,n2,d2,p2,n3,d3,p3,e,h1.ext hK hK2 hx,h2.ext hK hK2 hx,h3.ext hK hK2 hx⟩
set_option maxRecDepth 100000 in
set_option maxHeartbeats 4000000 in
theorem isZero_vc (v:Value) (a b c:Rat) (w:World) (h:Vc w v a b c):Calls Tryz.prog 77 #[v] w (Gives w (.bool (decide (a=0)&&decide (b=0)&&decide (c=0)))):=by
 obtain ⟨n1,d1,p1,n2,d2,p2,n3,d3,p3,rfl,h1,h2,h3⟩:=h
 have hb1:Below w.heap.size w (w.alloc (.cells #[.int .i64 n1,.int .i64 d1,.pointer p1,.int .i64 n2,.int .i64 d2,.pointer p2,.int .i64 n3,.int .i64 d3,.pointer p3] 92)):=(Below.refl _ _).alloc (Nat.le_refl _) _
 have hk1:=heap_alloc_new w (.cells #[.int .i64 n1,.int .i64 d1,.pointer p1,.int .i64 n2,.int .i64 d2,.pointer p2,.int .i64 n3,.int .i64 d3,.pointer p3] 92)
 have t1:=fun w' (hb:Below w.heap.size w w')=>isZero_nb _ _ w' (h1.below hb)
 have t2:=fun w' (hb:Below w.heap.size w w')=>isZero_nb _ _ w' (h2.below hb)
 have t3:=fun w' (hb:Below w.heap.size w w')=>isZero_nb _ _ w' (h3.below hb)
 clear h1 h2 h3
 generalize decide (a=0)=za at *
 generalize decide (b=0)=zb at *
 generalize decide (c=0)=zc at *
 have H:=Lib.hid (And.intro t1 (And.intro t2 t3))
 have B1:=Lib.hid (And.intro hb1 hk1)
 clear t1 t2 t3 hb1 hk1
 go_enter Tryz.func77,Tryz.ntmps77
 cases za
 ·skip
  go_wp2_with fail
  refine (H.out.1 _ B1.out.1).mono ?_
  rintro e w2 ⟨rfl,b2⟩
  have B2:=Lib.hid (And.intro (Below.step_trans B1.out.1 b2) (keep_blk b2 B1.out.2))
  obtain ⟨x0,x1,x2,x3,x4,x5,x6,x7,x8⟩:=blk9 B2.out.2
  clear b2
  go_wp2
  go_ret
  exact ⟨rfl,B2.out.1⟩
 ·cases zb
  ·skip
   go_wp2_with fail
   refine (H.out.1 _ B1.out.1).mono ?_
   rintro e w2 ⟨rfl,b2⟩
   have B2:=Lib.hid (And.intro (Below.step_trans B1.out.1 b2) (keep_blk b2 B1.out.2))
   obtain ⟨x0,x1,x2,x3,x4,x5,x6,x7,x8⟩:=blk9 B2.out.2
   clear b2
   go_wp2_with fail
   refine (H.out.2.1 _ B2.out.1).mono ?_
   rintro e w3 ⟨rfl,b2⟩
   have B3:=Lib.hid (And.intro (Below.step_trans B2.out.1 b2) (keep_blk b2 B2.out.2))
   obtain ⟨x0,x1,x2,x3,x4,x5,x6,x7,x8⟩:=blk9 B3.out.2
   clear b2
   go_wp2
   go_ret
   exact ⟨rfl,B3.out.1⟩
  ·skip
   go_wp2_with fail
   refine (H.out.1 _ B1.out.1).mono ?_
   rintro e w2 ⟨rfl,b2⟩
   have B2:=Lib.hid (And.intro (Below.step_trans B1.out.1 b2) (keep_blk b2 B1.out.2))
   obtain ⟨x0,x1,x2,x3,x4,x5,x6,x7,x8⟩:=blk9 B2.out.2
   clear b2
   go_wp2_with fail
   refine (H.out.2.1 _ B2.out.1).mono ?_
   rintro e w3 ⟨rfl,b2⟩
   have B3:=Lib.hid (And.intro (Below.step_trans B2.out.1 b2) (keep_blk b2 B2.out.2))
   obtain ⟨x0,x1,x2,x3,x4,x5,x6,x7,x8⟩:=blk9 B3.out.2
   clear b2
   go_wp2_with fail
   refine (H.out.2.2 _ B3.out.1).mono ?_
   rintro e w4 ⟨rfl,b2⟩
   have B4:=Lib.hid (And.intro (Below.step_trans B3.out.1 b2) (keep_blk b2 B3.out.2))
   obtain ⟨x0,x1,x2,x3,x4,x5,x6,x7,x8⟩:=blk9 B4.out.2
   clear b2
   go_wp2
   go_ret
   exact ⟨rfl,B4.out.1⟩
end Go.Proofs.YtbkfbobdmojgnaaGreatDoor
namespace Go.Proofs.YtbkfbobdmojgnaaGreatDoor.Ab
open Go.RowKit Go.Proofs.YtbkfbobdmojgnaaGreatDoor
variable {Kc:Value→Bool}
def Seg.noPtr:Seg Kc→Bool
 | .ptr .. | .slc .. => false
 | _=>true
def FV.noPtr:FV Kc→Bool
 | .sc s=>s.noPtr
 | .ag l | .nsl _ _ l=>l.all Seg.noPtr
 | .clo _ a b=>(a.all fun c=>c.2.all Seg.noPtr)&&(b.all fun c=>c.2.all Seg.noPtr)
 | .un=>true
def AV.noPtr:AV Kc→Bool
 | .fv f=>f.noPtr
 | .tup l=>l.all FV.noPtr
theorem Seg.noPtr_holds {s:Seg Kc} (h:s.noPtr=true) {β γ:List Nat} {cs:List Value} {w:World} (hs:s.holds β cs w):s.holds γ cs w:=by
 cases s <;> first|exact hs|cases h
theorem holdsL.noPtr {β γ:List Nat} {w:World}:∀ {l:List (Seg Kc)} {cs:List Value},l.all Seg.noPtr=true→holdsL β l cs w→holdsL γ l cs w
 | [],_,_,h=>h
 | s::l,_,hn,⟨a,b,e,h1,h2⟩=>by
   rw [List.all_cons,Bool.and_eq_true] at hn
   exact ⟨a,b,e,Seg.noPtr_holds hn.1 h1,holdsL.noPtr hn.2 h2⟩
theorem holdsC.noPtr {β γ:List Nat} {w:World}:∀ {l:List (Bool×List (Seg Kc))} {vs:List Value},(l.all fun c=>c.2.all Seg.noPtr)=true→holdsC β l vs w→holdsC γ l vs w
 | [],_,_,h=>h
 | (b,m)::l,_,hn,⟨v,r,e,h1,h2⟩=>by
   rw [List.all_cons,Bool.and_eq_true] at hn
   refine ⟨v,r,e,?_,holdsC.noPtr hn.2 h2⟩
   cases b with
   | true=>obtain ⟨cs,e,h1⟩:=h1;exact ⟨cs,e,h1.noPtr hn.1⟩
   | false=>exact holdsL.noPtr hn.1 h1
theorem FV.noPtr_holds {f:FV Kc} (h:f.noPtr=true) {β γ:List Nat} {v:Value} {w:World} (hs:f.holds β v w):f.holds γ v w:=by
 cases f with
 | sc s=>exact Seg.noPtr_holds h hs
 | ag l=>obtain ⟨cs,e,hl⟩:=hs;exact ⟨cs,e,hl.noPtr h⟩
 | nsl n T l=>obtain ⟨g,cs,e,hg,hl⟩:=hs;exact ⟨g,cs,e,hg,hl.noPtr h⟩
 | clo F a b =>
   rw [FV.noPtr,Bool.and_eq_true] at h
   obtain ⟨xs,ys,e,h1,h2⟩:=hs
   exact ⟨xs,ys,e,h1.noPtr h.1,h2.noPtr h.2⟩
 | un=>trivial
theorem holdsF.noPtr {β γ:List Nat} {w:World}:∀ {l:List (FV Kc)} {vs:List Value},l.all FV.noPtr=true→holdsF β l vs w→holdsF γ l vs w
 | [],_,_,h=>h
 | f::l,_,hn,⟨v,r,e,h1,h2⟩=>by
   rw [List.all_cons,Bool.and_eq_true] at hn
   exact ⟨v,r,e,FV.noPtr_holds hn.1 h1,holdsF.noPtr hn.2 h2⟩
theorem AV.noPtr_holds {x:AV Kc} (h:x.noPtr=true) {β γ:List Nat} {v:Value} {w:World} (hs:x.holds β v w):x.holds γ v w:=by
 cases x with
 | fv f=>exact FV.noPtr_holds h hs
 | tup l=>obtain ⟨vs,e,hl⟩:=hs;exact ⟨vs,e,hl.noPtr h⟩
def Fits (P:Program) (f:FuncId) (args:List (AV Kc)) (x:AV Kc):Prop :=
 ∀ β w vs,holdsA β args vs w→Calls P f vs.toArray w fun e w' => ∃ v,e = .returned v∧Below w.heap.size w w'∧x.holds β v w'
section
variable {P:Program} {f:FuncId} {w00:World} {Out:Value→World→Prop}
structure Ok (P:Program) (f:FuncId) (w00:World) (Out:Value→World→Prop) (c:Cfg Kc):Prop where
 good:Good P f w00 Out c
theorem Ok.go (hm:P.follows .mixedOrders=true) (hK:KOk Kc) (n:Nat) {c:Cfg Kc} (h:Ok P f w00 Out (runA P n c)):Ok P f w00 Out c:=⟨good_run hm hK n h.good⟩
theorem Ok.call {c:Cfg Kc} (fn:FuncId) (args:List (AV Kc)) {x:AV Kc} (h:Fits P fn args x) (hf:c.callee P=some fn) (ha:c.args P=args) (hx:c.okT x=true) (hfn:∀ (args:Array Value) (w:World),(callFunc fn args).run P w = .ok (.enter fn args) w)
 (hg:Ok P f w00 Out (c.give x)):Ok P f w00 Out c :=
 ⟨good_call fn x hf hx hfn (fun β w vs _ _ hv=>h β w vs (by rw [← ha];exact hv)) hg.good⟩
theorem Ok.op {c:Cfg Kc} (o:Oper) (x:AV Kc) (ho:c.op=some o) (hx:c.okT x=true)
 (h:∀ β ρ w,(c.canB=true→Below w00.heap.size w00 w)→Mem β c.mem w→(∀ y∈o.op.operands,(c.ev y).holds β (ρ y) w) →
  (∃ v w',(execOp ρ o).run P w = .ok (.value v) w'∧Below w.heap.size w w'∧x.holds β v w') ∨
  (∃ fn vs,(execOp ρ o).run P w = .ok (.enter fn vs) w∧Calls P fn vs w fun e w' => ∃ v,e = .returned v∧Below w.heap.size w w'∧x.holds β v w'))
 (hg:Ok P f w00 Out (c.give x)):Ok P f w00 Out c:=⟨good_op o x ho hx h hg.good⟩
def FitsW (P:Program) (I:World→Prop) (f:FuncId) (args:List (AV Kc)) (x:AV Kc):Prop :=
 ∀ β w vs,I w→holdsA β args vs w→Calls P f vs.toArray w fun e w' => ∃ v,e = .returned v∧Below w.heap.size w w'∧x.holds β v w'
theorem Ok.callW {I:World→Prop} {c:Cfg Kc} (hI:∀ w,Below w00.heap.size w00 w→I w) (fn:FuncId) (args:List (AV Kc)) {x:AV Kc} (h:FitsW P I fn args x) (hf:c.callee P=some fn) (ha:c.args P=args) (hx:c.okT x=true) (hro:c.canB=true) (hfn:∀ (args:Array Value) (w:World),(callFunc fn args).run P w = .ok (.enter fn args) w)
 (hg:Ok P f w00 Out (c.give x)):Ok P f w00 Out c :=
 ⟨good_call fn x hf hx hfn (fun β w vs hB _ hv=>h β w vs (hI w (hB hro)) (by rw [← ha];exact hv)) hg.good⟩
theorem Ok.callS {c:Cfg Kc} (fn:FuncId) (k n:Nat) (T:TypeId) (l:List (Seg Kc)) {x:AV Kc} (h:Fits P fn [.fv (.nsl n T l)] x) (hf:c.callee P=some fn) (ha:c.args P = [.fv (.sc (.slc k 0 n n))]) (hx:c.okT x=true) (hm:c.mem[k]?=some (some (T,l))) (hfn:∀ (args:Array Value) (w:World),(callFunc fn args).run P w = .ok (.enter fn args) w)
 (hg:Ok P f w00 Out (c.give x)):Ok P f w00 Out c :=
 ⟨good_call fn x hf hx hfn (fun β w vs _ hM hv=>by
  rw [ha] at hv
  obtain ⟨v,r,rfl,h1,h2⟩:=hv
  obtain ⟨g,hg,hv⟩:=hold_slc h1
  obtain ⟨g',cs,hg',hh,hl⟩:=hM k T l hm
  rw [hg] at hg'
  injection hg' with hg'
  subst hg'
  exact h β w _ ⟨v,r,rfl,⟨g,cs,hv,hh,hl⟩,h2⟩) hg.good⟩
theorem fitsW_of {I:World→Prop} {fn:Func} {args:List (AV Kc)} {x:AV Kc} (hfn:P.funcs[f]?=some fn) (hb:fn.body.isSome=true) (hn:(args.length≤fn.ntmps:Bool)=true) (hx:x.noPtr=true) (ha:args.all AV.noPtr=true)
 (h:∀ w00,I w00→Ok P f w00 (fun v w=>x.holds [] v w) (.items [.code (fn.body.getD .skip)] { slots:=args++List.replicate (fn.ntmps-args.length) .un,blocks := [],ro:=0 })):FitsW P I f args x:=by
 intro β w vs hI hv
 have hv' : holdsA [] args vs w:=by
  have key:∀ {l:List (AV Kc)} {us:List Value},l.all AV.noPtr=true→holdsA β l us w→holdsA [] l us w:=fun {l}=>by
   induction l with
   | nil=>intro us _ h;exact h
   | cons y l ih =>
     rintro us hn ⟨v,r,e,h1,h2⟩
     rw [List.all_cons,Bool.and_eq_true] at hn
     exact ⟨v,r,e,AV.noPtr_holds hn.1 h1,ih hn.2 h2⟩
  exact key ha hv
 have hb2:fn.body=some (fn.body.getD .skip):=by
  cases hb2:fn.body with
  | none=>rw [hb2] at hb;cases hb
  | some c=>rfl
 refine (calls_of_good (w00:=w) (Out:=fun v w=>x.holds [] v w) hfn hb2 args [] [] vs (fn.ntmps-args.length) (by simp at hn;omega) hv' rfl (by simp) (fun k T l hk=>by simp at hk) (by simp) (h w hI).good).mono ?_
 rintro e w' ⟨v,rfl,hb,ho⟩
 exact ⟨v,rfl,hb,AV.noPtr_holds hx ho⟩
theorem fitsS_of {fn:Func} {n:Nat} {T:TypeId} {l:List (Seg Kc)} {x:AV Kc} (hfn:P.funcs[f]?=some fn) (hb:fn.body.isSome=true) (hn:(1≤fn.ntmps:Bool)=true) (hx:x.noPtr=true) (hl:l.all Seg.noPtr=true)
 (h:∀ w00,Ok P f w00 (fun v w=>x.holds [] v w) (.items [.code (fn.body.getD .skip)] { slots := [.fv (.sc (.slc 0 0 n n))]++List.replicate (fn.ntmps-1) .un,blocks := [(T,l)],ro:=1 })):Fits P f [.fv (.nsl n T l)] x:=by
 rintro β w vs ⟨v,r,rfl,⟨g,cs,rfl,hg,hcs⟩,h2⟩
 rw [show r = [] from h2]
 have hb2:fn.body=some (fn.body.getD .skip):=by
  cases hb2:fn.body with
  | none=>rw [hb2] at hb;cases hb
  | some c=>rfl
 refine (calls_of_good (w00:=w) (Out:=fun v w=>x.holds [] v w) hfn hb2 [.fv (.sc (.slc 0 0 n n))] [(T,l)] [g] [.slice (some ⟨g,0,none⟩) n n] (fn.ntmps-1) (by simp at hn;simp;omega) ⟨_,[],rfl,⟨g,rfl,rfl⟩,rfl⟩ rfl (by simp)
  (fun k T' l' hk=>?_) (by simp;exact lt_of_block hg) (h w).good).mono ?_
 ·match k,hk with
  | 0,hk =>
    simp at hk
    obtain ⟨rfl,rfl⟩:=hk
    exact ⟨g,cs,rfl,hg,hcs.noPtr hl⟩
 ·rintro e w' ⟨v,rfl,hb,ho⟩
  exact ⟨v,rfl,hb,AV.noPtr_holds hx ho⟩
theorem fits_of {fn:Func} {code:Code} {args:List (AV Kc)} {x:AV Kc} (hfn:P.funcs[f]?=some fn) (hb:fn.body=some code) (n:Nat) (hn:fn.ntmps=args.length+n) (hx:x.noPtr=true) (ha:args.all AV.noPtr=true)
 (h:∀ w00,Good P f w00 (fun v w=>x.holds [] v w) (.items [.code code] { slots:=args++List.replicate n .un,blocks := [],ro:=0 })):Fits P f args x:=by
 intro β w vs hv
 have hv' : holdsA [] args vs w:=by
  have key:∀ {l:List (AV Kc)} {us:List Value},l.all AV.noPtr=true→holdsA β l us w→holdsA [] l us w:=fun {l}=>by
   induction l with
   | nil=>intro us _ h;exact h
   | cons y l ih =>
     rintro us hn ⟨v,r,e,h1,h2⟩
     rw [List.all_cons,Bool.and_eq_true] at hn
     exact ⟨v,r,e,AV.noPtr_holds hn.1 h1,ih hn.2 h2⟩
  exact key ha hv
 refine (calls_of_good (w00:=w) (Out:=fun v w=>x.holds [] v w) hfn hb args [] [] vs n hn hv' rfl (by simp) (fun k T l hk=>by simp at hk) (by simp) (h w)).mono ?_
 rintro e w' ⟨v,rfl,hb,ho⟩
 exact ⟨v,rfl,hb,AV.noPtr_holds hx ho⟩
abbrev startA (fn:Func) (args:List (AV Kc)):Cfg Kc := .items [.code (fn.body.getD .skip)] { slots:=args++List.replicate (fn.ntmps-args.length) .un,blocks := [],ro:=0 }
theorem fits_go {fn:Func} {args:List (AV Kc)} {x:AV Kc} (hfn:P.funcs[f]?=some fn) (hb:fn.body.isSome=true) (hn:(args.length≤fn.ntmps:Bool)=true) (hx:x.noPtr=true) (ha:args.all AV.noPtr=true)
 (h:∀ w00,Ok P f w00 (fun v w=>x.holds [] v w) (startA fn args)):Fits P f args x:=by
 refine fits_of hfn (code:=fn.body.getD .skip) ?_ (fn.ntmps-args.length) ?_ hx ha (fun w00=>(h w00).good)
 ·cases hb2:fn.body with
  | none=>rw [hb2] at hb;cases hb
  | some c=>rfl
 ·simp at hn
  omega
theorem Ok.ret {c:Cfg Kc} {fn:Func} {x:AV Kc} (hfn:P.funcs[f]?=some fn) (hx:x.noPtr=true) (hr:c.res P fn=some x):Ok P f w00 (fun v w=>x.holds [] v w) c :=
 ⟨good_ret hfn x hr (fun _ _ _ h=>AV.noPtr_holds hx h)⟩
end
theorem kn_ok:KOk Kn:=⟨fun _=>rfl,fun _ _ _=>rfl⟩
def csNb (q:Rat):CS Kn where
 size:=3
 cold:=true
 pred cs w:=Nb w (.agg cs.toArray) q
 stable cs w w' h hx:=Nb.ext (K:=Kn) (fun _=>rfl) (fun _=>rfl) h hx
 len cs w h:=by
  obtain ⟨n,d,p,e⟩:=Nb.form h
  injection e with e
  have:=congrArg Array.toList e
  simp at this
  rw [this];rfl
 one cs w h:=by
  obtain ⟨n,d,p,e⟩:=Nb.form h
  injection e with e
  have:=congrArg Array.toList e
  simp at this
  rw [this]
  intro c hc
  simp at hc
  rcases hc with rfl|rfl|rfl <;> rfl
 iscold _ cs w h:=by
  obtain ⟨n,d,p,e⟩:=Nb.form h
  injection e with e
  have:=congrArg Array.toList e
  simp at this
  rw [this]
  intro c hc
  simp at hc
  rcases hc with rfl|rfl|rfl <;> rfl
abbrev nb (q:Rat):Seg Kn := .sp (csNb q)
abbrev num (q:Rat):AV Kn := .fv (.ag [nb q])
abbrev vc (a b c:Rat):AV Kn := .fv (.ag [nb a,nb b,nb c])
theorem num_holds {β:List Nat} {v:Value} {w:World} {q:Rat}:(num q).holds β v w↔Nb w v q:=by
 constructor
 ·rintro ⟨cs,rfl,h⟩
  exact holdsL_one h
 ·intro h
  obtain ⟨n,d,p,rfl⟩:=Nb.form h
  exact ⟨[.int .i64 n,.int .i64 d,.pointer p],rfl,_,[],rfl,h,rfl⟩
theorem vc_holds {β:List Nat} {v:Value} {w:World} {a b c:Rat}:(vc a b c).holds β v w↔Vc w v a b c:=by
 constructor
 ·rintro ⟨cs,rfl,x1,r1,rfl,h1,x2,r2,rfl,h2,x3,r3,rfl,h3,e⟩
  rw [show r3 = [] from e]
  obtain ⟨n1,d1,p1,e1⟩:=Nb.form h1
  obtain ⟨n2,d2,p2,e2⟩:=Nb.form h2
  obtain ⟨n3,d3,p3,e3⟩:=Nb.form h3
  injection e1 with e1
  injection e2 with e2
  injection e3 with e3
  have e1:=congrArg Array.toList e1
  have e2:=congrArg Array.toList e2
  have e3:=congrArg Array.toList e3
  simp at e1 e2 e3
  subst e1
  subst e2
  subst e3
  exact ⟨n1,d1,p1,n2,d2,p2,n3,d3,p3,rfl,h1,h2,h3⟩
 ·rintro ⟨n1,d1,p1,n2,d2,p2,n3,d3,p3,rfl,h1,h2,h3⟩
  exact ⟨[.int .i64 n1,.int .i64 d1,.pointer p1,.int .i64 n2,.int .i64 d2,.pointer p2,.int .i64 n3,.int .i64 d3,.pointer p3],rfl,
   [.int .i64 n1,.int .i64 d1,.pointer p1],_,rfl,h1,[.int .i64 n2,.int .i64 d2,.pointer p2],_,rfl,h2,[.int .i64 n3,.int .i64 d3,.pointer p3],[],rfl,h3,rfl⟩
theorem args1 {β:List Nat} {w:World} {x:AV Kc} {vs:List Value} (h:holdsA β [x] vs w):∃ v,vs = [v]∧x.holds β v w:=by
 obtain ⟨v,r,rfl,h1,h2⟩:=h
 exact ⟨v,by rw [show r = [] from h2],h1⟩
theorem args2 {β:List Nat} {w:World} {x y:AV Kc} {vs:List Value} (h:holdsA β [x,y] vs w):∃ v u,vs = [v,u]∧x.holds β v w∧y.holds β u w:=by
 obtain ⟨v,r,rfl,h1,h2⟩:=h
 obtain ⟨u,rfl,h3⟩:=args1 h2
 exact ⟨v,u,rfl,h1,h3⟩
theorem fits_nb1 {P:Program} {f:FuncId} {p r:Rat} (h:∀ v w,Nb w v p→Calls P f #[v] w (GivesNb w r)):Fits P f [num p] (num r):=by
 intro β w vs hv
 obtain ⟨v,rfl,h1⟩:=args1 hv
 exact (h v w (num_holds.1 h1)).mono fun e w' ⟨u,e,h1,h2⟩=>⟨u,e,h2,num_holds.2 h1⟩
theorem fits_nb2 {P:Program} {f:FuncId} {p q r:Rat} (h:∀ v v' w,Nb w v p→Nb w v' q→Calls P f #[v,v'] w (GivesNb w r)):Fits P f [num p,num q] (num r):=by
 intro β w vs hv
 obtain ⟨v,u,rfl,h1,h2⟩:=args2 hv
 exact (h v u w (num_holds.1 h1) (num_holds.1 h2)).mono fun e w' ⟨u,e,h1,h2⟩=>⟨u,e,h2,num_holds.2 h1⟩
theorem kgo {f:FuncId} {fn:Func} {args:List (AV Kn)} {x:AV Kn} (hfn:Tryz.prog.funcs[f]?=some fn) (hc:(fn.body.isSome,decide (args.length≤fn.ntmps),x.noPtr,args.all AV.noPtr)=(true,true,true,true))
 (h:∀ w00,Ok Tryz.prog f w00 (fun v w=>x.holds [] v w) (runA Tryz.prog 1000 (startA fn args))):Fits Tryz.prog f args x:=by
 simp only [Prod.mk.injEq] at hc
 exact fits_go hfn hc.1 hc.2.1 hc.2.2.1 hc.2.2.2 fun w00=>Ok.go (by kernel_rfl) kn_ok 1000 (h w00)
theorem kgoW {I:World→Prop} {f:FuncId} {fn:Func} {args:List (AV Kn)} {x:AV Kn} (hfn:Tryz.prog.funcs[f]?=some fn) (hc:(fn.body.isSome,decide (args.length≤fn.ntmps),x.noPtr,args.all AV.noPtr)=(true,true,true,true))
 (h:∀ w00,I w00→Ok Tryz.prog f w00 (fun v w=>x.holds [] v w) (runA Tryz.prog 1000 (startA fn args))):FitsW Tryz.prog I f args x:=by
 simp only [Prod.mk.injEq] at hc
 exact fitsW_of hfn hc.1 hc.2.1 hc.2.2.1 hc.2.2.2 fun w00 hI=>Ok.go (by kernel_rfl) kn_ok 1000 (h w00 hI)
theorem kgoS {f:FuncId} {fn:Func} {n:Nat} {T:TypeId} {l:List (Seg Kn)} {x:AV Kn} (hfn:Tryz.prog.funcs[f]?=some fn) (hc:(fn.body.isSome,decide (1≤fn.ntmps),x.noPtr,l.all Seg.noPtr)=(true,true,true,true))
 (h:∀ w00,Ok Tryz.prog f w00 (fun v w=>x.holds [] v w) (runA Tryz.prog 1000 (.items [.code (fn.body.getD .skip)] { slots := [.fv (.sc (.slc 0 0 n n))]++List.replicate (fn.ntmps-1) .un,blocks := [(T,l)],ro:=1 }))):Fits Tryz.prog f [.fv (.nsl n T l)] x:=by
 simp only [Prod.mk.injEq] at hc
 exact fitsS_of hfn hc.1 hc.2.1 hc.2.2.1 hc.2.2.2 fun w00=>Ok.go (by kernel_rfl) kn_ok 1000 (h w00)
section
variable {f:FuncId} {w00:World} {Out:Value→World→Prop}
theorem kcall {c:Cfg Kn} (fn:FuncId) (args:List (AV Kn)) {x:AV Kn} (h:Fits Tryz.prog fn args x) (hc:(c.callee Tryz.prog,c.args Tryz.prog,c.okT x)=(some fn,args,true)) (hfn:∀ (args:Array Value) (w:World),(callFunc fn args).run Tryz.prog w = .ok (.enter fn args) w)
 (hg:Ok Tryz.prog f w00 Out (runA Tryz.prog 1000 (c.give x))):Ok Tryz.prog f w00 Out c:=by
 simp only [Prod.mk.injEq] at hc
 exact Ok.call fn args h hc.1 hc.2.1 hc.2.2 hfn (Ok.go (by kernel_rfl) kn_ok 1000 hg)
theorem kcallW {I:World→Prop} {c:Cfg Kn} (hI:∀ w,Below w00.heap.size w00 w→I w) (fn:FuncId) (args:List (AV Kn)) {x:AV Kn} (h:FitsW Tryz.prog I fn args x) (hc:(c.callee Tryz.prog,c.args Tryz.prog,c.okT x,c.canB)=(some fn,args,true,true)) (hfn:∀ (args:Array Value) (w:World),(callFunc fn args).run Tryz.prog w = .ok (.enter fn args) w)
 (hg:Ok Tryz.prog f w00 Out (runA Tryz.prog 1000 (c.give x))):Ok Tryz.prog f w00 Out c:=by
 simp only [Prod.mk.injEq] at hc
 exact Ok.callW hI fn args h hc.1 hc.2.1 hc.2.2.1 hc.2.2.2 hfn (Ok.go (by kernel_rfl) kn_ok 1000 hg)
theorem kcallS {c:Cfg Kn} (fn:FuncId) (k n:Nat) (T:TypeId) (l:List (Seg Kn)) {x:AV Kn} (h:Fits Tryz.prog fn [.fv (.nsl n T l)] x) (hc:(c.callee Tryz.prog,c.args Tryz.prog,c.okT x,c.mem[k]?)=(some fn,[.fv (.sc (.slc k 0 n n))],true,some (some (T,l)))) (hfn:∀ (args:Array Value) (w:World),(callFunc fn args).run Tryz.prog w = .ok (.enter fn args) w)
 (hg:Ok Tryz.prog f w00 Out (runA Tryz.prog 1000 (c.give x))):Ok Tryz.prog f w00 Out c:=by
 simp only [Prod.mk.injEq] at hc
 exact Ok.callS fn k n T l h hc.1 hc.2.1 hc.2.2.1 hc.2.2.2 hfn (Ok.go (by kernel_rfl) kn_ok 1000 hg)
theorem kop2 {c:Cfg Kn} (op:Op) (x y:Operand) (X Y r:AV Kn) (hc:(c.op.map fun o=>o.op,c.okT r,c.ev x,c.ev y)=(some op,true,X,Y)) (hx:x∈op.operands) (hy:y∈op.operands)
 (h:∀ (ρ:Operand→Value) (o:Oper) (β:List Nat) (w:World),o.op=op→X.holds β (ρ x) w→Y.holds β (ρ y) w→∃ v,(execOp ρ o).run Tryz.prog w = .ok (.value v) w∧r.holds β v w)
 (hg:Ok Tryz.prog f w00 Out (runA Tryz.prog 1000 (c.give r))):Ok Tryz.prog f w00 Out c:=by
 simp only [Prod.mk.injEq] at hc
 obtain ⟨h1,h2,h3,h4⟩:=hc
 rw [Option.map_eq_some_iff] at h1
 obtain ⟨o,ho,ho2⟩:=h1
 refine Ok.op o r ho h2 (fun β ρ w _ _ hs => .inl ?_) (Ok.go (by kernel_rfl) kn_ok 1000 hg)
 obtain ⟨v,e,hv⟩:=h ρ o β w ho2 (by rw [← h3];exact hs x (by rw [ho2];exact hx)) (by rw [← h4];exact hs y (by rw [ho2];exact hy))
 exact ⟨v,w,e,Below.refl _ _,hv⟩
theorem kret {c:Cfg Kn} {fn:Func} {x:AV Kn} (hfn:Tryz.prog.funcs[f]?=some fn) (hc:(x.noPtr,c.res Tryz.prog fn)=(true,some x)):Ok Tryz.prog f w00 (fun v w=>x.holds [] v w) c:=by
 simp only [Prod.mk.injEq] at hc
 exact Ok.ret hfn hc.1 hc.2
end
theorem plusF {p q:Rat} (hp:Lf 36 p) (hq:Lf 36 q):Fits Tryz.prog 104 [num p,num q] (num (p+q)):=fits_nb2 fun v v' w h h'=>plus_nb v v' p q w h h' hp hq
theorem minusF {p q:Rat} (hp:Lf 36 p) (hq:Lf 36 q):Fits Tryz.prog 128 [num p,num q] (num (p-q)):=fits_nb2 fun v v' w h h'=>minus_nb v v' p q w h h' hp hq
theorem timesF {p q:Rat} (hp:Lf 38 p) (hq:Lf 38 q):Fits Tryz.prog 127 [num p,num q] (num (p*q)):=fits_nb2 fun v v' w h h'=>times_nb v v' p q w h h' hp hq
theorem overF {p q:Rat} (hp:Lf 38 p) (hq:Lf 38 q) (h0:q≠0):Fits Tryz.prog 78 [num p,num q] (num (p/q)):=fits_nb2 fun v v' w h h'=>over_nb v v' p q w h h' hp hq h0
theorem negatedF {p:Rat}:Fits Tryz.prog 106 [num p] (num (-p)):=fits_nb1 fun v w h=>negated_nb v p w h
abbrev bl (b:Bool):AV Kn := .fv (.sc (.lit (.bool b)))
abbrev it (n:Int):AV Kn := .fv (.sc (.lit (.int .i64 n)))
theorem isZeroF {p:Rat} {b:Bool} (h:decide (p=0)=b):Fits Tryz.prog 94 [num p] (bl b):=by
 intro β w vs hv
 obtain ⟨v,rfl,h1⟩:=args1 hv
 refine (isZero_nb v p w (num_holds.1 h1)).mono fun e w' ⟨e1,h2⟩=>⟨_,e1,h2,?_⟩
 rw [h]
 exact ⟨rfl,rfl⟩
theorem signF {p:Rat}:Fits Tryz.prog 87 [num p] (it (sgnR p)):=by
 intro β w vs hv
 obtain ⟨v,rfl,h1⟩:=args1 hv
 exact (sign_nb v p w (num_holds.1 h1)).mono fun e w' ⟨e1,h2⟩=>⟨_,e1,h2,rfl,rfl⟩
theorem Lf.addn {n:Nat} {p q:Rat} (hp:Lf (n-2) p) (hq:Lf (n-2) q) (hn:2≤n):Lf n (p+q):=(Lf.add hp hq).mono (by omega)
theorem Lf.subn {n:Nat} {p q:Rat} (hp:Lf (n-2) p) (hq:Lf (n-2) q) (hn:2≤n):Lf n (p-q):=by
 rw [Rat.sub_eq_add_neg]
 exact Lf.addn hp hq.neg hn
theorem Lf.muln {n:Nat} {p q:Rat} (hp:Lf (n-1) p) (hq:Lf (n-1) q) (hn:1≤n):Lf n (p*q):=(Lf.mul hp hq).mono (by omega)
end Go.Proofs.YtbkfbobdmojgnaaGreatDoor.Ab
namespace Go.Proofs.YtbkfbobdmojgnaaGreatDoor.Ab
open Go.RowKit Go.Proofs.YtbkfbobdmojgnaaGreatDoor
abbrev fnv (F:FuncId):AV Kn := .fv (.sc (.lit (.func (.func F) #[] #[])))
abbrev Enters (F:FuncId):Prop := ∀ (args:Array Value) (w:World),(callFunc F args).run Tryz.prog w = .ok (.enter F args) w
theorem joinF {F:FuncId} {a1 a2 a3 b1 b2 b3 r1 r2 r3:Rat} (hF:Enters F) (h1:Fits Tryz.prog F [num a1,num b1] (num r1)) (h2:Fits Tryz.prog F [num a2,num b2] (num r2)) (h3:Fits Tryz.prog F [num a3,num b3] (num r3)) :
 Fits Tryz.prog 102 [fnv F,vc a1 a2 a3,vc b1 b2 b3] (vc r1 r2 r3):=by
 refine kgo Tryz.func102 (by kernel_rfl) fun w00=>?_
 refine kcall F [num a1,num b1] (h1) (by kernel_rfl) (hF) ?_
 refine kcall F [num a2,num b2] (h2) (by kernel_rfl) (hF) ?_
 refine kcall F [num a3,num b3] (h3) (by kernel_rfl) (hF) ?_
 exact kret Tryz.func102 (by kernel_rfl)
abbrev cloN (F:FuncId) (c:Rat):AV Kn := .fv (.clo F [(true,[nb c])] [])
theorem eachC {F:FuncId} {c a1 a2 a3 r1 r2 r3:Rat} (hF:Enters F) (h1:Fits Tryz.prog F [num c,num a1] (num r1)) (h2:Fits Tryz.prog F [num c,num a2] (num r2)) (h3:Fits Tryz.prog F [num c,num a3] (num r3)) :
 Fits Tryz.prog 150 [cloN F c,vc a1 a2 a3] (vc r1 r2 r3):=by
 refine kgo Tryz.func150 (by kernel_rfl) fun w00=>?_
 refine kcall F [num c,num a1] (h1) (by kernel_rfl) (hF) ?_
 refine kcall F [num c,num a2] (h2) (by kernel_rfl) (hF) ?_
 refine kcall F [num c,num a3] (h3) (by kernel_rfl) (hF) ?_
 exact kret Tryz.func150 (by kernel_rfl)
abbrev iv (a b c:Int):AV Kn := .fv (.ag [.lit (.int .i64 a),.lit (.int .i64 b),.lit (.int .i64 c)])
theorem integerF {n:Int} (hn:-9223372036854775808≤n∧n≤9223372036854775807):Fits Tryz.prog 93 [it n] (num (n:Rat)):=by
 intro β w vs hv
 obtain ⟨v,rfl,h1⟩:=args1 hv
 rw [hold_lit h1]
 exact (integer_any n w hn.1 hn.2).mono fun e w' ⟨u,e,h1,h2⟩=>⟨u,e,h2,num_holds.2 h1⟩
theorem eachI {F:FuncId} {a1 a2 a3:Int} {r1 r2 r3:Rat} (hF:Enters F) (h1:Fits Tryz.prog F [it a1] (num r1)) (h2:Fits Tryz.prog F [it a2] (num r2)) (h3:Fits Tryz.prog F [it a3] (num r3)) :
 Fits Tryz.prog 168 [fnv F,iv a1 a2 a3] (vc r1 r2 r3):=by
 refine kgo Tryz.func168 (by kernel_rfl) fun w00=>?_
 refine kcall F [it a1] (h1) (by kernel_rfl) (hF) ?_
 refine kcall F [it a2] (h2) (by kernel_rfl) (hF) ?_
 refine kcall F [it a3] (h3) (by kernel_rfl) (hF) ?_
 exact kret Tryz.func168 (by kernel_rfl)
abbrev M64 (n:Int):Prop := -9223372036854775808≤n∧n≤9223372036854775807
theorem integersF {a b c:Int} (ha:M64 a) (hb:M64 b) (hc:M64 c):Fits Tryz.prog 109 [iv a b c] (vc a b c):=by
 refine kgo Tryz.func109 (by kernel_rfl) fun w00=>?_
 refine kcall 168 [fnv 93,iv a b c] (eachI Tryz.call93 (integerF ha) (integerF hb) (integerF hc)) (by kernel_rfl) Tryz.call168 ?_
 exact kret Tryz.func109 (by kernel_rfl)
theorem Fits.args {P:Program} {f:FuncId} {l l' : List (AV Kn)} {x:AV Kn} (h:Fits P f l x) (hl:∀ β vs w,holdsA β l' vs w→holdsA β l vs w):Fits P f l' x:=fun β w vs hv=>h β w vs (hl β vs w hv)
abbrev zeroN:AV Kn := .fv (.ag [.lit (.int .i64 0),.lit (.int .i64 0),.lit (.pointer none)])
theorem zero_num {β:List Nat} {v:Value} {w:World} (h:zeroN.holds β v w):(num 0).holds β v w:=by
 obtain ⟨cs,rfl,a,r,rfl,⟨rfl,_⟩,b,r2,rfl,⟨rfl,_⟩,c,r3,rfl,⟨rfl,_⟩,e⟩:=h
 rw [show r3 = [] from e]
 exact num_holds.2 (.inl ⟨sm_zero,rfl⟩)
section
variable {a1 a2 a3 b1 b2 b3 c:Rat}
theorem vplusF (h1:Lf 36 a1) (h2:Lf 36 a2) (h3:Lf 36 a3) (k1:Lf 36 b1) (k2:Lf 36 b2) (k3:Lf 36 b3):Fits Tryz.prog 91 [vc a1 a2 a3,vc b1 b2 b3] (vc (a1+b1) (a2+b2) (a3+b3)):=by
 refine kgo Tryz.func91 (by kernel_rfl) fun w00=>?_
 refine kcall 102 [fnv 104,vc a1 a2 a3,vc b1 b2 b3] (joinF Tryz.call104 (plusF h1 k1) (plusF h2 k2) (plusF h3 k3)) (by kernel_rfl) Tryz.call102 ?_
 exact kret Tryz.func91 (by kernel_rfl)
theorem vminusF (h1:Lf 36 a1) (h2:Lf 36 a2) (h3:Lf 36 a3) (k1:Lf 36 b1) (k2:Lf 36 b2) (k3:Lf 36 b3):Fits Tryz.prog 80 [vc a1 a2 a3,vc b1 b2 b3] (vc (a1-b1) (a2-b2) (a3-b3)):=by
 refine kgo Tryz.func80 (by kernel_rfl) fun w00=>?_
 refine kcall 102 [fnv 128,vc a1 a2 a3,vc b1 b2 b3] (joinF Tryz.call128 (minusF h1 k1) (minusF h2 k2) (minusF h3 k3)) (by kernel_rfl) Tryz.call102 ?_
 exact kret Tryz.func80 (by kernel_rfl)
theorem scaledF (hc:Lf 38 c) (h1:Lf 38 a1) (h2:Lf 38 a2) (h3:Lf 38 a3):Fits Tryz.prog 75 [vc a1 a2 a3,num c] (vc (c*a1) (c*a2) (c*a3)):=by
 refine kgo Tryz.func75 (by kernel_rfl) fun w00=>?_
 refine kcall 150 [cloN 127 c,vc a1 a2 a3] (eachC Tryz.call127 (timesF hc h1) (timesF hc h2) (timesF hc h3)) (by kernel_rfl) Tryz.call150 ?_
 exact kret Tryz.func75 (by kernel_rfl)
theorem totalF {T:TypeId} (h1:Lf 32 a1) (h2:Lf 32 a2) (h3:Lf 32 a3):Fits Tryz.prog 129 [.fv (.nsl 3 T [nb a1,nb a2,nb a3])] (num (a1+a2+a3)):=by
 refine kgoS Tryz.func129 (by kernel_rfl) fun w00=>?_
 refine kcall 104 [zeroN,num a1] (Fits.args (plusF (p:=0) (q:=a1) (Lf.zero _) (h1.mono (by decide))) (fun β vs w ⟨v,r,e,k1,k2⟩=>⟨v,r,e,zero_num k1,k2⟩)) (by kernel_rfl) Tryz.call104 ?_
 refine kcall 104 [num (0+a1),num a2] (plusF ((Lf.addn (n:=34) (Lf.zero _) h1 (by decide)).mono (by decide)) (h2.mono (by decide))) (by kernel_rfl) Tryz.call104 ?_
 refine kcall 104 [num (0+a1+a2),num a3] (plusF (Lf.addn (n:=36) (Lf.addn (n:=34) (Lf.zero _) h1 (by decide)) (h2.mono (by decide)) (by decide)) (h3.mono (by decide))) (by kernel_rfl) Tryz.call104 ?_
 rw [show a1+a2+a3=0+a1+a2+a3 by rw [Rat.zero_add]]
 exact kret Tryz.func129 (by kernel_rfl)
theorem crossF (h1:Lf 35 a1) (h2:Lf 35 a2) (h3:Lf 35 a3) (k1:Lf 35 b1) (k2:Lf 35 b2) (k3:Lf 35 b3) :
 Fits Tryz.prog 58 [vc a1 a2 a3,vc b1 b2 b3] (vc (a2*b3-a3*b2) (a3*b1-a1*b3) (a1*b2-a2*b1)):=by
 refine kgo Tryz.func58 (by kernel_rfl) fun w00=>?_
 refine kcall 127 [num a2,num b3] (timesF (h2.mono (by decide)) (k3.mono (by decide))) (by kernel_rfl) Tryz.call127 ?_
 refine kcall 127 [num a3,num b2] (timesF (h3.mono (by decide)) (k2.mono (by decide))) (by kernel_rfl) Tryz.call127 ?_
 refine kcall 128 [num (a2*b3),num (a3*b2)] (minusF (h2.mul k3) (h3.mul k2)) (by kernel_rfl) Tryz.call128 ?_
 refine kcall 127 [num a3,num b1] (timesF (h3.mono (by decide)) (k1.mono (by decide))) (by kernel_rfl) Tryz.call127 ?_
 refine kcall 127 [num a1,num b3] (timesF (h1.mono (by decide)) (k3.mono (by decide))) (by kernel_rfl) Tryz.call127 ?_
 refine kcall 128 [num (a3*b1),num (a1*b3)] (minusF (h3.mul k1) (h1.mul k3)) (by kernel_rfl) Tryz.call128 ?_
 refine kcall 127 [num a1,num b2] (timesF (h1.mono (by decide)) (k2.mono (by decide))) (by kernel_rfl) Tryz.call127 ?_
 refine kcall 127 [num a2,num b1] (timesF (h2.mono (by decide)) (k1.mono (by decide))) (by kernel_rfl) Tryz.call127 ?_
 refine kcall 128 [num (a1*b2),num (a2*b1)] (minusF (h1.mul k2) (h2.mul k1)) (by kernel_rfl) Tryz.call128 ?_
 exact kret Tryz.func58 (by kernel_rfl)
theorem dotF (h1:Lf 31 a1) (h2:Lf 31 a2) (h3:Lf 31 a3) (k1:Lf 31 b1) (k2:Lf 31 b2) (k3:Lf 31 b3):Fits Tryz.prog 61 [vc a1 a2 a3,vc b1 b2 b3] (num (a1*b1+a2*b2+a3*b3)):=by
 refine kgo Tryz.func61 (by kernel_rfl) fun w00=>?_
 refine kcall 102 [fnv 127,vc a1 a2 a3,vc b1 b2 b3] (joinF Tryz.call127 (timesF (h1.mono (by decide)) (k1.mono (by decide))) (timesF (h2.mono (by decide)) (k2.mono (by decide))) (timesF (h3.mono (by decide)) (k3.mono (by decide)))) (by kernel_rfl) Tryz.call102 ?_
 refine kcallS 129 3 3 91 [nb (a1*b1),nb (a2*b2),nb (a3*b3)] (totalF (h1.mul k1) (h2.mul k2) (h3.mul k3)) (by kernel_rfl) Tryz.call129 ?_
 exact kret Tryz.func61 (by kernel_rfl)
theorem squareF (h1:Lf 31 a1) (h2:Lf 31 a2) (h3:Lf 31 a3):Fits Tryz.prog 63 [vc a1 a2 a3] (num (a1*a1+a2*a2+a3*a3)):=by
 refine kgo Tryz.func63 (by kernel_rfl) fun w00=>?_
 refine kcall 61 [vc a1 a2 a3,vc a1 a2 a3] (dotF h1 h2 h3 h1 h2 h3) (by kernel_rfl) Tryz.call61 ?_
 exact kret Tryz.func63 (by kernel_rfl)
theorem vIsZeroF {z:Bool} (h:(decide (a1=0)&&decide (a2=0)&&decide (a3=0))=z):Fits Tryz.prog 77 [vc a1 a2 a3] (bl z):=by
 intro β w vs hv
 obtain ⟨v,rfl,h1⟩:=args1 hv
 refine (isZero_vc v a1 a2 a3 w (vc_holds.1 h1)).mono fun e w' ⟨e1,h2⟩=>⟨_,e1,h2,?_⟩
 rw [h]
 exact ⟨rfl,rfl⟩
end
end Go.Proofs.YtbkfbobdmojgnaaGreatDoor.Ab
namespace Go.Proofs.YtbkfbobdmojgnaaGreatDoor.Ab
open Go.RowKit Go.Proofs.YtbkfbobdmojgnaaGreatDoor Pl
def csNt (a:Nat):CS Kn where
 size:=1
 cold:=true
 pred cs w := ∃ v,cs = [v]∧Nt w v a
 stable:=fun cs w w' ⟨v,e,h⟩ hx=>⟨v,e,Nt.ext (K:=Kn) (fun _=>rfl) h hx⟩
 len:=fun cs w ⟨v,e,h⟩=>by rw [e];rfl
 one:=fun cs w ⟨v,e,h⟩=>by
  obtain ⟨A,n,c,rfl⟩:=Nt.form h
  rw [e]
  intro c hc
  rw [List.mem_singleton] at hc
  subst hc
  rfl
 iscold:=fun _ cs w ⟨v,e,h⟩=>by
  obtain ⟨A,n,c,rfl⟩:=Nt.form h
  rw [e]
  intro c hc
  rw [List.mem_singleton] at hc
  subst hc
  rfl
abbrev nts (a:Nat):Seg Kn := .sp (csNt a)
abbrev nt (a:Nat):AV Kn := .fv (.sc (nts a))
theorem nt_holds {β:List Nat} {v:Value} {w:World} {a:Nat}:(nt a).holds β v w↔Nt w v a :=
 ⟨fun ⟨u,e,h⟩=>by injection e with e;rw [e];exact h,fun h=>⟨v,rfl,h⟩⟩
abbrev frv (neg:Bool) (n d:Nat):AV Kn := .fv (.ag [.lit (.bool neg),nts n,nts d])
abbrev fra (q:Rat):AV Kn:=frv (decide (q.num<0)) q.num.natAbs q.den
theorem frv_holds {β:List Nat} {v:Value} {w:World} {neg:Bool} {n d:Nat}:(frv neg n d).holds β v w↔∃ s1 s2,v = .agg #[.bool neg,s1,s2]∧Nt w s1 n∧Nt w s2 d:=by
 constructor
 ·rintro ⟨cs,rfl,a,r,rfl,⟨rfl,_⟩,b,r2,rfl,⟨s1,rfl,h1⟩,c,r3,rfl,⟨s2,rfl,h2⟩,e⟩
  rw [show r3 = [] from e]
  exact ⟨s1,s2,rfl,h1,h2⟩
 ·rintro ⟨s1,s2,rfl,h1,h2⟩
  exact ⟨[.bool neg,s1,s2],rfl,[.bool neg],_,rfl,⟨rfl,rfl⟩,[s1],_,rfl,⟨s1,rfl,h1⟩,[s2],[],rfl,⟨s2,rfl,h2⟩,rfl⟩
theorem fra_holds {β:List Nat} {v:Value} {w:World} {q:Rat}:(fra q).holds β v w↔Fr w v q:=frv_holds
theorem numFractionF {q:Rat}:Fits Tryz.prog 165 [num q] (fra q):=by
 intro β w vs hv
 obtain ⟨v,rfl,h1⟩:=args1 hv
 exact (numFraction_any v q w (num_holds.1 h1)).mono fun e w' ⟨u,e,h1,h2⟩=>⟨u,e,h2,fra_holds.2 h1⟩
theorem numberF {q:Rat}:Fits Tryz.prog 123 [fra q] (num q):=by
 intro β w vs hv
 obtain ⟨v,rfl,h1⟩:=args1 hv
 exact (number_any v q w (fra_holds.1 h1)).mono fun e w' ⟨u,e,h1,h2⟩=>⟨u,e,h2,num_holds.2 h1⟩
theorem gcdF {a b:Nat} (ha:Lv 40 a) (hb:Lv 40 b) (h0:0<a∨0<b):Fits Tryz.prog 148 [nt a,nt b] (nt (Nat.gcd a b)):=by
 intro β w vs hv
 obtain ⟨v,u,rfl,h1,h2⟩:=args2 hv
 exact (gcd_any v u a b w (nt_holds.1 h1) (nt_holds.1 h2) ha hb h0).mono fun e w' ⟨u,e,h1,h2⟩=>⟨u,e,h2,nt_holds.2 h1⟩
theorem ntimesF {a b:Nat} (ha:Lv 40 a) (hb:Lv 40 b):Fits Tryz.prog 182 [nt a,nt b] (nt (a*b)):=by
 intro β w vs hv
 obtain ⟨v,u,rfl,h1,h2⟩:=args2 hv
 exact (nt_times (nt_holds.1 h1) (nt_holds.1 h2) ha hb).mono fun e w' ⟨u,e,h1,h2⟩=>⟨u,e,h2,nt_holds.2 h1⟩
theorem ndivideF {a b:Nat} (ha:Lv 40 a) (hb:0<b):Fits Tryz.prog 180 [nt a,nt b] (.tup [.sc (nts (a/b)),.sc (nts (a%b))]):=by
 intro β w vs hv
 obtain ⟨v,u,rfl,h1,h2⟩:=args2 hv
 refine (nt_divide (nt_holds.1 h1) (nt_holds.1 h2) ha hb).mono fun e w' ⟨u,u',e,h1,h2,h3⟩=>⟨_,e,h3,?_⟩
 exact ⟨[u,u'],rfl,u,_,rfl,⟨u,rfl,h1⟩,u',_,rfl,⟨u',rfl,h2⟩,rfl⟩
theorem naturalOfF {a:Nat} (ha:a<W64):Fits Tryz.prog 160 [.fv (.sc (.lit (.int .u64 (a:Int))))] (nt a):=by
 intro β w vs hv
 obtain ⟨v,rfl,h1⟩:=args1 hv
 rw [hold_lit h1]
 exact (naturalOf_any a ha w).mono fun e w' ⟨u,e,h1,h2⟩=>⟨u,e,h2,nt_holds.2 h1⟩
theorem ratioF {neg:Bool} {n d:Nat} (hn:Lv 40 n) (hd:Lv 40 d) (hd0:0<d):Fits Tryz.prog 121 [bl neg,nt n,nt d] (fra (mkRat (sg neg n) d)):=by
 rintro β w vs ⟨v,r,rfl,h0,hv⟩
 obtain ⟨v',u,rfl,h1,h2⟩:=args2 hv
 rw [hold_lit h0]
 exact (ratio_any neg n d v' u w (nt_holds.1 h1) (nt_holds.1 h2) hn hd hd0).mono fun e w' ⟨u,e,h1,h2⟩=>⟨u,e,h2,fra_holds.2 h1⟩
abbrev hf (a b c d:Rat):AV Kn := .fv (.ag [nb a,nb b,nb c,nb d])
abbrev frm (o1 o2 o3 x1 x2 x3 y1 y2 y3 z1 z2 z3:Rat):AV Kn := .fv (.ag [nb o1,nb o2,nb o3,nb x1,nb x2,nb x3,nb y1,nb y2,nb y3,nb z1,nb z2,nb z3])
abbrev mt (x1 x2 x3 y1 y2 y3 z1 z2 z3:Rat):AV Kn := .fv (.ag [nb x1,nb x2,nb x3,nb y1,nb y2,nb y3,nb z1,nb z2,nb z3])
abbrev dt (a1 a2 a3 b1 b2 b3:Rat):Rat:=a1*b1+a2*b2+a3*b3
theorem lf_dt {n:Nat} {a1 a2 a3 b1 b2 b3:Rat} (h1:Lf (n-5) a1) (h2:Lf (n-5) a2) (h3:Lf (n-5) a3) (k1:Lf (n-5) b1) (k2:Lf (n-5) b2) (k3:Lf (n-5) b3) (hn:5≤n):Lf n (dt a1 a2 a3 b1 b2 b3) :=
 Lf.addn (Lf.addn ((h1.mul k1).mono (by omega)) ((h2.mul k2).mono (by omega)) (by omega)) ((h3.mul k3).mono (by omega)) (by omega)
section
variable {n1 n2 n3 d p1 p2 p3:Rat}
theorem excessF (h1:Lf 31 n1) (h2:Lf 31 n2) (h3:Lf 31 n3) (hd:Lf 36 d) (k1:Lf 31 p1) (k2:Lf 31 p2) (k3:Lf 31 p3):Fits Tryz.prog 86 [hf n1 n2 n3 d,vc p1 p2 p3] (num (dt n1 n2 n3 p1 p2 p3-d)):=by
 refine kgo Tryz.func86 (by kernel_rfl) fun w00=>?_
 refine kcall 61 [vc n1 n2 n3,vc p1 p2 p3] (dotF h1 h2 h3 k1 k2 k3) (by kernel_rfl) Tryz.call61 ?_
 refine kcall 128 [num (dt n1 n2 n3 p1 p2 p3),num d] (minusF (lf_dt h1 h2 h3 k1 k2 k3 (by decide)) hd) (by kernel_rfl) Tryz.call128 ?_
 exact kret Tryz.func86 (by kernel_rfl)
abbrev wayR (n1 n2 n3 d p1 p2 p3:Rat):Rat := -(dt n1 n2 n3 p1 p2 p3-d)/dt n1 n2 n3 n1 n2 n3
theorem lf_way {n:Nat} (h1:Lf (n-11) n1) (h2:Lf (n-11) n2) (h3:Lf (n-11) n3) (hd:Lf (n-6) d) (k1:Lf (n-11) p1) (k2:Lf (n-11) p2) (k3:Lf (n-11) p3) (hn:11≤n):Lf n (wayR n1 n2 n3 d p1 p2 p3):=by
 rw [wayR,Rat.div_def]
 have e1:Lf (n-6) (dt n1 n2 n3 p1 p2 p3):=lf_dt (h1.mono (by omega)) (h2.mono (by omega)) (h3.mono (by omega)) (k1.mono (by omega)) (k2.mono (by omega)) (k3.mono (by omega)) (by omega)
 have e2:Lf (n-6) (dt n1 n2 n3 n1 n2 n3):=lf_dt (h1.mono (by omega)) (h2.mono (by omega)) (h3.mono (by omega)) (h1.mono (by omega)) (h2.mono (by omega)) (h3.mono (by omega)) (by omega)
 exact Lf.muln ((Lf.subn (n:=n-4) (e1.mono (by omega)) (hd.mono (by omega)) (by omega)).neg.mono (by omega)) ((Lf.inv e2).mono (by omega)) (by omega)
theorem toPlaneF (h1:Lf 25 n1) (h2:Lf 25 n2) (h3:Lf 25 n3) (hd:Lf 30 d) (k1:Lf 25 p1) (k2:Lf 25 p2) (k3:Lf 25 p3) (h0:dt n1 n2 n3 n1 n2 n3≠0) :
 Fits Tryz.prog 92 [hf n1 n2 n3 d,vc p1 p2 p3] (vc (wayR n1 n2 n3 d p1 p2 p3*n1) (wayR n1 n2 n3 d p1 p2 p3*n2) (wayR n1 n2 n3 d p1 p2 p3*n3)):=by
 have hE:Lf 32 (dt n1 n2 n3 p1 p2 p3-d):=Lf.subn (lf_dt h1 h2 h3 k1 k2 k3 (by decide)) (hd.mono (by decide)) (by decide)
 refine kgo Tryz.func92 (by kernel_rfl) fun w00=>?_
 refine kcall 86 [hf n1 n2 n3 d,vc p1 p2 p3] (excessF (h1.mono (by decide)) (h2.mono (by decide)) (h3.mono (by decide)) (hd.mono (by decide)) (k1.mono (by decide)) (k2.mono (by decide)) (k3.mono (by decide))) (by kernel_rfl) Tryz.call86 ?_
 refine kcall 106 [num (dt n1 n2 n3 p1 p2 p3-d)] (negatedF) (by kernel_rfl) Tryz.call106 ?_
 refine kcall 63 [vc n1 n2 n3] (squareF (h1.mono (by decide)) (h2.mono (by decide)) (h3.mono (by decide))) (by kernel_rfl) Tryz.call63 ?_
 refine kcall 78 [num (-(dt n1 n2 n3 p1 p2 p3-d)),num (dt n1 n2 n3 n1 n2 n3)] (overF (hE.neg.mono (by decide)) (lf_dt (h1.mono (by decide)) (h2.mono (by decide)) (h3.mono (by decide)) (h1.mono (by decide)) (h2.mono (by decide)) (h3.mono (by decide)) (by decide)) h0) (by kernel_rfl) Tryz.call78 ?_
 refine kcall 75 [vc n1 n2 n3,num (wayR n1 n2 n3 d p1 p2 p3)] (scaledF (lf_way (n:=38) (h1.mono (by decide)) (h2.mono (by decide)) (h3.mono (by decide)) (hd.mono (by decide)) (k1.mono (by decide)) (k2.mono (by decide)) (k3.mono (by decide)) (by decide)) (h1.mono (by decide)) (h2.mono (by decide)) (h3.mono (by decide))) (by kernel_rfl) Tryz.call75 ?_
 exact kret Tryz.func92 (by kernel_rfl)
end
end Go.Proofs.YtbkfbobdmojgnaaGreatDoor.Ab
