/- Parts of the proof, joined. -/
import Derived.Test.YtbhcckhbbclemaaGreatDoorJ20
import Derived.Test.YtbhcckhbbclemaaGreatDoorJ6
import Derived.Test.YtbhcckhbbclemaaGreatDoorJ9
import Derived.OwnWalk
set_option linter.unusedSimpArgs false
set_option linter.unusedVariables false
namespace Go.Proofs.YtbhcckhbbclemaaGreatDoor
open Go.RowKit Pl
def Vc (w:World) (v:Value) (a b c:Rat):Prop :=
 ∃ n1 d1 p1 n2 d2 p2 n3 d3 p3,v = .agg #[.int .i64 n1,.int .i64 d1,.pointer p1,.int .i64 n2,.int .i64 d2,.pointer p2,.int .i64 n3,.int .i64 d3,.pointer p3] ∧
   Nb w (.agg #[.int .i64 n1,.int .i64 d1,.pointer p1]) a∧Nb w (.agg #[.int .i64 n2,.int .i64 d2,.pointer p2]) b∧Nb w (.agg #[.int .i64 n3,.int .i64 d3,.pointer p3]) c
theorem Vc.below {w w' : World} {v:Value} {a b c:Rat} (h:Vc w v a b c) (hb:Below w.heap.size w w'):Vc w' v a b c:=by
 obtain ⟨n1,d1,p1,n2,d2,p2,n3,d3,p3,e,h1,h2,h3⟩:=h
 exact ⟨n1,d1,p1,n2,d2,p2,n3,d3,p3,e,h1.below hb,h2.below hb,h3.below hb⟩
theorem Vc.ext {K:Value→Bool} (hK:∀ x,K (.int .u64 x)=true) (hK2:∀ b,K (.bool b)=true) {w w' : World} {v:Value} {a b c:Rat} (h:Vc w v a b c) (hx:Ext K w w'):Vc w' v a b c:=by
 obtain ⟨n1,d1,p1,n2,d2,p2,n3,d3,p3,e,h1,h2,h3⟩:=h
 exact ⟨n1,d1,p1,n2,d2,p2,n3,d3,p3,e,h1.ext hK hK2 hx,h2.ext hK hK2 hx,h3.ext hK hK2 hx⟩
set_option maxRecDepth 100000 in
set_option maxHeartbeats 4000000 in
theorem isZero_vc (v:Value) (a b c:Rat) (w:World) (h:Vc w v a b c):Calls Tryz.prog 33 #[v] w (Gives w (.bool (decide (a=0)&&decide (b=0)&&decide (c=0)))):=by
 obtain ⟨n1,d1,p1,n2,d2,p2,n3,d3,p3,rfl,h1,h2,h3⟩:=h
 have hb1:Below w.heap.size w (w.alloc (.cells #[.int .i64 n1,.int .i64 d1,.pointer p1,.int .i64 n2,.int .i64 d2,.pointer p2,.int .i64 n3,.int .i64 d3,.pointer p3] 69)):=(Below.refl _ _).alloc (Nat.le_refl _) _
 have hk1:=heap_alloc_new w (.cells #[.int .i64 n1,.int .i64 d1,.pointer p1,.int .i64 n2,.int .i64 d2,.pointer p2,.int .i64 n3,.int .i64 d3,.pointer p3] 69)
 have t1:=fun w' (hb:Below w.heap.size w w')=>isZero_nb _ _ w' (h1.below hb)
 have t2:=fun w' (hb:Below w.heap.size w w')=>isZero_nb _ _ w' (h2.below hb)
 have t3:=fun w' (hb:Below w.heap.size w w')=>isZero_nb _ _ w' (h3.below hb)
 clear h1 h2 h3
 generalize decide (a=0)=za at *
 generalize decide (b=0)=zb at *
 generalize decide (c=0)=zc at *
 have H:=Lib.hid (And.intro t1 (And.intro t2 t3))
 have B1:=Lib.hid (And.intro hb1 hk1)
 clear t1 t2 t3 hb1 hk1
 go_enter Tryz.func33,Tryz.ntmps33
 cases za
 ·skip
  go_wp2_with fail
  refine (H.out.1 _ B1.out.1).mono ?_
  rintro e w2 ⟨rfl,b2⟩
  have B2:=Lib.hid (And.intro (Below.step_trans B1.out.1 b2) (keep_blk b2 B1.out.2))
  obtain ⟨x0,x1,x2,x3,x4,x5,x6,x7,x8⟩:=blk9 B2.out.2
  clear b2
  go_wp2
  go_ret
  exact ⟨rfl,B2.out.1⟩
 ·cases zb
  ·skip
   go_wp2_with fail
   refine (H.out.1 _ B1.out.1).mono ?_
   rintro e w2 ⟨rfl,b2⟩
   have B2:=Lib.hid (And.intro (Below.step_trans B1.out.1 b2) (keep_blk b2 B1.out.2))
   obtain ⟨x0,x1,x2,x3,x4,x5,x6,x7,x8⟩:=blk9 B2.out.2
   clear b2
   go_wp2_with fail
   refine (H.out.2.1 _ B2.out.1).mono ?_
   rintro e w3 ⟨rfl,b2⟩
   have B3:=Lib.hid (And.intro (Below.step_trans B2.out.1 b2) (keep_blk b2 B2.out.2))
   obtain ⟨x0,x1,x2,x3,x4,x5,x6,x7,x8⟩:=blk9 B3.out.2
   clear b2
   go_wp2
   go_ret
   exact ⟨rfl,B3.out.1⟩
  ·skip
   go_wp2_with fail
   refine (H.out.1 _ B1.out.1).mono ?_
   rintro e w2 ⟨rfl,b2⟩
   have B2:=Lib.hid (And.intro (Below.step_trans B1.out.1 b2) (keep_blk b2 B1.out.2))
   obtain ⟨x0,x1,x2,x3,x4,x5,x6,x7,x8⟩:=blk9 B2.out.2
   clear b2
   go_wp2_with fail
   refine (H.out.2.1 _ B2.out.1).mono ?_
   rintro e w3 ⟨rfl,b2⟩
   have B3:=Lib.hid (And.intro (Below.step_trans B2.out.1 b2) (keep_blk b2 B2.out.2))
   obtain ⟨x0,x1,x2,x3,x4,x5,x6,x7,x8⟩:=blk9 B3.out.2
   clear b2
   go_wp2_with fail
   refine (H.out.2.2 _ B3.out.1).mono ?_
   rintro e w4 ⟨rfl,b2⟩
   have B4:=Lib.hid (And.intro (Below.step_trans B3.out.1 b2) (keep_blk b2 B3.out.2))
   obtain ⟨x0,x1,x2,x3,x4,x5,x6,x7,x8⟩:=blk9 B4.out.2
   clear b2
   go_wp2
   go_ret
   exact ⟨rfl,B4.out.1⟩
end Go.Proofs.YtbhcckhbbclemaaGreatDoor
namespace Go.Proofs.YtbhcckhbbclemaaGreatDoor.Ab
open Go.RowKit Go.Proofs.YtbhcckhbbclemaaGreatDoor
variable {Kc:Value→Bool}
def Seg.noPtr:Seg Kc→Bool
 | .ptr .. | .slc .. => false
 | _=>true
def FV.noPtr:FV Kc→Bool
 | .sc s=>s.noPtr
 | .ag l | .nsl _ _ l=>l.all Seg.noPtr
 | .clo _ a b=>(a.all fun c=>c.2.all Seg.noPtr)&&(b.all fun c=>c.2.all Seg.noPtr)
 | .un=>true
def AV.noPtr:AV Kc→Bool
 | .fv f=>f.noPtr
 | .tup l=>l.all FV.noPtr
theorem Seg.noPtr_holds {s:Seg Kc} (h:s.noPtr=true) {β γ:List Nat} {cs:List Value} {w:World} (hs:s.holds β cs w):s.holds γ cs w:=by
 cases s <;> first|exact hs|cases h
theorem holdsL.noPtr {β γ:List Nat} {w:World}:∀ {l:List (Seg Kc)} {cs:List Value},l.all Seg.noPtr=true→holdsL β l cs w→holdsL γ l cs w
 | [],_,_,h=>h
 | s::l,_,hn,⟨a,b,e,h1,h2⟩=>by
   rw [List.all_cons,Bool.and_eq_true] at hn
   exact ⟨a,b,e,Seg.noPtr_holds hn.1 h1,holdsL.noPtr hn.2 h2⟩
theorem holdsC.noPtr {β γ:List Nat} {w:World}:∀ {l:List (Bool×List (Seg Kc))} {vs:List Value},(l.all fun c=>c.2.all Seg.noPtr)=true→holdsC β l vs w→holdsC γ l vs w
 | [],_,_,h=>h
 | (b,m)::l,_,hn,⟨v,r,e,h1,h2⟩=>by
   rw [List.all_cons,Bool.and_eq_true] at hn
   refine ⟨v,r,e,?_,holdsC.noPtr hn.2 h2⟩
   cases b with
   | true=>obtain ⟨cs,e,h1⟩:=h1;exact ⟨cs,e,h1.noPtr hn.1⟩
   | false=>exact holdsL.noPtr hn.1 h1
theorem FV.noPtr_holds {f:FV Kc} (h:f.noPtr=true) {β γ:List Nat} {v:Value} {w:World} (hs:f.holds β v w):f.holds γ v w:=by
 cases f with
 | sc s=>exact Seg.noPtr_holds h hs
 | ag l=>obtain ⟨cs,e,hl⟩:=hs;exact ⟨cs,e,hl.noPtr h⟩
 | nsl n T l=>obtain ⟨g,cs,e,hg,hl⟩:=hs;exact ⟨g,cs,e,hg,hl.noPtr h⟩
 | clo F a b =>
   rw [FV.noPtr,Bool.and_eq_true] at h
   obtain ⟨xs,ys,e,h1,h2⟩:=hs
   exact ⟨xs,ys,e,h1.noPtr h.1,h2.noPtr h.2⟩
 | un=>trivial
theorem holdsF.noPtr {β γ:List Nat} {w:World}:∀ {l:List (FV Kc)} {vs:List Value},l.all FV.noPtr=true→holdsF β l vs w→holdsF γ l vs w
 | [],_,_,h=>h
 | f::l,_,hn,⟨v,r,e,h1,h2⟩=>by
   rw [List.all_cons,Bool.and_eq_true] at hn
   exact ⟨v,r,e,FV.noPtr_holds hn.1 h1,holdsF.noPtr hn.2 h2⟩
theorem AV.noPtr_holds {x:AV Kc} (h:x.noPtr=true) {β γ:List Nat} {v:Value} {w:World} (hs:x.holds β v w):x.holds γ v w:=by
 cases x with
 | fv f=>exact FV.noPtr_holds h hs
 | tup l=>obtain ⟨vs,e,hl⟩:=hs;exact ⟨vs,e,hl.noPtr h⟩
def Fits (P:Program) (f:FuncId) (args:List (AV Kc)) (x:AV Kc):Prop :=
 ∀ β w vs,holdsA β args vs w→Calls P f vs.toArray w fun e w' => ∃ v,e = .returned v∧Below w.heap.size w w'∧x.holds β v w'
section
variable {P:Program} {f:FuncId} {w00:World} {Out:Value→World→Prop}
structure Ok (P:Program) (f:FuncId) (w00:World) (Out:Value→World→Prop) (c:Cfg Kc):Prop where
 good:Good P f w00 Out c
theorem Ok.go (hm:P.follows .mixedOrders=true) (hK:KOk Kc) (n:Nat) {c:Cfg Kc} (h:Ok P f w00 Out (runA P n c)):Ok P f w00 Out c:=⟨good_run hm hK n h.good⟩
theorem Ok.call {c:Cfg Kc} (fn:FuncId) (args:List (AV Kc)) {x:AV Kc} (h:Fits P fn args x) (hf:c.callee P=some fn) (ha:c.args P=args) (hx:c.okT x=true) (hfn:∀ (args:Array Value) (w:World),(callFunc fn args).run P w = .ok (.enter fn args) w)
 (hg:Ok P f w00 Out (c.give x)):Ok P f w00 Out c :=
 ⟨good_call fn x hf hx hfn (fun β w vs _ _ hv=>h β w vs (by rw [← ha];exact hv)) hg.good⟩
theorem Ok.op {c:Cfg Kc} (o:Oper) (x:AV Kc) (ho:c.op=some o) (hx:c.okT x=true)
 (h:∀ β ρ w,(c.canB=true→Below w00.heap.size w00 w)→Mem β c.mem w→(∀ y∈o.op.operands,(c.ev y).holds β (ρ y) w) →
  (∃ v w',(execOp ρ o).run P w = .ok (.value v) w'∧Below w.heap.size w w'∧x.holds β v w') ∨
  (∃ fn vs,(execOp ρ o).run P w = .ok (.enter fn vs) w∧Calls P fn vs w fun e w' => ∃ v,e = .returned v∧Below w.heap.size w w'∧x.holds β v w'))
 (hg:Ok P f w00 Out (c.give x)):Ok P f w00 Out c:=⟨good_op o x ho hx h hg.good⟩
def FitsW (P:Program) (I:World→Prop) (f:FuncId) (args:List (AV Kc)) (x:AV Kc):Prop :=
 ∀ β w vs,I w→holdsA β args vs w→Calls P f vs.toArray w fun e w' => ∃ v,e = .returned v∧Below w.heap.size w w'∧x.holds β v w'
theorem Ok.callW {I:World→Prop} {c:Cfg Kc} (hI:∀ w,Below w00.heap.size w00 w→I w) (fn:FuncId) (args:List (AV Kc)) {x:AV Kc} (h:FitsW P I fn args x) (hf:c.callee P=some fn) (ha:c.args P=args) (hx:c.okT x=true) (hro:c.canB=true) (hfn:∀ (args:Array Value) (w:World),(callFunc fn args).run P w = .ok (.enter fn args) w)
 (hg:Ok P f w00 Out (c.give x)):Ok P f w00 Out c :=
 ⟨good_call fn x hf hx hfn (fun β w vs hB _ hv=>h β w vs (hI w (hB hro)) (by rw [← ha];exact hv)) hg.good⟩
theorem Ok.callS {c:Cfg Kc} (fn:FuncId) (k n:Nat) (T:TypeId) (l:List (Seg Kc)) {x:AV Kc} (h:Fits P fn [.fv (.nsl n T l)] x) (hf:c.callee P=some fn) (ha:c.args P = [.fv (.sc (.slc k 0 n n))]) (hx:c.okT x=true) (hm:c.mem[k]?=some (some (T,l))) (hfn:∀ (args:Array Value) (w:World),(callFunc fn args).run P w = .ok (.enter fn args) w)
 (hg:Ok P f w00 Out (c.give x)):Ok P f w00 Out c :=
 ⟨good_call fn x hf hx hfn (fun β w vs _ hM hv=>by
  rw [ha] at hv
  obtain ⟨v,r,rfl,h1,h2⟩:=hv
  obtain ⟨g,hg,hv⟩:=hold_slc h1
  obtain ⟨g',cs,hg',hh,hl⟩:=hM k T l hm
  rw [hg] at hg'
  injection hg' with hg'
  subst hg'
  exact h β w _ ⟨v,r,rfl,⟨g,cs,hv,hh,hl⟩,h2⟩) hg.good⟩
theorem fitsW_of {I:World→Prop} {fn:Func} {args:List (AV Kc)} {x:AV Kc} (hfn:P.funcs[f]?=some fn) (hb:fn.body.isSome=true) (hn:(args.length≤fn.ntmps:Bool)=true) (hx:x.noPtr=true) (ha:args.all AV.noPtr=true)
 (h:∀ w00,I w00→Ok P f w00 (fun v w=>x.holds [] v w) (.items [.code (fn.body.getD .skip)] { slots:=args++List.replicate (fn.ntmps-args.length) .un,blocks := [],ro:=0 })):FitsW P I f args x:=by
 intro β w vs hI hv
 have hv' : holdsA [] args vs w:=by
  have key:∀ {l:List (AV Kc)} {us:List Value},l.all AV.noPtr=true→holdsA β l us w→holdsA [] l us w:=fun {l}=>by
   induction l with
   | nil=>intro us _ h;exact h
   | cons y l ih =>
     rintro us hn ⟨v,r,e,h1,h2⟩
     rw [List.all_cons,Bool.and_eq_true] at hn
     exact ⟨v,r,e,AV.noPtr_holds hn.1 h1,ih hn.2 h2⟩
  exact key ha hv
 have hb2:fn.body=some (fn.body.getD .skip):=by
  cases hb2:fn.body with
  | none=>rw [hb2] at hb;cases hb
  | some c=>rfl
 refine (calls_of_good (w00:=w) (Out:=fun v w=>x.holds [] v w) hfn hb2 args [] [] vs (fn.ntmps-args.length) (by simp at hn;omega) hv' rfl (by simp) (fun k T l hk=>by simp at hk) (by simp) (h w hI).good).mono ?_
 rintro e w' ⟨v,rfl,hb,ho⟩
 exact ⟨v,rfl,hb,AV.noPtr_holds hx ho⟩
theorem fitsS_of {fn:Func} {n:Nat} {T:TypeId} {l:List (Seg Kc)} {x:AV Kc} (hfn:P.funcs[f]?=some fn) (hb:fn.body.isSome=true) (hn:(1≤fn.ntmps:Bool)=true) (hx:x.noPtr=true) (hl:l.all Seg.noPtr=true)
 (h:∀ w00,Ok P f w00 (fun v w=>x.holds [] v w) (.items [.code (fn.body.getD .skip)] { slots := [.fv (.sc (.slc 0 0 n n))]++List.replicate (fn.ntmps-1) .un,blocks := [(T,l)],ro:=1 })):Fits P f [.fv (.nsl n T l)] x:=by
 rintro β w vs ⟨v,r,rfl,⟨g,cs,rfl,hg,hcs⟩,h2⟩
 rw [show r = [] from h2]
 have hb2:fn.body=some (fn.body.getD .skip):=by
  cases hb2:fn.body with
  | none=>rw [hb2] at hb;cases hb
  | some c=>rfl
 refine (calls_of_good (w00:=w) (Out:=fun v w=>x.holds [] v w) hfn hb2 [.fv (.sc (.slc 0 0 n n))] [(T,l)] [g] [.slice (some ⟨g,0,none⟩) n n] (fn.ntmps-1) (by simp at hn;simp;omega) ⟨_,[],rfl,⟨g,rfl,rfl⟩,rfl⟩ rfl (by simp)
  (fun k T' l' hk=>?_) (by simp;exact lt_of_block hg) (h w).good).mono ?_
 ·match k,hk with
  | 0,hk =>
    simp at hk
    obtain ⟨rfl,rfl⟩:=hk
    exact ⟨g,cs,rfl,hg,hcs.noPtr hl⟩
 ·rintro e w' ⟨v,rfl,hb,ho⟩
  exact ⟨v,rfl,hb,AV.noPtr_holds hx ho⟩
theorem fits_of {fn:Func} {code:Code} {args:List (AV Kc)} {x:AV Kc} (hfn:P.funcs[f]?=some fn) (hb:fn.body=some code) (n:Nat) (hn:fn.ntmps=args.length+n) (hx:x.noPtr=true) (ha:args.all AV.noPtr=true)
 (h:∀ w00,Good P f w00 (fun v w=>x.holds [] v w) (.items [.code code] { slots:=args++List.replicate n .un,blocks := [],ro:=0 })):Fits P f args x:=by
 intro β w vs hv
 have hv' : holdsA [] args vs w:=by
  have key:∀ {l:List (AV Kc)} {us:List Value},l.all AV.noPtr=true→holdsA β l us w→holdsA [] l us w:=fun {l}=>by
   induction l with
   | nil=>intro us _ h;exact h
   | cons y l ih =>
     rintro us hn ⟨v,r,e,h1,h2⟩
     rw [List.all_cons,Bool.and_eq_true] at hn
     exact ⟨v,r,e,AV.noPtr_holds hn.1 h1,ih hn.2 h2⟩
  exact key ha hv
 refine (calls_of_good (w00:=w) (Out:=fun v w=>x.holds [] v w) hfn hb args [] [] vs n hn hv' rfl (by simp) (fun k T l hk=>by simp at hk) (by simp) (h w)).mono ?_
 rintro e w' ⟨v,rfl,hb,ho⟩
 exact ⟨v,rfl,hb,AV.noPtr_holds hx ho⟩
abbrev startA (fn:Func) (args:List (AV Kc)):Cfg Kc := .items [.code (fn.body.getD .skip)] { slots:=args++List.replicate (fn.ntmps-args.length) .un,blocks := [],ro:=0 }
theorem fits_go {fn:Func} {args:List (AV Kc)} {x:AV Kc} (hfn:P.funcs[f]?=some fn) (hb:fn.body.isSome=true) (hn:(args.length≤fn.ntmps:Bool)=true) (hx:x.noPtr=true) (ha:args.all AV.noPtr=true)
 (h:∀ w00,Ok P f w00 (fun v w=>x.holds [] v w) (startA fn args)):Fits P f args x:=by
 refine fits_of hfn (code:=fn.body.getD .skip) ?_ (fn.ntmps-args.length) ?_ hx ha (fun w00=>(h w00).good)
 ·cases hb2:fn.body with
  | none=>rw [hb2] at hb;cases hb
  | some c=>rfl
 ·simp at hn
  omega
theorem Ok.ret {c:Cfg Kc} {fn:Func} {x:AV Kc} (hfn:P.funcs[f]?=some fn) (hx:x.noPtr=true) (hr:c.res P fn=some x):Ok P f w00 (fun v w=>x.holds [] v w) c :=
 ⟨good_ret hfn x hr (fun _ _ _ h=>AV.noPtr_holds hx h)⟩
end
theorem kn_ok:KOk Kn:=⟨fun _=>rfl,fun _ _ _=>rfl⟩
def csNb (q:Rat):CS Kn where
 size:=3
 cold:=true
 pred cs w:=Nb w (.agg cs.toArray) q
 stable cs w w' h hx:=Nb.ext (K:=Kn) (fun _=>rfl) (fun _=>rfl) h hx
 len cs w h:=by
  obtain ⟨n,d,p,e⟩:=Nb.form h
  injection e with e
  have:=congrArg Array.toList e
  simp at this
  rw [this];rfl
 one cs w h:=by
  obtain ⟨n,d,p,e⟩:=Nb.form h
  injection e with e
  have:=congrArg Array.toList e
  simp at this
  rw [this]
  intro c hc
  simp at hc
  rcases hc with rfl|rfl|rfl <;> rfl
 iscold _ cs w h:=by
  obtain ⟨n,d,p,e⟩:=Nb.form h
  injection e with e
  have:=congrArg Array.toList e
  simp at this
  rw [this]
  intro c hc
  simp at hc
  rcases hc with rfl|rfl|rfl <;> rfl
abbrev nb (q:Rat):Seg Kn := .sp (csNb q)
abbrev num (q:Rat):AV Kn := .fv (.ag [nb q])
abbrev vc (a b c:Rat):AV Kn := .fv (.ag [nb a,nb b,nb c])
theorem num_holds {β:List Nat} {v:Value} {w:World} {q:Rat}:(num q).holds β v w↔Nb w v q:=by
 constructor
 ·rintro ⟨cs,rfl,h⟩
  exact holdsL_one h
 ·intro h
  obtain ⟨n,d,p,rfl⟩:=Nb.form h
  exact ⟨[.int .i64 n,.int .i64 d,.pointer p],rfl,_,[],rfl,h,rfl⟩
theorem vc_holds {β:List Nat} {v:Value} {w:World} {a b c:Rat}:(vc a b c).holds β v w↔Vc w v a b c:=by
 constructor
 ·rintro ⟨cs,rfl,x1,r1,rfl,h1,x2,r2,rfl,h2,x3,r3,rfl,h3,e⟩
  rw [show r3 = [] from e]
  obtain ⟨n1,d1,p1,e1⟩:=Nb.form h1
  obtain ⟨n2,d2,p2,e2⟩:=Nb.form h2
  obtain ⟨n3,d3,p3,e3⟩:=Nb.form h3
  injection e1 with e1
  injection e2 with e2
  injection e3 with e3
  have e1:=congrArg Array.toList e1
  have e2:=congrArg Array.toList e2
  have e3:=congrArg Array.toList e3
  simp at e1 e2 e3
  subst e1
  subst e2
  subst e3
  exact ⟨n1,d1,p1,n2,d2,p2,n3,d3,p3,rfl,h1,h2,h3⟩
 ·rintro ⟨n1,d1,p1,n2,d2,p2,n3,d3,p3,rfl,h1,h2,h3⟩
  exact ⟨[.int .i64 n1,.int .i64 d1,.pointer p1,.int .i64 n2,.int .i64 d2,.pointer p2,.int .i64 n3,.int .i64 d3,.pointer p3],rfl,
   [.int .i64 n1,.int .i64 d1,.pointer p1],_,rfl,h1,[.int .i64 n2,.int .i64 d2,.pointer p2],_,rfl,h2,[.int .i64 n3,.int .i64 d3,.pointer p3],[],rfl,h3,rfl⟩
theorem args1 {β:List Nat} {w:World} {x:AV Kc} {vs:List Value} (h:holdsA β [x] vs w):∃ v,vs = [v]∧x.holds β v w:=by
 obtain ⟨v,r,rfl,h1,h2⟩:=h
 exact ⟨v,by rw [show r = [] from h2],h1⟩
theorem args2 {β:List Nat} {w:World} {x y:AV Kc} {vs:List Value} (h:holdsA β [x,y] vs w):∃ v u,vs = [v,u]∧x.holds β v w∧y.holds β u w:=by
 obtain ⟨v,r,rfl,h1,h2⟩:=h
 obtain ⟨u,rfl,h3⟩:=args1 h2
 exact ⟨v,u,rfl,h1,h3⟩
theorem fits_nb1 {P:Program} {f:FuncId} {p r:Rat} (h:∀ v w,Nb w v p→Calls P f #[v] w (GivesNb w r)):Fits P f [num p] (num r):=by
 intro β w vs hv
 obtain ⟨v,rfl,h1⟩:=args1 hv
 exact (h v w (num_holds.1 h1)).mono fun e w' ⟨u,e,h1,h2⟩=>⟨u,e,h2,num_holds.2 h1⟩
theorem fits_nb2 {P:Program} {f:FuncId} {p q r:Rat} (h:∀ v v' w,Nb w v p→Nb w v' q→Calls P f #[v,v'] w (GivesNb w r)):Fits P f [num p,num q] (num r):=by
 intro β w vs hv
 obtain ⟨v,u,rfl,h1,h2⟩:=args2 hv
 exact (h v u w (num_holds.1 h1) (num_holds.1 h2)).mono fun e w' ⟨u,e,h1,h2⟩=>⟨u,e,h2,num_holds.2 h1⟩
theorem kgo {f:FuncId} {fn:Func} {args:List (AV Kn)} {x:AV Kn} (hfn:Tryz.prog.funcs[f]?=some fn) (hc:(fn.body.isSome,decide (args.length≤fn.ntmps),x.noPtr,args.all AV.noPtr)=(true,true,true,true))
 (h:∀ w00,Ok Tryz.prog f w00 (fun v w=>x.holds [] v w) (runA Tryz.prog 1000 (startA fn args))):Fits Tryz.prog f args x:=by
 simp only [Prod.mk.injEq] at hc
 exact fits_go hfn hc.1 hc.2.1 hc.2.2.1 hc.2.2.2 fun w00=>Ok.go (by kernel_rfl) kn_ok 1000 (h w00)
theorem kgoW {I:World→Prop} {f:FuncId} {fn:Func} {args:List (AV Kn)} {x:AV Kn} (hfn:Tryz.prog.funcs[f]?=some fn) (hc:(fn.body.isSome,decide (args.length≤fn.ntmps),x.noPtr,args.all AV.noPtr)=(true,true,true,true))
 (h:∀ w00,I w00→Ok Tryz.prog f w00 (fun v w=>x.holds [] v w) (runA Tryz.prog 1000 (startA fn args))):FitsW Tryz.prog I f args x:=by
 simp only [Prod.mk.injEq] at hc
 exact fitsW_of hfn hc.1 hc.2.1 hc.2.2.1 hc.2.2.2 fun w00 hI=>Ok.go (by kernel_rfl) kn_ok 1000 (h w00 hI)
theorem kgoS {f:FuncId} {fn:Func} {n:Nat} {T:TypeId} {l:List (Seg Kn)} {x:AV Kn} (hfn:Tryz.prog.funcs[f]?=some fn) (hc:(fn.body.isSome,decide (1≤fn.ntmps),x.noPtr,l.all Seg.noPtr)=(true,true,true,true))
 (h:∀ w00,Ok Tryz.prog f w00 (fun v w=>x.holds [] v w) (runA Tryz.prog 1000 (.items [.code (fn.body.getD .skip)] { slots := [.fv (.sc (.slc 0 0 n n))]++List.replicate (fn.ntmps-1) .un,blocks := [(T,l)],ro:=1 }))):Fits Tryz.prog f [.fv (.nsl n T l)] x:=by
 simp only [Prod.mk.injEq] at hc
 exact fitsS_of hfn hc.1 hc.2.1 hc.2.2.1 hc.2.2.2 fun w00=>Ok.go (by kernel_rfl) kn_ok 1000 (h w00)
section
variable {f:FuncId} {w00:World} {Out:Value→World→Prop}
theorem kcall {c:Cfg Kn} (fn:FuncId) (args:List (AV Kn)) {x:AV Kn} (h:Fits Tryz.prog fn args x) (hc:(c.callee Tryz.prog,c.args Tryz.prog,c.okT x)=(some fn,args,true)) (hfn:∀ (args:Array Value) (w:World),(callFunc fn args).run Tryz.prog w = .ok (.enter fn args) w)
 (hg:Ok Tryz.prog f w00 Out (runA Tryz.prog 1000 (c.give x))):Ok Tryz.prog f w00 Out c:=by
 simp only [Prod.mk.injEq] at hc
 exact Ok.call fn args h hc.1 hc.2.1 hc.2.2 hfn (Ok.go (by kernel_rfl) kn_ok 1000 hg)
theorem kcallW {I:World→Prop} {c:Cfg Kn} (hI:∀ w,Below w00.heap.size w00 w→I w) (fn:FuncId) (args:List (AV Kn)) {x:AV Kn} (h:FitsW Tryz.prog I fn args x) (hc:(c.callee Tryz.prog,c.args Tryz.prog,c.okT x,c.canB)=(some fn,args,true,true)) (hfn:∀ (args:Array Value) (w:World),(callFunc fn args).run Tryz.prog w = .ok (.enter fn args) w)
 (hg:Ok Tryz.prog f w00 Out (runA Tryz.prog 1000 (c.give x))):Ok Tryz.prog f w00 Out c:=by
 simp only [Prod.mk.injEq] at hc
 exact Ok.callW hI fn args h hc.1 hc.2.1 hc.2.2.1 hc.2.2.2 hfn (Ok.go (by kernel_rfl) kn_ok 1000 hg)
theorem kcallS {c:Cfg Kn} (fn:FuncId) (k n:Nat) (T:TypeId) (l:List (Seg Kn)) {x:AV Kn} (h:Fits Tryz.prog fn [.fv (.nsl n T l)] x) (hc:(c.callee Tryz.prog,c.args Tryz.prog,c.okT x,c.mem[k]?)=(some fn,[.fv (.sc (.slc k 0 n n))],true,some (some (T,l)))) (hfn:∀ (args:Array Value) (w:World),(callFunc fn args).run Tryz.prog w = .ok (.enter fn args) w)
 (hg:Ok Tryz.prog f w00 Out (runA Tryz.prog 1000 (c.give x))):Ok Tryz.prog f w00 Out c:=by
 simp only [Prod.mk.injEq] at hc
 exact Ok.callS fn k n T l h hc.1 hc.2.1 hc.2.2.1 hc.2.2.2 hfn (Ok.go (by kernel_rfl) kn_ok 1000 hg)
theorem kop2 {c:Cfg Kn} (op:Op) (x y:Operand) (X Y r:AV Kn) (hc:(c.op.map fun o=>o.op,c.okT r,c.ev x,c.ev y)=(some op,true,X,Y)) (hx:x∈op.operands) (hy:y∈op.operands)
 (h:∀ (ρ:Operand→Value) (o:Oper) (β:List Nat) (w:World),o.op=op→X.holds β (ρ x) w→Y.holds β (ρ y) w→∃ v,(execOp ρ o).run Tryz.prog w = .ok (.value v) w∧r.holds β v w)
 (hg:Ok Tryz.prog f w00 Out (runA Tryz.prog 1000 (c.give r))):Ok Tryz.prog f w00 Out c:=by
 simp only [Prod.mk.injEq] at hc
 obtain ⟨h1,h2,h3,h4⟩:=hc
 rw [Option.map_eq_some_iff] at h1
 obtain ⟨o,ho,ho2⟩:=h1
 refine Ok.op o r ho h2 (fun β ρ w _ _ hs => .inl ?_) (Ok.go (by kernel_rfl) kn_ok 1000 hg)
 obtain ⟨v,e,hv⟩:=h ρ o β w ho2 (by rw [← h3];exact hs x (by rw [ho2];exact hx)) (by rw [← h4];exact hs y (by rw [ho2];exact hy))
 exact ⟨v,w,e,Below.refl _ _,hv⟩
theorem kret {c:Cfg Kn} {fn:Func} {x:AV Kn} (hfn:Tryz.prog.funcs[f]?=some fn) (hc:(x.noPtr,c.res Tryz.prog fn)=(true,some x)):Ok Tryz.prog f w00 (fun v w=>x.holds [] v w) c:=by
 simp only [Prod.mk.injEq] at hc
 exact Ok.ret hfn hc.1 hc.2
end
theorem plusF {p q:Rat} (hp:Lf 36 p) (hq:Lf 36 q):Fits Tryz.prog 85 [num p,num q] (num (p+q)):=fits_nb2 fun v v' w h h'=>plus_nb v v' p q w h h' hp hq
theorem minusF {p q:Rat} (hp:Lf 36 p) (hq:Lf 36 q):Fits Tryz.prog 99 [num p,num q] (num (p-q)):=fits_nb2 fun v v' w h h'=>minus_nb v v' p q w h h' hp hq
theorem timesF {p q:Rat} (hp:Lf 38 p) (hq:Lf 38 q):Fits Tryz.prog 98 [num p,num q] (num (p*q)):=fits_nb2 fun v v' w h h'=>times_nb v v' p q w h h' hp hq
theorem overF {p q:Rat} (hp:Lf 38 p) (hq:Lf 38 q) (h0:q≠0):Fits Tryz.prog 70 [num p,num q] (num (p/q)):=fits_nb2 fun v v' w h h'=>over_nb v v' p q w h h' hp hq h0
theorem negatedF {p:Rat}:Fits Tryz.prog 146 [num p] (num (-p)):=fits_nb1 fun v w h=>negated_nb v p w h
abbrev bl (b:Bool):AV Kn := .fv (.sc (.lit (.bool b)))
abbrev it (n:Int):AV Kn := .fv (.sc (.lit (.int .i64 n)))
theorem isZeroF {p:Rat} {b:Bool} (h:decide (p=0)=b):Fits Tryz.prog 32 [num p] (bl b):=by
 intro β w vs hv
 obtain ⟨v,rfl,h1⟩:=args1 hv
 refine (isZero_nb v p w (num_holds.1 h1)).mono fun e w' ⟨e1,h2⟩=>⟨_,e1,h2,?_⟩
 rw [h]
 exact ⟨rfl,rfl⟩
theorem signF {p:Rat}:Fits Tryz.prog 87 [num p] (it (sgnR p)):=by
 intro β w vs hv
 obtain ⟨v,rfl,h1⟩:=args1 hv
 exact (sign_nb v p w (num_holds.1 h1)).mono fun e w' ⟨e1,h2⟩=>⟨_,e1,h2,rfl,rfl⟩
theorem Lf.addn {n:Nat} {p q:Rat} (hp:Lf (n-2) p) (hq:Lf (n-2) q) (hn:2≤n):Lf n (p+q):=(Lf.add hp hq).mono (by omega)
theorem Lf.subn {n:Nat} {p q:Rat} (hp:Lf (n-2) p) (hq:Lf (n-2) q) (hn:2≤n):Lf n (p-q):=by
 rw [Rat.sub_eq_add_neg]
 exact Lf.addn hp hq.neg hn
theorem Lf.muln {n:Nat} {p q:Rat} (hp:Lf (n-1) p) (hq:Lf (n-1) q) (hn:1≤n):Lf n (p*q):=(Lf.mul hp hq).mono (by omega)
end Go.Proofs.YtbhcckhbbclemaaGreatDoor.Ab
namespace Go.Proofs.YtbhcckhbbclemaaGreatDoor.Ab
open Go.RowKit Go.Proofs.YtbhcckhbbclemaaGreatDoor
section
variable {Kc:Value→Bool} {P:Program} {f:FuncId} {w00:World} {Out:Value→World→Prop}
theorem put_put (a:Act) (d:Tmp) (u v:Value):(a.put (some d) u).put (some d) v=a.put (some d) v:=by
 simp [Act.put]
theorem good_own {ops:Array Oper} {o:Oper} {rest:List Oper} {k:List Item} {st:St Kc} {n:Nat} {T:TypeId} {l:List (Seg Kc)} {d:Tmp} (ho:opA P (evL st.slot) (st.blocks.map some) o = .nsl n T l) (hd:o.dst=some d) (hw:wantA st.slot ops o=some true)
 (hg:Good P f w00 Out (.plain ops rest k { st with slots:=st.slots.set d (.fv (.sc (.slc st.blocks.length 0 n n))),blocks:=st.blocks ++ [(T,l)] })):Good P f w00 Out (.plain ops (o::rest) k st):=by
 intro β a w hR
 refine wpList_want (hR.wants hw) ?_
 have hs:∀ y∈o.op.operands,(evL st.slot y).holds β (a.eval y) w:=fun y _=>hR.ev y
 unfold Oper.wp
 obtain ⟨cs,e,hl⟩:=opA_nsl ho hs
 rw [e]
 simp only [Oper.upon,hd]
 have h1:=hR.new (d:=d) (T:=T) hl
 have hnew:(β ++ [w.heap.size])[st.blocks.length]?=some w.heap.size:=by rw [← hR.len];simp
 have h2:=h1.put (dst:=some d) (x := .fv (.sc (.slc st.blocks.length 0 n n))) (v := .slice (some ⟨w.heap.size,0,none⟩) n n) ⟨w.heap.size,hnew,rfl⟩
 rw [put_put] at h2
 simp only [St.put,setS,List.set_set] at h2
 exact hg _ _ _ h2
def Cfg.own (P:Program) (c:Cfg Kc):Option (Cfg Kc):=match c with
 | .plain ops (o::rest) k st=>match opA P (evL st.slot) (st.blocks.map some) o,o.dst with
   | .nsl n T l,some d=>if wantA st.slot ops o=some true then some (.plain ops rest k { st with slots:=st.slots.set d (.fv (.sc (.slc st.blocks.length 0 n n))),blocks:=st.blocks ++ [(T,l)] }) else none
   | _,_=>none
 | _=>none
theorem Ok.own {c c' : Cfg Kc} (h:c.own P=some c') (hg:Ok P f w00 Out c'):Ok P f w00 Out c:=by
 unfold Cfg.own at h
 split at h
 ·split at h
  ·rename_i ho hd
   split at h
   ·rename_i hw
    injection h with h
    subst h
    exact ⟨good_own ho hd hw hg.good⟩
   ·cases h
  ·cases h
 ·cases h
theorem Ok.callSA {c:Cfg Kc} (fn:FuncId) (k n:Nat) (T:TypeId) (l:List (Seg Kc)) (us:List (AV Kc)) {x:AV Kc} (h:Fits P fn (.fv (.nsl n T l)::us) x) (hf:c.callee P=some fn) (ha:c.args P = .fv (.sc (.slc k 0 n n))::us) (hx:c.okT x=true) (hm:c.mem[k]?=some (some (T,l))) (hfn:∀ (args:Array Value) (w:World),(callFunc fn args).run P w = .ok (.enter fn args) w)
 (hg:Ok P f w00 Out (c.give x)):Ok P f w00 Out c :=
 ⟨good_call fn x hf hx hfn (fun β w vs _ hM hv=>by
  rw [ha] at hv
  obtain ⟨v,r,rfl,h1,h2⟩:=hv
  obtain ⟨g,hg,hv⟩:=hold_slc h1
  obtain ⟨g',cs,hg',hh,hl⟩:=hM k T l hm
  rw [hg] at hg'
  injection hg' with hg'
  subst hg'
  exact h β w _ ⟨v,r,rfl,⟨g,cs,hv,hh,hl⟩,h2⟩) hg.good⟩
theorem fitsSA_of {fn:Func} {n:Nat} {T:TypeId} {l:List (Seg Kc)} {us:List (AV Kc)} {x:AV Kc} (hfn:P.funcs[f]?=some fn) (hb:fn.body.isSome=true) (hn:(us.length+1≤fn.ntmps:Bool)=true) (hx:x.noPtr=true) (hl:l.all Seg.noPtr=true) (has:us.all AV.noPtr=true)
 (h:∀ w00,Ok P f w00 (fun v w=>x.holds [] v w) (.items [.code (fn.body.getD .skip)] { slots:=(.fv (.sc (.slc 0 0 n n))::us)++List.replicate (fn.ntmps-(us.length+1)) .un,blocks := [(T,l)],ro:=1 })):Fits P f (.fv (.nsl n T l)::us) x:=by
 rintro β w vs ⟨v,r,rfl,⟨g,cs,rfl,hg,hcs⟩,h2⟩
 have h2' : holdsA [g] us r w:=by
  have key:∀ {l:List (AV Kc)} {ts:List Value},l.all AV.noPtr=true→holdsA β l ts w→holdsA [g] l ts w:=fun {l}=>by
   induction l with
   | nil=>intro ts _ h;exact h
   | cons y l ih =>
     rintro ts hn ⟨v,r,e,h1,h2⟩
     rw [List.all_cons,Bool.and_eq_true] at hn
     exact ⟨v,r,e,AV.noPtr_holds hn.1 h1,ih hn.2 h2⟩
  exact key has h2
 have hb2:fn.body=some (fn.body.getD .skip):=by
  cases hb2:fn.body with
  | none=>rw [hb2] at hb;cases hb
  | some c=>rfl
 refine (calls_of_good (w00:=w) (Out:=fun v w=>x.holds [] v w) hfn hb2 (.fv (.sc (.slc 0 0 n n))::us) [(T,l)] [g] (.slice (some ⟨g,0,none⟩) n n::r) (fn.ntmps-(us.length+1)) (by simp at hn;simp;omega) ⟨_,r,rfl,⟨g,rfl,rfl⟩,h2'⟩ rfl (by simp)
  (fun k T' l' hk=>?_) (by simp;exact lt_of_block hg) (h w).good).mono ?_
 ·match k,hk with
  | 0,hk =>
    simp at hk
    obtain ⟨rfl,rfl⟩:=hk
    exact ⟨g,cs,rfl,hg,hcs.noPtr hl⟩
 ·rintro e w' ⟨v,rfl,hb,ho⟩
  exact ⟨v,rfl,hb,AV.noPtr_holds hx ho⟩
end
theorem kgoN {f:FuncId} {fn:Func} {args:List (AV Kn)} {x:AV Kn} (n:Nat) (hfn:Tryz.prog.funcs[f]?=some fn) (hc:(fn.body.isSome,decide (args.length≤fn.ntmps),x.noPtr,args.all AV.noPtr)=(true,true,true,true))
 (h:∀ w00,Ok Tryz.prog f w00 (fun v w=>x.holds [] v w) (runA Tryz.prog n (startA fn args))):Fits Tryz.prog f args x:=by
 simp only [Prod.mk.injEq] at hc
 exact fits_go hfn hc.1 hc.2.1 hc.2.2.1 hc.2.2.2 fun w00=>Ok.go (by kernel_rfl) kn_ok n (h w00)
theorem kgoSA {f:FuncId} {fn:Func} {n:Nat} {T:TypeId} {l:List (Seg Kn)} {us:List (AV Kn)} {x:AV Kn} (hfn:Tryz.prog.funcs[f]?=some fn) (hc:(fn.body.isSome,decide (us.length+1≤fn.ntmps),x.noPtr,l.all Seg.noPtr,us.all AV.noPtr)=(true,true,true,true,true))
 (h:∀ w00,Ok Tryz.prog f w00 (fun v w=>x.holds [] v w) (runA Tryz.prog 1000 (.items [.code (fn.body.getD .skip)] { slots:=(.fv (.sc (.slc 0 0 n n))::us)++List.replicate (fn.ntmps-(us.length+1)) .un,blocks := [(T,l)],ro:=1 }))):Fits Tryz.prog f (.fv (.nsl n T l)::us) x:=by
 simp only [Prod.mk.injEq] at hc
 exact fitsSA_of hfn hc.1 hc.2.1 hc.2.2.1 hc.2.2.2.1 hc.2.2.2.2 fun w00=>Ok.go (by kernel_rfl) kn_ok 1000 (h w00)
section
variable {f:FuncId} {w00:World} {Out:Value→World→Prop} {c:Cfg Kn}
theorem kown (h:(c.own Tryz.prog).isSome=true) (hg:Ok Tryz.prog f w00 Out (runA Tryz.prog 1000 ((c.own Tryz.prog).getD c))):Ok Tryz.prog f w00 Out c:=by
 obtain ⟨c',hc⟩:=Option.isSome_iff_exists.1 h
 rw [hc] at hg
 exact Ok.own hc (Ok.go (by kernel_rfl) kn_ok 1000 hg)
theorem kcallSA (fn:FuncId) (k n:Nat) (T:TypeId) (l:List (Seg Kn)) (us:List (AV Kn)) {x:AV Kn} (h:Fits Tryz.prog fn (.fv (.nsl n T l)::us) x) (hc:(c.callee Tryz.prog,c.args Tryz.prog,c.okT x,c.mem[k]?)=(some fn,.fv (.sc (.slc k 0 n n))::us,true,some (some (T,l)))) (hfn:∀ (args:Array Value) (w:World),(callFunc fn args).run Tryz.prog w = .ok (.enter fn args) w)
 (hg:Ok Tryz.prog f w00 Out (runA Tryz.prog 1000 (c.give x))):Ok Tryz.prog f w00 Out c:=by
 simp only [Prod.mk.injEq] at hc
 exact Ok.callSA fn k n T l us h hc.1 hc.2.1 hc.2.2.1 hc.2.2.2 hfn (Ok.go (by kernel_rfl) kn_ok 1000 hg)
end
end Go.Proofs.YtbhcckhbbclemaaGreatDoor.Ab
namespace Go.Proofs.YtbhcckhbbclemaaGreatDoor
open Go.RowKit Pl
def B9:Nat:=1000000000
theorem B9_eq:B9=1000000000:=rfl
theorem B9_one:1<B9:=by unfold B9;omega
theorem B9_pos:0<B9:=by unfold B9;omega
def cellI (n:Nat):Value := .int .i64 (n:Int)
def Ri (w:World) (A:Option Addr) (n c:Nat) (xs:List Nat):Prop :=
 xs.length=n∧n≤c∧c≤maxLen∧(0<n→∃ ad,A=some ad∧ad.block<w.heap.size∧∀ (j x:Nat),xs[j]?=some x→w.cell? (ad.add j)=some (.int .i64 (x:Int)))
section
variable {w w' : World} {A:Option Addr} {n c:Nat} {xs:List Nat}
theorem Ri.len (h:Ri w A n c xs):xs.length=n:=h.1
theorem Ri.cap (h:Ri w A n c xs):n≤c:=h.2.1
theorem Ri.at_ (h:Ri w A n c xs) {k:Nat} (hk:k<n) :
 ∃ ad x,A=some ad∧ad.block<w.heap.size∧xs[k]?=some x∧w.cell? (ad.add k)=some (.int .i64 (x:Int)):=by
 obtain ⟨ad,e,hb,hc⟩:=h.2.2.2 (by omega)
 have hl:k<xs.length:=by have:=h.1;omega
 exact ⟨ad,xs[k],e,hb,List.getElem?_eq_getElem hl,hc k _ (List.getElem?_eq_getElem hl)⟩
theorem Ri.below (h:Ri w A n c xs) (hb:Below w.heap.size w w'):Ri w' A n c xs:=by
 refine ⟨h.1,h.2.1,h.2.2.1,fun hn=>?_⟩
 obtain ⟨ad,e,hl,hc⟩:=h.2.2.2 hn
 have:=hb.size
 exact ⟨ad,e,by omega,fun j x hx=>(hb.cell (p:=ad.add j) (by rw [block_add];exact hl)).trans (hc j x hx)⟩
theorem Ri.nil:Ri w none 0 0 []:=⟨rfl,Nat.le_refl _,Nat.zero_le _,fun h=>absurd h (by omega)⟩
theorem Ri.take (h:Ri w A n c xs) {k:Nat} (hk:k≤n):Ri w A k c (xs.take k):=by
 refine ⟨by rw [List.length_take,h.1];omega,Nat.le_trans hk h.2.1,h.2.2.1,fun hp=>?_⟩
 obtain ⟨ad,e,hl,hc⟩:=h.2.2.2 (by omega)
 refine ⟨ad,e,hl,fun j x hx=>hc j x ?_⟩
 rw [List.getElem?_take] at hx
 split at hx
 ·exact hx
 ·cases hx
end
def Bi (w:World) (g:Nat) (t:TypeId) (ys:List Nat):Prop:=w.heap[g]?=some (.cells (ys.map cellI).toArray t (0,0))
section
variable {w w' : World} {g:Nat} {t:TypeId} {ys:List Nat}
theorem Bi.lt (h:Bi w g t ys):g<w.heap.size:=by
 unfold Bi at h
 rcases Nat.lt_or_ge g w.heap.size with hlt|hge
 ·exact hlt
 ·rw [Array.getElem?_eq_none hge] at h;cases h
theorem Bi.cell (h:Bi w g t ys) {i x:Nat} (hx:ys[i]?=some x):w.cell? ⟨g,i,none⟩=some (.int .i64 (x:Int)):=by
 unfold Bi at h
 simp [World.cell?,h,hx,cellI]
theorem Bi.cell_get (h:Bi w g t ys) {i:Nat} (hi:i<ys.length):w.cell? ⟨g,i,none⟩=some (.int .i64 ((ys[i]:Nat):Int)):=h.cell (List.getElem?_eq_getElem hi)
theorem Bi.frozen (h:Bi w g t ys) (i:Nat):w.frozen? ⟨g,i,none⟩=false:=by
 unfold Bi at h
 simp [World.frozen?,h]
theorem Bi.set_ (h:Bi w g t ys) (i x:Nat):Bi (w.setCell ⟨g,i,none⟩ (.int .i64 (x:Int))) g t (ys.set i x):=by
 unfold Bi at h ⊢
 simp only [World.setCell,Array.getElem?_modify,h]
 simp [List.map_set,cellI]
theorem Bi.drew (h:Bi w g t ys):Bi w.drew g t ys:=h
theorem Bi.drewN (h:Bi w g t ys) (k:Nat):Bi (w.drewN k) g t ys:=h
theorem Bi.alloc (h:Bi w g t ys) (o:Obj):Bi (w.alloc o) g t ys:=(Below.heap_alloc w o g h.lt).trans h
theorem Bi.far (h:Bi w g t ys) {p:Addr} (hp:g≠p.block) (u:Value):Bi (w.setCell p u) g t ys:=(Below.heap_setCell w p u g hp).trans h
theorem Bi.below {B:Nat} (h:Bi w g t ys) (hb:Below B w w') (hg:g<B):Bi w' g t ys:=(hb.block g hg).trans h
theorem Bi.rd (h:Bi w g t ys) (hm:ys.length≤maxLen):Ri w (some ⟨g,0,none⟩) ys.length ys.length ys:=by
 refine ⟨rfl,Nat.le_refl _,hm,fun _=>⟨_,rfl,h.lt,fun j x hx=>?_⟩⟩
 have:(⟨g,0,none⟩:Addr).add j=⟨g,j,none⟩:=by unfold Addr.add;split <;> simp_all
 rw [this]
 exact h.cell hx
theorem Bi.of_own {base e n:Nat} {xs:List Value} (h:w.ownsRow base e 1 (.slice (some ⟨g,0,none⟩) n n) n xs) (hx:xs=ys.map cellI):Bi w g e ys:=by
 obtain ⟨h1,h2|⟨g',cap,cur,hv,_,hh,_,_,hs,ht⟩⟩:=h
 ·obtain ⟨hv,_⟩:=h2
  injection hv with hv
  cases hv
 ·injection hv with hv _ hc
  injection hv with hv
  injection hv with hv
  subst hc
  subst hv
  unfold Bi
  rw [hh]
  have:cur.toList=xs:=by
   rw [← ht,List.take_of_length_le]
   simp [hs]
  have e2:cur=(ys.map cellI).toArray:=by rw [← hx,← this]
  rw [e2]
end
def In (w:World) (v:Value) (z:Int):Prop :=
 ∃ A n c xs,v = .agg #[.bool (decide (z<0)),.slice A n c]∧Ri w A n c xs∧Dig B9 xs∧Norm xs∧val B9 xs=z.natAbs
def TrimI (xs:List Nat) (k:Nat):Prop:=k≤xs.length∧Norm (xs.take k)∧val B9 (xs.take k)=val B9 xs
set_option maxHeartbeats 400000 in
theorem trim_raw (A:Option Addr) (n c:Nat) (xs:List Nat) (w:World) (h:Ri w A n c xs) :
 Calls Tryz.prog 166 #[.slice A n c] w fun e w'=>Hid (∃ k,TrimI xs k∧e = .returned (.slice A k c))∧w=w':=by
 have HR:=Lib.hid h
 have hnc:n≤c:=h.cap
 have hcm:c≤9223372036854775807:=h.2.2.1
 clear h
 go_enter Tryz.func166,Tryz.ntmps166
 go_wp2
 go_loop [0] (fun v => ∃ k:Nat,k≤n∧val B9 (xs.take k)=val B9 xs∧v = .slice A k c) (fun v=>lenOf v)
 case atStart=>exact ⟨n,Nat.le_refl _,by rw [List.take_of_length_le (by rw [HR.out.len];omega)],rfl⟩
 case round =>
  obtain ⟨k,hk,hv,rfl⟩:=hrel
  have HV:=Lib.hid hv
  clear hv
  by_cases hk0:0<k
  ·obtain ⟨ad,x,rfl,_hb,hx,hcell⟩:=HR.out.at_ (k:=k-1) (by omega)
   have HX:=Lib.hid hx
   clear hx
   go_wp2
   ·have h0 : x = 0 := by have:((x:Int)==0)=true:=by assumption
                          simpa using this
    subst h0
    refine ⟨⟨k-1,by omega,?_,rfl⟩,by simp only [lenOf];omega⟩
    have hlt:k-1<xs.length:=by rw [HR.out.len];omega
    have hz:xs[k-1]=0:=by have:=HX.out;rw [List.getElem?_eq_getElem hlt] at this;injection this
    have:=val_take_pred B9 hlt hz
    rw [show k-1+1=k from by omega] at this
    rw [← this];exact HV.out
   ·have h0:((x:Int)==0)=false:=by assumption
    go_ret
    refine ⟨⟨k,⟨by rw [HR.out.len];exact hk,norm_take (by rw [HR.out.len];exact hk) (fun _=>?_),HV.out⟩,rfl⟩,rfl⟩
    rw [HX.out]
    intro e
    injection e with e
    subst e
    simp at h0
  ·have hz:decide (0<(k:Int))=false:=by simp;omega
   have hk00:k=0:=by omega
   have HK:=Lib.hid hk00
   clear hk00
   go_wp2
   go_ret
   refine ⟨⟨k,⟨by omega,?_,HV.out⟩,rfl⟩,rfl⟩
   rw [HK.out]
   simpa using Norm.nil
end Go.Proofs.YtbhcckhbbclemaaGreatDoor
