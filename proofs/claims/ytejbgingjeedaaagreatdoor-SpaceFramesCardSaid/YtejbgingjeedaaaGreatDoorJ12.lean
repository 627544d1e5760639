/- Parts of the proof, joined. -/
import Derived.Test.YtejbgingjeedaaaGreatDoorJ11
import Derived.Laws.RangeAny
import Derived.Test.YtejbgingjeedaaaGreatDoorJ2
import Derived.Test.YtejbgingjeedaaaGreatDoorJ4
import Derived.Test.YtejbgingjeedaaaGreatDoorJ5
set_option linter.unusedSimpArgs false
set_option linter.unusedVariables false
namespace Go.Proofs.YtejbgingjeedaaaGreatDoor.Ab
open Go.RowKit Go.Proofs.YtejbgingjeedaaaGreatDoor Pl
variable {Kc:Value→Bool}
def Seg.ren (ks:List Nat):Seg Kc→Seg Kc
 | .ptr k off => .ptr (ks.getD k 0) off
 | .slc k off n c => .slc (ks.getD k 0) off n c
 | s=>s
def FV.ren (ks:List Nat):FV Kc→FV Kc
 | .sc s => .sc (s.ren ks)
 | .ag l => .ag (l.map (Seg.ren ks))
 | .nsl n T l => .nsl n T (l.map (Seg.ren ks))
 | .clo F a b => .clo F (a.map fun c=>(c.1,c.2.map (Seg.ren ks))) (b.map fun c=>(c.1,c.2.map (Seg.ren ks)))
 | .un => .un
def AV.ren (ks:List Nat):AV Kc→AV Kc
 | .fv f => .fv (f.ren ks)
 | .tup l => .tup (l.map (FV.ren ks))
def Seg.inR (n:Nat):Seg Kc→Bool
 | .ptr k _=>decide (k<n)
 | .slc k _ _ _=>decide (k<n)
 | _=>true
def FV.inR (n:Nat):FV Kc→Bool
 | .sc s=>s.inR n
 | .ag l | .nsl _ _ l=>l.all (Seg.inR n)
 | .clo _ a b=>(a.all fun c=>c.2.all (Seg.inR n))&&(b.all fun c=>c.2.all (Seg.inR n))
 | .un=>true
def AV.inR (n:Nat):AV Kc→Bool
 | .fv f=>f.inR n
 | .tup l=>l.all (FV.inR n)
abbrev sub (β ks:List Nat):List Nat:=ks.map fun k=>β.getD k 0
theorem sub_at {β ks:List Nat} {k g:Nat} (hk:k<ks.length) (h:β[ks.getD k 0]?=some g):(sub β ks)[k]?=some g:=by
 rw [List.getElem?_map,List.getElem?_eq_getElem hk]
 rw [List.getD_eq_getElem?_getD,List.getElem?_eq_getElem hk] at h
 simp only [Option.getD_some] at h
 simp [h]
theorem Seg.ren_holds {β ks:List Nat} {s:Seg Kc} {cs:List Value} {w:World} (hr:s.inR ks.length=true) (h:(s.ren ks).holds β cs w):s.holds (sub β ks) cs w:=by
 cases s with
 | lit v=>exact h
 | sp s=>exact h
 | ptr k off=>obtain ⟨g,h1,e⟩:=h;exact ⟨g,sub_at (by simpa [Seg.inR] using hr) h1,e⟩
 | slc k off n c=>obtain ⟨g,h1,e⟩:=h;exact ⟨g,sub_at (by simpa [Seg.inR] using hr) h1,e⟩
theorem holdsL.ren {β ks:List Nat} {w:World}:∀ {l:List (Seg Kc)} {cs:List Value},l.all (Seg.inR ks.length)=true→holdsL β (l.map (Seg.ren ks)) cs w→holdsL (sub β ks) l cs w
 | [],_,_,h=>h
 | s::l,_,hn,⟨a,b,e,h1,h2⟩=>by
   rw [List.all_cons,Bool.and_eq_true] at hn
   exact ⟨a,b,e,Seg.ren_holds hn.1 h1,holdsL.ren hn.2 h2⟩
theorem holdsC.ren {β ks:List Nat} {w:World}:∀ {l:List (Bool×List (Seg Kc))} {vs:List Value},(l.all fun c=>c.2.all (Seg.inR ks.length))=true→holdsC β (l.map fun c=>(c.1,c.2.map (Seg.ren ks))) vs w→holdsC (sub β ks) l vs w
 | [],_,_,h=>h
 | (b,m)::l,_,hn,⟨v,r,e,h1,h2⟩=>by
   rw [List.all_cons,Bool.and_eq_true] at hn
   refine ⟨v,r,e,?_,holdsC.ren hn.2 h2⟩
   cases b with
   | true=>obtain ⟨cs,e,h1⟩:=h1;exact ⟨cs,e,h1.ren hn.1⟩
   | false=>exact holdsL.ren hn.1 h1
theorem FV.ren_holds {β ks:List Nat} {f:FV Kc} {v:Value} {w:World} (hr:f.inR ks.length=true) (h:(f.ren ks).holds β v w):f.holds (sub β ks) v w:=by
 cases f with
 | sc s=>exact Seg.ren_holds hr h
 | ag l=>obtain ⟨cs,e,hl⟩:=h;exact ⟨cs,e,hl.ren hr⟩
 | nsl n T l=>obtain ⟨g,cs,e,hg,hl⟩:=h;exact ⟨g,cs,e,hg,hl.ren hr⟩
 | clo F a b =>
   rw [FV.inR,Bool.and_eq_true] at hr
   obtain ⟨xs,ys,e,h1,h2⟩:=h
   exact ⟨xs,ys,e,h1.ren hr.1,h2.ren hr.2⟩
 | un=>trivial
theorem holdsF.ren {β ks:List Nat} {w:World}:∀ {l:List (FV Kc)} {vs:List Value},l.all (FV.inR ks.length)=true→holdsF β (l.map (FV.ren ks)) vs w→holdsF (sub β ks) l vs w
 | [],_,_,h=>h
 | f::l,_,hn,⟨v,r,e,h1,h2⟩=>by
   rw [List.all_cons,Bool.and_eq_true] at hn
   exact ⟨v,r,e,FV.ren_holds hn.1 h1,holdsF.ren hn.2 h2⟩
theorem AV.ren_holds {β ks:List Nat} {x:AV Kc} {v:Value} {w:World} (hr:x.inR ks.length=true) (h:(x.ren ks).holds β v w):x.holds (sub β ks) v w:=by
 cases x with
 | fv f=>exact FV.ren_holds hr h
 | tup l=>obtain ⟨vs,e,h⟩:=h;exact ⟨vs,e,h.ren hr⟩
theorem holdsA.ren {β ks:List Nat} {w:World}:∀ {l:List (AV Kc)} {vs:List Value},l.all (AV.inR ks.length)=true→holdsA β (l.map (AV.ren ks)) vs w→holdsA (sub β ks) l vs w
 | [],_,_,h=>h
 | x::l,_,hn,⟨v,r,e,h1,h2⟩=>by
   rw [List.all_cons,Bool.and_eq_true] at hn
   exact ⟨v,r,e,AV.ren_holds hn.1 h1,holdsA.ren hn.2 h2⟩
def zQ (P:Program) (f:FuncId) (bl:List (TypeId×List (Seg Kc))) (args:List (AV Kc)) (x:AV Kc):Prop :=
 ∀ β w vs,β.length=bl.length→β.Nodup→Mem β (bl.map some) w→holdsA β args vs w→Calls P f vs.toArray w fun e w' => ∃ v,e = .returned v∧Below w.heap.size w w'∧x.holds [] v w'
section
variable {P:Program} {f:FuncId} {w00:World} {Out:Value→World→Prop}
theorem fitsM_of {fn:Func} {bl:List (TypeId×List (Seg Kc))} {args:List (AV Kc)} {x:AV Kc} (hfn:P.funcs[f]?=some fn) (hb:fn.body.isSome=true) (hn:(args.length≤fn.ntmps:Bool)=true)
 (h:∀ w00,Ok P f w00 (fun v w=>x.holds [] v w) (.items [.code (fn.body.getD .skip)] { slots:=args++List.replicate (fn.ntmps-args.length) .un,blocks:=bl,ro:=bl.length })):zQ P f bl args x:=by
 intro β w vs hl hnd hM hv
 have hb2:fn.body=some (fn.body.getD .skip):=by
  cases hb2:fn.body with
  | none=>rw [hb2] at hb;cases hb
  | some c=>rfl
 refine (eO (w00:=w) (Out:=fun v w=>x.holds [] v w) hfn hb2 args bl β vs (fn.ntmps-args.length) (by simp at hn;omega) hv hl hnd hM (fun g hg=>?_) (h w).good).mono ?_
 ·obtain ⟨k,hk⟩:=List.getElem?_of_mem hg
  have hk' : k<bl.length:=by rw [← hl];exact (List.getElem?_eq_some_iff.1 hk).1
  obtain ⟨g',cs,hg',hh,_⟩:=hM k bl[k].1 bl[k].2 (by simp [hk'])
  rw [hk] at hg'
  injection hg' with hg'
  subst hg'
  exact lt_of_block hh
 ·rintro e w' ⟨v,rfl,hb,ho⟩
  exact ⟨v,rfl,hb,ho⟩
theorem mem_sub {β ks:List Nat} {w:World} {mem:List (Option (TypeId×List (Seg Kc)))} {bl:List (TypeId×List (Seg Kc))} (hM:Mem β mem w) (hb:ks.map (fun k=>mem[k]?)=bl.map (fun b=>some (some b))) (hp:(bl.all fun b=>b.2.all Seg.noPtr)=true):Mem (sub β ks) (bl.map some) w:=by
 intro k T l hk
 rw [List.getElem?_map] at hk
 cases hbk:bl[k]? with
 | none=>rw [hbk] at hk;cases hk
 | some b =>
   rw [hbk] at hk
   simp only [Option.map_some,Option.some.injEq] at hk
   subst hk
   have h1:(ks.map (fun k=>mem[k]?))[k]?=some (some (some (T,l))):=by rw [hb,List.getElem?_map,hbk];rfl
   rw [List.getElem?_map] at h1
   cases hkk:ks[k]? with
   | none=>rw [hkk] at h1;cases h1
   | some j =>
     rw [hkk] at h1
     simp only [Option.map_some,Option.some.injEq] at h1
     obtain ⟨g,cs,h2,h3,h4⟩:=hM j T l h1
     refine ⟨g,cs,?_,h3,holdsL.noPtr ?_ h4⟩
     ·rw [List.getElem?_map,hkk]
      simp [h2]
     ·exact List.all_eq_true.1 hp (T,l) (List.mem_of_getElem? hbk)
theorem xO {γ:List Nat} {w:World} {bl:List (TypeId×List (Seg Kc))} (hl:γ.length=bl.length) (hM:Mem γ (bl.map some) w) (hnd:(bl.map (·.1)).Nodup):γ.Nodup:=by
 rw [List.Nodup,List.pairwise_iff_getElem] at hnd ⊢
 intro i j hi hj hij he
 have hi' : i<bl.length:=by omega
 have hj' : j<bl.length:=by omega
 obtain ⟨g,cs,h1,h2,_⟩:=hM i bl[i].1 bl[i].2 (by simp [hi'])
 obtain ⟨g',cs',h3,h4,_⟩:=hM j bl[j].1 bl[j].2 (by simp [hj'])
 rw [List.getElem?_eq_getElem hi] at h1
 rw [List.getElem?_eq_getElem hj] at h3
 injection h1 with h1
 injection h3 with h3
 rw [← h1,he,h3,h4] at h2
 injection h2 with h2
 injection h2 with _ h5 _
 refine hnd i j (by simpa using hi') (by simpa using hj') hij ?_
 simp [h5]
theorem Ok.callM {c:Cfg Kc} (fn:FuncId) (ks:List Nat) (bl:List (TypeId×List (Seg Kc))) (args:List (AV Kc)) {x:AV Kc} (h:zQ P fn bl args x) (hf:c.callee P=some fn) (ha:c.args P=args.map (AV.ren ks)) (hx:c.okT x=true) (hnp:x.noPtr=true)
 (hb:ks.map (fun k=>c.mem[k]?)=bl.map (fun b=>some (some b))) (hr:args.all (AV.inR ks.length)=true) (hp:(bl.all fun b=>b.2.all Seg.noPtr)=true) (hnd:(bl.map (·.1)).Nodup) (hfn:∀ (args:Array Value) (w:World),(callFunc fn args).run P w = .ok (.enter fn args) w)
 (hg:Ok P f w00 Out (c.give x)):Ok P f w00 Out c :=
 ⟨oU fn x hf hx hfn (fun β w vs _ hM hv=>by
  rw [ha] at hv
  have hl:(sub β ks).length=bl.length:=by have:=congrArg List.length hb;simpa using this
  have hM':=mem_sub hM hb hp
  refine (h (sub β ks) w vs hl (xO hl hM' hnd) hM' (hv.ren hr)).mono ?_
  rintro e w' ⟨v,e1,e2,e3⟩
  exact ⟨v,e1,e2,AV.noPtr_holds hnp e3⟩) hg.good⟩
end
theorem kgoM {f:FuncId} {fn:Func} {bl:List (TypeId×List (Seg Kn))} {args:List (AV Kn)} {x:AV Kn} (hfn:Tryz.prog.funcs[f]?=some fn) (hc:(fn.body.isSome,decide (args.length≤fn.ntmps))=(true,true)) (_h:True)
 (h:∀ w00,Ok Tryz.prog f w00 (fun v w=>x.holds [] v w) (dC Tryz.prog 1000 (.items [.code (fn.body.getD .skip)] { slots:=args++List.replicate (fn.ntmps-args.length) .un,blocks:=bl,ro:=bl.length }))):zQ Tryz.prog f bl args x:=by
 simp only [Prod.mk.injEq] at hc
 exact fitsM_of hfn hc.1 hc.2 fun w00=>Ok.go (by kernel_rfl) lM 1000 (h w00)
theorem xP {f:FuncId} {w00:World} {Out:Value→World→Prop} {c:Cfg Kn} (fn:FuncId) (ks:List Nat) (bl:List (TypeId×List (Seg Kn))) (args:List (AV Kn)) {x:AV Kn} (h:zQ Tryz.prog fn bl args x)
 (hc:(c.callee Tryz.prog,c.args Tryz.prog,c.okT x,x.noPtr,ks.map (fun k=>c.mem[k]?),args.all (AV.inR ks.length),(bl.all fun b=>b.2.all Seg.noPtr))=(some fn,args.map (AV.ren ks),true,true,bl.map (fun b=>some (some b)),true,true)) (hnd:(bl.map (·.1)).Nodup) (hfn:∀ (args:Array Value) (w:World),(callFunc fn args).run Tryz.prog w = .ok (.enter fn args) w)
 (hg:Ok Tryz.prog f w00 Out (dC Tryz.prog 1000 (c.give x))):Ok Tryz.prog f w00 Out c:=by
 simp only [Prod.mk.injEq] at hc
 obtain ⟨h1,h2,h3,h4,h5,h6,h7⟩:=hc
 exact Ok.callM fn ks bl args h h1 h2 h3 h4 h5 h6 h7 hnd hfn (Ok.go (by kernel_rfl) lM 1000 hg)
end Go.Proofs.YtejbgingjeedaaaGreatDoor.Ab
namespace Go.Proofs.YtejbgingjeedaaaGreatDoor.Ab
open Go.RowKit Go.Proofs.YtejbgingjeedaaaGreatDoor Pl
section
variable {w u1 u2 u3 v1 v2 v3 x1 x2 x3 y1 y2 y3 z1 z2 z3:Rat}
abbrev wu (w u1 u2 u3:Rat):List (TypeId×List (Seg Kn)) := [(69,[nb w]),(71,[nb u1,nb u2,nb u3])]
theorem turn1F (h:Fits Tryz.prog 83 [num w,vc u1 u2 u3,vc v1 v2 v3] (vc x1 x2 x3)) :
 zQ Tryz.prog 82 (wu w u1 u2 u3) [vc v1 v2 v3,.fv (.sc (.ptr 0 0)),.fv (.sc (.ptr 1 0))] (vc x1 x2 x3):=by
 refine kgoM Tryz.func82 (by kernel_rfl) trivial fun w00=>?_
 refine jC 83 [num w,vc u1 u2 u3,vc v1 v2 v3] (h) Tryz.call83 ?_
 exact jR Tryz.func82
abbrev cloT:AV Kn := .fv (.clo 82 [] [(false,[.ptr 0 0]),(false,[.ptr 1 0])])
theorem zR (h1:Fits Tryz.prog 83 [num w,vc u1 u2 u3,vc (1:Int) (0:Int) (0:Int)] (vc x1 x2 x3)) (h2:Fits Tryz.prog 83 [num w,vc u1 u2 u3,vc (0:Int) (1:Int) (0:Int)] (vc y1 y2 y3)) (h3:Fits Tryz.prog 83 [num w,vc u1 u2 u3,vc (0:Int) (0:Int) (1:Int)] (vc z1 z2 z3)) :
 zQ Tryz.prog 85 (wu w u1 u2 u3) [cloT,mt (1:Int) (0:Int) (0:Int) (0:Int) (1:Int) (0:Int) (0:Int) (0:Int) (1:Int)] (mt x1 x2 x3 y1 y2 y3 z1 z2 z3):=by
 refine kgoM Tryz.func85 (by kernel_rfl) trivial fun w00=>?_
 refine xP 82 [0,1] (wu w u1 u2 u3) [vc (1:Int) (0:Int) (0:Int),.fv (.sc (.ptr 0 0)),.fv (.sc (.ptr 1 0))] (turn1F h1) (by kernel_rfl) (by simp) (Tryz.call82) ?_
 refine xP 82 [0,1] (wu w u1 u2 u3) [vc (0:Int) (1:Int) (0:Int),.fv (.sc (.ptr 0 0)),.fv (.sc (.ptr 1 0))] (turn1F h2) (by kernel_rfl) (by simp) (Tryz.call82) ?_
 refine xP 82 [0,1] (wu w u1 u2 u3) [vc (0:Int) (0:Int) (1:Int),.fv (.sc (.ptr 0 0)),.fv (.sc (.ptr 1 0))] (turn1F h3) (by kernel_rfl) (by simp) (Tryz.call82) ?_
 exact jR Tryz.func85
theorem apiTurnF {b:Bool} (hw:Wr w) (hu:kA u1 u2 u3) (hb:decide (w=0)=b) (h0:b=true→(decide (u1=0)&&decide (u2=0)&&decide (u3=0))=false)
 (h1:Fits Tryz.prog 83 [num w,vc u1 u2 u3,vc (1:Int) (0:Int) (0:Int)] (vc x1 x2 x3)) (h2:Fits Tryz.prog 83 [num w,vc u1 u2 u3,vc (0:Int) (1:Int) (0:Int)] (vc y1 y2 y3)) (h3:Fits Tryz.prog 83 [num w,vc u1 u2 u3,vc (0:Int) (0:Int) (1:Int)] (vc z1 z2 z3))
 (hr:Wf (0:Int) (0:Int) (0:Int) x1 x2 x3 y1 y2 y3 z1 z2 z3):FitsW Tryz.prog Gl 28 [.fv (.ag [bY (writeB w),bY (writeB u1),bY (writeB u2),bY (writeB u3)])] (gF (0:Int) (0:Int) (0:Int) x1 x2 x3 y1 y2 y3 z1 z2 z3):=by
 have i0:yK 0:=by constructor <;> omega
 cases b with
 | true =>
   refine cA Tryz.func28 (by kernel_rfl) fun w00 hG=>?_;have hI:=aS hG
   refine jW hI 80 [gP 67,tx (writeB w),gP 37,vS u1 u2 u3] (readRV hw hu) Tryz.call80 ?_
   refine jC 81 [num w] (bK hb) Tryz.call81 ?_
   refine jC 60 [vc u1 u2 u3] (eZ (h0 rfl)) Tryz.call60 ?_
   refine jC 84 [iv 0 0 0] (jK i0 i0 i0) Tryz.call84 ?_
   refine jC 86 [] (unitsF) Tryz.call86 ?_
   refine xP 85 [2,3] (wu w u1 u2 u3) [cloT,mt (1:Int) (0:Int) (0:Int) (0:Int) (1:Int) (0:Int) (0:Int) (0:Int) (1:Int)] (zR h1 h2 h3) (by kernel_rfl) (by simp) (Tryz.call85) ?_
   refine jW hI 42 [kY (0:Int) (0:Int) (0:Int) x1 x2 x3 y1 y2 y3 z1 z2 z3] (rW hr) Tryz.call42 ?_
   exact jR Tryz.func28
 | false =>
   refine cA Tryz.func28 (by kernel_rfl) fun w00 hG=>?_;have hI:=aS hG
   refine jW hI 80 [gP 67,tx (writeB w),gP 37,vS u1 u2 u3] (readRV hw hu) Tryz.call80 ?_
   refine jC 81 [num w] (bK hb) Tryz.call81 ?_
   refine jC 84 [iv 0 0 0] (jK i0 i0 i0) Tryz.call84 ?_
   refine jC 86 [] (unitsF) Tryz.call86 ?_
   refine xP 85 [2,3] (wu w u1 u2 u3) [cloT,mt (1:Int) (0:Int) (0:Int) (0:Int) (1:Int) (0:Int) (0:Int) (0:Int) (1:Int)] (zR h1 h2 h3) (by kernel_rfl) (by simp) (Tryz.call85) ?_
   refine jW hI 42 [kY (0:Int) (0:Int) (0:Int) x1 x2 x3 y1 y2 y3 z1 z2 z3] (rW hr) Tryz.call42 ?_
   exact jR Tryz.func28
end
section
variable {o1 o2 o3 x1 x2 x3 y1 y2 y3 z1 z2 z3 p1 p2 p3 u1 u2 u3 v1 v2 v3 w1 w2 w3 q1 q2 q3 r1 r2 r3 s1 s2 s3 t1 t2 t3:Rat}
theorem readFF (h:Fv o1 o2 o3 x1 x2 x3 y1 y2 y3 z1 z2 z3) (k:Fv p1 p2 p3 u1 u2 u3 v1 v2 v3 w1 w2 w3):FitsW Tryz.prog Gl 87 [gP 35,gW o1 o2 o3 x1 x2 x3 y1 y2 y3 z1 z2 z3,gP 35,gW p1 p2 p3 u1 u2 u3 v1 v2 v3 w1 w2 w3] (.tup [.ag [nb o1,nb o2,nb o3,nb x1,nb x2,nb x3,nb y1,nb y2,nb y3,nb z1,nb z2,nb z3],.ag [nb p1,nb p2,nb p3,nb u1,nb u2,nb u3,nb v1,nb v2,nb v3,nb w1,nb w2,nb w3],.sc z0]):=by
 refine cA Tryz.func87 (by kernel_rfl) fun w00 hG=>?_;have hI:=aS hG
 refine jW hI 35 [gW o1 o2 o3 x1 x2 x3 y1 y2 y3 z1 z2 z3] (h.r) Tryz.call35 ?_
 refine jW hI 35 [gW p1 p2 p3 u1 u2 u3 v1 v2 v3 w1 w2 w3] (k.r) Tryz.call35 ?_
 refine jC 69 [.fv (.nsl 2 31 [z0,z0])] (iF) Tryz.call69 ?_
 exact jR Tryz.func87
theorem apiComposeF (h:Fv o1 o2 o3 x1 x2 x3 y1 y2 y3 z1 z2 z3) (k:Fv p1 p2 p3 u1 u2 u3 v1 v2 v3 w1 w2 w3) (eq1:o1+ld p1 p2 p3 x1 y1 z1=q1) (eq2:o2+ld p1 p2 p3 x2 y2 z2=q2) (eq3:o3+ld p1 p2 p3 x3 y3 z3=q3) (er1:ld u1 u2 u3 x1 y1 z1=r1) (er2:ld u1 u2 u3 x2 y2 z2=r2) (er3:ld u1 u2 u3 x3 y3 z3=r3) (es1:ld v1 v2 v3 x1 y1 z1=s1) (es2:ld v1 v2 v3 x2 y2 z2=s2) (es3:ld v1 v2 v3 x3 y3 z3=s3) (et1:ld w1 w2 w3 x1 y1 z1=t1) (et2:ld w1 w2 w3 x2 y2 z2=t2) (et3:ld w1 w2 w3 x3 y3 z3=t3) (hr:Wf q1 q2 q3 r1 r2 r3 s1 s2 s3 t1 t2 t3)
 (hxy:dt r1 r2 r3 s1 s2 s3=0) (hyz:dt s1 s2 s3 t1 t2 t3=0) (hzx:dt t1 t2 t3 r1 r2 r3=0):FitsW Tryz.prog Gl 29 [gW o1 o2 o3 x1 x2 x3 y1 y2 y3 z1 z2 z3,gW p1 p2 p3 u1 u2 u3 v1 v2 v3 w1 w2 w3] (gF q1 q2 q3 r1 r2 r3 s1 s2 s3 t1 t2 t3):=by
 have hp:Fits Tryz.prog 38 [kY o1 o2 o3 x1 x2 x3 y1 y2 y3 z1 z2 z3,vc p1 p2 p3] (vc q1 q2 q3):=by
  rw [← eq1,← eq2,← eq3]
  exact placeF (h.w.lm.mono (by decide)) ((vD k.w.o).mono (by decide)) ((vD h.w.o).mono (by decide))
 have lr:Fits Tryz.prog 77 [kY o1 o2 o3 x1 x2 x3 y1 y2 y3 z1 z2 z3,vc u1 u2 u3] (vc r1 r2 r3):=by
  rw [← er1,← er2,← er3]
  exact leadF (h.w.lm.mono (by decide)) ((vD k.w.x).mono (by decide))
 have ls:Fits Tryz.prog 77 [kY o1 o2 o3 x1 x2 x3 y1 y2 y3 z1 z2 z3,vc v1 v2 v3] (vc s1 s2 s3):=by
  rw [← es1,← es2,← es3]
  exact leadF (h.w.lm.mono (by decide)) ((vD k.w.y).mono (by decide))
 have lt:Fits Tryz.prog 77 [kY o1 o2 o3 x1 x2 x3 y1 y2 y3 z1 z2 z3,vc w1 w2 w3] (vc t1 t2 t3):=by
  rw [← et1,← et2,← et3]
  exact leadF (h.w.lm.mono (by decide)) ((vD k.w.z).mono (by decide))
 refine cA Tryz.func29 (by kernel_rfl) fun w00 hG=>?_;have hI:=aS hG
 refine jW hI 87 [gP 35,gW o1 o2 o3 x1 x2 x3 y1 y2 y3 z1 z2 z3,gP 35,gW p1 p2 p3 u1 u2 u3 v1 v2 v3 w1 w2 w3] (readFF h k) Tryz.call87 ?_
 refine jC 38 [kY o1 o2 o3 x1 x2 x3 y1 y2 y3 z1 z2 z3,vc p1 p2 p3] (hp) Tryz.call38 ?_
 refine jC 85 [.fv (.clo 77 [(true,[nb o1,nb o2,nb o3,nb x1,nb x2,nb x3,nb y1,nb y2,nb y3,nb z1,nb z2,nb z3])] []),mt u1 u2 u3 v1 v2 v3 w1 w2 w3] (eachVVc Tryz.call77 lr ls lt) Tryz.call85 ?_
 refine jW hI 88 [kY q1 q2 q3 r1 r2 r3 s1 s2 s3 t1 t2 t3] (qL hr hxy hyz hzx) Tryz.call88 ?_
 exact jR Tryz.func29
end
end Go.Proofs.YtejbgingjeedaaaGreatDoor.Ab
namespace Go.Proofs.YtejbgingjeedaaaGreatDoor
open Go.RowKit Pl
def isL (c:Nat):Bool:=(decide (97≤c)&&decide (c≤122)) || (decide (65≤c)&&decide (c≤90))
def isBh (c:Nat):Bool:=(decide (48≤c)&&decide (c≤57)) || decide (c=95)
def iK:List UInt8→Bool
 | []=>true
 | c::l=>(isL c.toNat || isBh c.toNat)&&iK l
def xQ (s:ByteArray):Bool:=match aC s with
 | []=>false
 | c::l=>isL c.toNat&&iK l&&decide (s.size≤24)
theorem nB (c:Nat) (w:World):Calls Tryz.prog 91 #[.int .i32 (c:Int)] w fun e w'=>e = .returned (.bool (isL c))∧w'=w:=by
 go_enter Tryz.func91,Tryz.ntmps91
 have e1:decide ((97:Int)≤c)=decide (97≤c):=by rw [decide_eq_decide];omega
 have e2:decide ((c:Int)≤122)=decide (c≤122):=by rw [decide_eq_decide];omega
 have e3:decide ((65:Int)≤c)=decide (65≤c):=by rw [decide_eq_decide];omega
 have e4:decide ((c:Int)≤90)=decide (c≤90):=by rw [decide_eq_decide];omega
 by_cases h1:97≤c <;> by_cases h2:c≤122 <;> by_cases h3:65≤c <;> by_cases h4:c≤90 <;>
  (have k1:(97≤(c:Int))=(97≤c):=by simp;omega) <;> first|omega|(
   simp only [h1,h2,h3,h4,decide_true,decide_false] at e1 e2 e3 e4
   go_wp2
   go_ret
   simp [isL,h1,h2,h3,h4])
theorem isBehind_any (c:Nat) (w:World):Calls Tryz.prog 92 #[.int .i32 (c:Int)] w fun e w'=>e = .returned (.bool (isBh c))∧w'=w:=by
 go_enter Tryz.func92,Tryz.ntmps92
 have e1:decide ((48:Int)≤c)=decide (48≤c):=by rw [decide_eq_decide];omega
 have e2:decide ((c:Int)≤57)=decide (c≤57):=by rw [decide_eq_decide];omega
 have e3:decide ((c:Int)=95)=decide (c=95):=by rw [decide_eq_decide];omega
 have e4:((c:Int)==95)=decide (c=95):=by rw [Bool.eq_iff_iff];simp;omega
 by_cases h1:48≤c <;> by_cases h2:c≤57 <;> by_cases h3:c=95 <;> first|omega|(
  simp only [h1,h2,h3,decide_true,decide_false] at e1 e2 e3
  go_wp2
  go_ret
  simp [isBh,e4,h1,h2,h3])
theorem isL_high {c:Nat} (h:128≤c):isL c=false:=by
 simp only [isL,Bool.or_eq_false_iff,Bool.and_eq_false_iff,decide_eq_false_iff_not]
 omega
theorem zS {c:Nat} (h:128≤c):isBh c=false:=by
 simp only [isBh,Bool.or_eq_false_iff,Bool.and_eq_false_iff,decide_eq_false_iff_not]
 omega
def lX (pos c:Nat):Bool:=isL c || (decide (pos≠0)&&isBh c)
theorem rX (l:List UInt8):iK l=true↔∀ c∈l,(isL c.toNat || isBh c.toNat)=true:=by
 induction l with
 | nil=>simp [iK]
 | cons c l ih=>simp only [iK,Bool.and_eq_true,ih,List.forall_mem_cons]
theorem nameB_ok {s:ByteArray} (h:∀ (j:Nat) (hj:j<s.size),lX j (s[j]'hj).toNat=true):xQ s=(decide (s.size≠0)&&decide (s.size≤24)):=by
 have hl:=aE s
 have hg:∀ (j:Nat) (hj:j<(aC s).length),lX j ((aC s)[j]'hj).toNat=true:=fun j hj=>by
  have:=h j (by rw [← hl];exact hj)
  simp only [aC,Array.getElem_toList]
  exact this
 unfold xQ
 cases hb:aC s with
 | nil=>rw [hb] at hl;simp at hl;simp [← hl]
 | cons c l =>
   rw [hb] at hl hg
   have h0:=hg 0 (by simp)
   simp [lX] at h0
   have hf:iK l=true:=by
    rw [rX]
    intro d hd
    obtain ⟨i,hi,rfl⟩:=List.getElem_of_mem hd
    have:=hg (i+1) (by simp;omega)
    simpa [lX] using this
   show (isL c.toNat&&iK l&&decide (s.size≤24))=_
   rw [h0,hf]
   simp at hl
   have:s.size≠0:=by omega
   simp [this]
theorem zT {s:ByteArray} {j:Nat} (hj:j<s.size) (h:lX j (s[j]'hj).toNat=false):xQ s=false:=by
 have hl:=aE s
 have hg:lX j ((aC s)[j]'(by omega)).toNat=false:=by
  simp only [aC,Array.getElem_toList]
  exact h
 unfold xQ
 cases hb:aC s with
 | nil=>rfl
 | cons c l =>
   simp only [hb] at hg
   cases j with
   | zero=>simp [lX] at hg;simp [hg]
   | succ j =>
     have:iK l=false:=by
      rw [Bool.eq_false_iff]
      intro hf
      rw [rX] at hf
      have h2:=hf (l[j]'(by rw [hb] at hl;simp at hl;omega)) (List.getElem_mem _)
      simp [lX] at hg
      simp [hg] at h2
     simp [this]
set_option maxRecDepth 100000 in
theorem isName_any (s:ByteArray) (w:World):Calls Tryz.prog 32 #[.string s] w fun e w'=>e = .returned (.bool (xQ s))∧Below w.heap.size w w':=by
 have hne:(!(s.toList==(⟨#[]⟩:ByteArray).toList))=decide (s.size≠0):=by
  rw [Go.ByteArray.toList_eq,Go.ByteArray.toList_eq]
  have hl:=aE s
  unfold aC at hl
  cases hb:s.data.toList with
  | nil=>rw [hb] at hl;simp at hl;simp [← hl]
  | cons c l =>
    rw [hb] at hl
    simp at hl
    have:s.size≠0:=by omega
    simp [this]
 go_enter Tryz.func32,Tryz.ntmps32
 go_wp2
 go_loopw [7] (fun _ wr => ∃ pos:Nat,wr=w.iter s pos∧pos≤s.size∧∀ (j:Nat) (hj:j<s.size),j<pos→lX j (s[j]'hj).toNat=true) (fun _ wr=>s.size-wr.iterPos w.heap.size)
 case atStart=>exact ⟨0,rfl,Nat.zero_le _,fun j _ h=>absurd h (Nat.not_lt_zero _)⟩
 case round =>
  obtain ⟨pos,rfl,hpos,hok⟩:=hrel
  by_cases hp:pos<s.size
  ·obtain ⟨c,k,hdc,hk,hgood⟩:∃ c k,Utf8.decode s pos=(c,k)∧1≤k∧(lX pos c=true→(∀ hj:pos<s.size,lX pos (s[pos]'hj).toNat=true)∧k=1)∧(lX pos c=false→∀ hj:pos<s.size,lX pos (s[pos]'hj).toNat=false):=by
    by_cases ha:(s[pos]'hp).toNat<128
    ·exact ⟨_,_,decode_ascii s pos hp ha,Nat.le_refl _,fun h=>⟨fun _=>h,rfl⟩,fun h _=>h⟩
    ·obtain ⟨h1,h2⟩:=decode_high s pos hp (by omega)
     refine ⟨(Utf8.decode s pos).1,(Utf8.decode s pos).2,rfl,h2,fun h=>?_,fun _ _=>?_⟩
     ·rw [lX,isL_high h1,zS h1] at h
      simp at h
     ·rw [lX,isL_high (by omega),zS (by omega)]
      simp
   have hnx:∀ ty,(Instr.next (.pointer (some ⟨w.heap.size,0,none⟩)) true ty).run Tryz.prog (w.iter s pos) = .ok (.tuple #[.bool true,.int .i64 pos,.int .i32 (c:Int)]) (w.iter s (pos+k)):=fun ty=>by
    have:=run_next_any (P:=Tryz.prog) w s pos ty hp
    rw [hdc] at this
    exact this
   have HH:=aH (aI hp (aI hpos (aI hok (aI hk (aI hgood hne)))))
   clear hdc hp hpos hok hk hgood hne
   by_cases hL:isL c=true
   ·go_wp2_with fail
    refine (nB c _).mono ?_
    rintro e w' ⟨rfl,rfl⟩
    rw [hL]
    go_wp2
    go_roundw
    case rel =>
     obtain ⟨hp,hpos,hok,hk,hg,_⟩:=HH.out
     obtain ⟨g1,rfl⟩:=hg.1 (by rw [lX,hL];rfl)
     refine ⟨pos+1,rfl,hp,fun j hj hjp=>?_⟩
     by_cases hjj:j=pos
     ·subst hjj;exact g1 hj
     ·exact hok j hj (by omega)
    case measure =>
     have:=HH.out.1
     have:=HH.out.2.2.2.1
     simp
     omega
   ·have hL:isL c=false:=by simpa using hL
    by_cases h0:pos=0
    ·have hz:((pos:Int)==0)=true:=by simp [h0]
     have hbad:lX pos c=false:=by rw [lX,hL,h0];simp
     clear h0
     go_wp2_with fail
     refine (nB c _).mono ?_
     rintro e w' ⟨rfl,rfl⟩
     rw [hL]
     go_wp2
     go_ret
     obtain ⟨hp,_,_,_,hg,_⟩:=HH.out
     exact ⟨by rw [zT hp (hg.2 hbad hp)];rfl,fA _ _ _⟩
    ·have hz:((pos:Int)==0)=false:=by simp [h0]
     have H0:=aH h0
     clear h0
     go_wp2_with fail
     refine (nB c _).mono ?_
     rintro e w' ⟨rfl,rfl⟩
     rw [hL]
     go_wp2_with fail
     refine (isBehind_any c _).mono ?_
     rintro e w' ⟨rfl,rfl⟩
     cases hB:isBh c with
     | false =>
       go_wp2
       go_ret
       obtain ⟨hp,_,_,_,hg,_⟩:=HH.out
       exact ⟨by rw [zT hp (hg.2 (by rw [lX,hL,hB];simp) hp)];rfl,fA _ _ _⟩
     | true =>
       go_wp2
       go_roundw
       case rel =>
        obtain ⟨hp,hpos,hok,hk,hg,_⟩:=HH.out
        obtain ⟨g1,rfl⟩:=hg.1 (by have:=H0.out;simp [lX,hL,hB,this])
        refine ⟨pos+1,rfl,hp,fun j hj hjp=>?_⟩
        by_cases hjj:j=pos
        ·subst hjj;exact g1 hj
        ·exact hok j hj (by omega)
       case measure =>
        have:=HH.out.1
        have:=HH.out.2.2.2.1
        simp
        omega
  ·have hnx:∀ ty,(Instr.next (.pointer (some ⟨w.heap.size,0,none⟩)) true ty).run Tryz.prog (w.iter s pos)=_:=fun ty=>run_next_end w s pos ty hp
   have hres:xQ s=(decide (s.size≠0)&&decide (s.size≤24)):=nameB_ok fun j hj=>hok j hj (by omega)
   have H2:=aH hres
   clear hres hok hp hpos
   by_cases h0:s.size=0
   ·have hne2:s.toList.isEmpty=true:=by rw [Go.ByteArray.toList_eq];simp;have:=aE s;unfold aC at this;exact Array.eq_empty_of_size_eq_zero (by simpa using this.trans h0)
    clear hne
    go_wp2
    go_ret
    refine ⟨?_,fA _ _ _⟩
    rw [H2.out,h0]
    rfl
   ·have hne2:s.toList.isEmpty=false:=by
     rw [Go.ByteArray.toList_eq,Bool.eq_false_iff]
     intro he
     have h2:=aE s
     unfold aC at h2
     rw [List.isEmpty_iff.1 he] at h2
     exact h0 h2.symm
    have H0:=aH h0
    clear hne h0
    go_wp2
    go_ret
    refine ⟨?_,fA _ _ _⟩
    rw [H2.out]
    have h0:=H0.out
    simp [h0]
    omega
end Go.Proofs.YtejbgingjeedaaaGreatDoor
namespace Go.Proofs.YtejbgingjeedaaaGreatDoor.Ab
open Go.RowKit Go.Proofs.YtejbgingjeedaaaGreatDoor Pl
theorem isNameF {s:ByteArray} {b:Bool} (h:xQ s=b):Fits Tryz.prog 32 [lt s] (bl b):=by
 intro β w vs hv
 obtain ⟨v,rfl,h1⟩:=dE hv
 rw [aN h1]
 exact (isName_any s w).mono fun e w' ⟨e1,e2⟩=>⟨_,e1,e2,by rw [h];exact aX rfl⟩
end Go.Proofs.YtejbgingjeedaaaGreatDoor.Ab
namespace Go.Proofs.YtejbgingjeedaaaGreatDoor
open Go.RowKit Pl
theorem cM {s:ByteArray} {i:Nat} (h:i<s.size):(aC s)[i]?=some (s[i]'h):=by
 rw [List.getElem?_eq_getElem (by rw [aE];exact h)]
 rfl
def aK (s:ByteArray):Nat:=(aC s).findIdx (fun c=>c==47)
theorem cG (s:ByteArray):aK s≤s.size:=by unfold aK;rw [← aE];exact List.findIdx_le_length
theorem slashB_at {s:ByteArray} {pos:Nat} (hp:pos<s.size) (h:(s[pos]'hp)=47) (hb:∀ (j:Nat) (hj:j<s.size),j<pos→(s[j]'hj)≠47):aK s=pos:=by
 unfold aK
 refine (List.findIdx_eq (by rw [aE];exact hp)).2 ⟨?_,fun j hj=>?_⟩
 ·have:=cM hp
  rw [List.getElem?_eq_getElem (by rw [aE];exact hp)] at this
  injection this with this
  rw [this,h];rfl
 ·have hj2:j<s.size:=Nat.lt_trans hj hp
  have:=cM hj2
  rw [List.getElem?_eq_getElem (by rw [aE];exact hj2)] at this
  injection this with this
  rw [this]
  simpa using hb j hj2 hj
theorem slashB_none {s:ByteArray} (hb:∀ (j:Nat) (hj:j<s.size),(s[j]'hj)≠47):aK s=s.size:=by
 unfold aK
 rw [← aE,List.findIdx_eq_length]
 intro c hc
 obtain ⟨j,hj,e⟩:=List.mem_iff_getElem.1 hc
 have hj2:j<s.size:=by rw [← aE];exact hj
 have h1:=cM hj2
 rw [List.getElem?_eq_getElem hj,e] at h1
 injection h1 with h1
 rw [h1]
 simpa using hb j hj2
set_option maxHeartbeats 1000000 in
theorem slash_any (s:ByteArray) (w:World) (hs:s.size≤9223372036854775807):Calls Tryz.prog 151 #[.string s] w fun e w'=>e = .returned (.int .i64 (aK s:Nat))∧w'=w:=by
 go_enter Tryz.func151,Tryz.ntmps151
 go_wp2
 go_loop [3] (fun v => ∃ pos:Nat,v = .int .i64 (pos:Int)∧pos≤s.size∧Hid (∀ (j:Nat) (hj:j<s.size),j<pos→(s[j]'hj)≠47)) (fun v=>s.size-(intOf v).toNat)
 case atStart=>exact ⟨0,rfl,Nat.zero_le _,fun j _ h=>absurd h (Nat.not_lt_zero _)⟩
 case round =>
  obtain ⟨pos,rfl,hpos,hok⟩:=hrel
  by_cases hp:pos<s.size
  ·have p1:((pos:Nat):Int)<s.size:=by omega
   obtain ⟨c,hc⟩:∃ c:Nat,(s[pos]'hp).toNat=c:=⟨_,rfl⟩
   by_cases h47:c=47
   ·have hres:aK s=pos:=slashB_at hp (by rw [h47] at hc;exact UInt8.toNat_inj.1 hc) (fun j hj hlt=>hok.out j hj hlt)
    have HR:=aH hres
    have k1:((c:Int)==47)=true:=by rw [h47];rfl
    clear hres hok h47
    go_wp2
    go_ret
    exact ⟨by rw [HR.out];rfl,rfl⟩
   ·have k1:((c:Int)==47)=false:=by simp;omega
    have HR:=aH (show ∀ (j:Nat) (hj:j<s.size),j<pos+1→(s[j]'hj)≠47 from fun j hj hlt=>by
     by_cases hjj:j=pos
     ·subst hjj
      intro e
      rw [e] at hc
      exact h47 hc.symm
     ·exact hok.out j hj (by omega))
    clear hok h47
    have HP:=aH hp
    go_wp2
    first
     | (go_round;(case rel=>exact ⟨pos+1,by go_num,HP.out,HR.out⟩);(case measure=>(simp [intOf];omega)))
     | exact ⟨⟨pos+1,by simp,HP.out,HR.out⟩,by have:=HP.out;simp [intOf];omega⟩
  ·have hres:aK s=s.size:=slashB_none fun j hj=>hok.out j hj (by omega)
   have HR:=aH hres
   have p1:¬ (pos:Int)<s.size:=by omega
   clear hres hok
   go_wp2
   go_ret
   exact ⟨by rw [HR.out];rfl,rfl⟩
def dT (s:ByteArray):Bool:=(aC s).all (fun c=>decide (48≤c.toNat)&&decide (c.toNat≤57))
theorem kG {s:ByteArray} {pos:Nat} (hp:pos<s.size) (h:(s[pos]'hp).toNat<48∨57<(s[pos]'hp).toNat):dT s=false:=by
 unfold dT
 rw [List.all_eq_false]
 refine ⟨s[pos]'hp,List.mem_of_getElem? (cM hp),?_⟩
 simp
 omega
theorem digitsB_ok {s:ByteArray} (h:∀ (j:Nat) (hj:j<s.size),48≤(s[j]'hj).toNat∧(s[j]'hj).toNat≤57):dT s=true:=by
 unfold dT
 rw [List.all_eq_true]
 intro c hc
 obtain ⟨j,hj,e⟩:=List.mem_iff_getElem.1 hc
 have hj2:j<s.size:=by rw [← aE];exact hj
 have h1:=cM hj2
 rw [List.getElem?_eq_getElem hj,e] at h1
 injection h1 with h1
 rw [h1]
 simpa using h j hj2
theorem uR {s:ByteArray}:dT s=true↔AllDig (aC s):=by
 unfold dT AllDig
 rw [List.all_eq_true]
 simp
set_option maxHeartbeats 1000000 in
theorem digits_any (s:ByteArray) (w:World) (hs:s.size≤9223372036854775807):Calls Tryz.prog 207 #[.string s] w fun e w'=>e = .returned (.bool (dT s))∧w'=w:=by
 go_enter Tryz.func207,Tryz.ntmps207
 go_wp2
 go_loop [3] (fun v => ∃ pos:Nat,v = .int .i64 (pos:Int)∧pos≤s.size∧Hid (∀ (j:Nat) (hj:j<s.size),j<pos→48≤(s[j]'hj).toNat∧(s[j]'hj).toNat≤57)) (fun v=>s.size-(intOf v).toNat)
 case atStart=>exact ⟨0,rfl,Nat.zero_le _,fun j _ h=>absurd h (Nat.not_lt_zero _)⟩
 case round =>
  obtain ⟨pos,rfl,hpos,hok⟩:=hrel
  by_cases hp:pos<s.size
  ·have p1:((pos:Nat):Int)<s.size:=by omega
   obtain ⟨c,hc⟩:∃ c:Nat,(s[pos]'hp).toNat=c:=⟨_,rfl⟩
   by_cases h48:c<48
   ·have hres:dT s=false:=kG hp (.inl (by rw [hc];exact h48))
    have HR:=aH hres
    have k1:(c:Int)<48:=by omega
    clear hres hok
    go_wp2
    go_ret
    exact ⟨by rw [HR.out];rfl,rfl⟩
   ·by_cases h57:57<c
    ·have hres:dT s=false:=kG hp (.inr (by rw [hc];exact h57))
     have HR:=aH hres
     have k1:¬ (c:Int)<48:=by omega
     have k2:(57:Int)<c:=by omega
     clear hres hok
     go_wp2
     go_ret
     exact ⟨by rw [HR.out];rfl,rfl⟩
    ·have k1:(48:Int)≤c:=by omega
     have k2:(c:Int)≤57:=by omega
     have HR:=aH (show ∀ (j:Nat) (hj:j<s.size),j<pos+1→48≤(s[j]'hj).toNat∧(s[j]'hj).toNat≤57 from fun j hj hlt=>by
      by_cases hjj:j=pos
      ·subst hjj;rw [hc];omega
      ·exact hok.out j hj (by omega))
     clear hok h48 h57
     have HP:=aH hp
     go_wp2
     first
      | (go_round;(case rel=>exact ⟨pos+1,by go_num,HP.out,HR.out⟩);(case measure=>(simp [intOf];omega)))
      | exact ⟨⟨pos+1,by simp,HP.out,HR.out⟩,by have:=HP.out;simp [intOf];omega⟩
  ·have hres:dT s=true:=digitsB_ok fun j hj=>hok.out j hj (by omega)
   have HR:=aH hres
   have p1:¬ (pos:Int)<s.size:=by omega
   clear hres hok
   go_wp2
   go_ret
   exact ⟨by rw [HR.out];rfl,rfl⟩
set_option maxHeartbeats 1000000 in
theorem lY (s:ByteArray) (w:World) (hd:AllDig (aC s)) (hs:s.size≤17):Calls Tryz.prog 210 #[.string s] w fun e w'=>e = .returned (.int .i64 (aT (aC s):Nat))∧w'=w:=by
 go_enter Tryz.func210,Tryz.ntmps210
 go_wp2
 have HD:=aH (aI hd hs)
 clear hd
 go_loop [3,4] (fun nv v => ∃ pos m:Nat,v = .int .i64 (pos:Int)∧nv = .int .i64 (m:Int)∧pos≤s.size∧Hid (m=aT ((aC s).take pos))) (fun _ v=>s.size-(intOf v).toNat)
 case atStart=>exact ⟨0,0,rfl,rfl,Nat.zero_le _,by rw [List.take_zero];exact natOf_nil.symm⟩
 case round =>
  obtain ⟨pos,m,rfl,rfl,hpos,hm⟩:=hrel
  by_cases hp:pos<s.size
  ·have p1:((pos:Nat):Int)<s.size:=by omega
   obtain ⟨c,hc⟩:∃ c:Nat,(s[pos]'hp).toNat=c:=⟨_,rfl⟩
   have hcd:48≤c∧c≤57:=by rw [← hc];exact HD.out.1 _ (List.mem_of_getElem? (cM hp))
   have hmb:m<100000000000000000:=by
    rw [hm.out]
    refine Nat.lt_of_lt_of_le (gJ (HD.out.1.take pos)) ?_
    have:10^((aC s).take pos).length≤10^17:=Nat.pow_le_pow_right (by omega) (by rw [List.length_take];have:=HD.out.2;omega)
    exact this
   have hnext:10*m+c-48=aT ((aC s).take (pos+1)):=by
    have h1:=cM hp
    obtain ⟨h2,e⟩:=List.getElem?_eq_some_iff.1 h1
    rw [List.take_succ_eq_append_getElem h2,wR,← hm.out,e,hc]
    omega
   have HR:=aH hnext
   have k1:(48:Int)≤c:=by omega
   have k2:(c:Int)≤57:=by omega
   have k3:(m:Int)≤100000000000000000:=by omega
   clear hnext hm hmb hcd
   have HP:=aH hp
   go_wp2
   first
    | (go_round;(case rel=>exact ⟨pos+1,10*m+c-48,by go_num,by go_num,HP.out,HR.out⟩);(case measure=>(simp [intOf];omega)))
    | exact ⟨⟨pos+1,10*m+c-48,by simp,by go_num,HP.out,HR.out⟩,by have:=HP.out;simp [intOf];omega⟩
  ·have p1:¬ (pos:Int)<s.size:=by omega
   have HR:=aH (show m=aT (aC s) by rw [hm.out,List.take_of_length_le (by rw [aE];omega)])
   clear hm
   go_wp2
   go_ret
   exact ⟨by rw [HR.out];rfl,rfl⟩
set_option maxHeartbeats 1000000 in
theorem rgcd_any (a b:Nat) (w:World) (ha:a<9223372036854775808) (hb:b<9223372036854775808):Calls Tryz.prog 211 #[.int .i64 (a:Int),.int .i64 (b:Int)] w fun e w'=>e = .returned (.int .i64 (Nat.gcd a b:Nat))∧Below w.heap.size w w':=by
 have HA:=aH (aI ha hb)
 clear ha hb
 go_enter Tryz.func211,Tryz.ntmps211
 go_wp2
 go_loopw [0,1] (fun av bv wr => ∃ x y:Nat,av = .int .i64 (x:Int)∧bv = .int .i64 (y:Int)∧Hid (Nat.gcd x y=Nat.gcd a b∧x<9223372036854775808∧y<9223372036854775808)∧Below w.heap.size w wr) (fun _ bv _=>(intOf bv).toNat)
 case atStart=>exact ⟨a,b,rfl,rfl,⟨rfl,HA.out⟩,Below.refl _ _⟩
 case round =>
  obtain ⟨x,y,rfl,rfl,hi,hbw⟩:=hrel
  rcases Nat.eq_zero_or_pos y with h0|h0
  ·subst h0
   have HR:=aH (show x=Nat.gcd a b by rw [← hi.out.1,Nat.gcd_zero_right])
   clear hi
   go_wp2
   go_ret
   exact ⟨by rw [← HR.out];rfl,hbw⟩
  ·have k1:(0:Int)<y:=by omega
   obtain ⟨r,hr⟩:∃ r,r=x%y:=⟨_,rfl⟩
   have HR:=aH (show (Nat.gcd y r=Nat.gcd a b∧y<9223372036854775808∧r<9223372036854775808)∧r<y∧(x:Int)%(y:Int)=(r:Int)∧(x:Int).tmod (y:Int)=(r:Int) by
    have hlt:r<y:=by rw [hr];exact Nat.mod_lt _ h0
    refine ⟨⟨by rw [hr,Nat.gcd_comm,← Nat.gcd_rec,Nat.gcd_comm];exact hi.out.1,hi.out.2.2,Nat.lt_trans hlt hi.out.2.2⟩,hlt,by rw [hr];simp,?_⟩
    rw [Int.tmod_eq_emod_of_nonneg (by omega),hr];simp)
   have hz0:((y:Int)==0)=false:=by simp;omega
   have hz1:¬ (y:Int)=0:=by omega
   have hz3:((y:Int) == -1)=false:=by simp
   clear hi hr h0
   go_wp2
   go_quiet (fail)
   have hb2:=cI hbw nq
   clear hbw
   generalize wr.drewN nq=w2 at *
   go_wp2
   go_roundw
   case rel =>
    obtain ⟨h1,h2,h3,h4⟩:=HR.out
    exact ⟨y,r,rfl,by first|(rw [h3];done)|(rw [h4];done)|rfl,h1,hb2⟩
   case measure =>
    obtain ⟨h1,h2,h3,h4⟩:=HR.out
    simp only [intOf]
    first|rw [h3]|rw [h4]
    omega
theorem cmpI_lt {a b:Nat} (h:a<b):bS a b = -1:=by unfold bS;rw [if_pos (by omega)]
theorem cmpI_gt {a b:Nat} (h:b<a):bS a b=1:=by unfold bS;rw [if_neg (by omega),if_pos (by omega)]
set_option maxHeartbeats 1000000 in
theorem eX (A:Option Addr) (n c:Nat) (xs:List Nat) (A' : Option Addr) (n' c' : Nat) (ys:List Nat) (w:World) (h:Ri w A n c xs) (h' : Ri w A' n' c' ys)
 (hd:Dig B9 xs) (hd' : Dig B9 ys) (hn:Norm xs) (hn' : Norm ys) :
 Calls Tryz.prog 216 #[.slice A n c,.slice A' n' c'] w (Gives w (.int .i64 (bS (val B9 xs) (val B9 ys)))):=by
 have HX:=aH (aI h (aI hd hn))
 have HY:=aH (aI h' (aI hd' hn'))
 have hnc:n≤c:=h.cap
 have hcm:c≤9223372036854775807:=h.2.2.1
 have hnc' : n'≤c':=h'.cap
 have hcm' : c'≤9223372036854775807:=h'.2.2.1
 clear h h' hd hd' hn hn'
 rcases Nat.lt_trichotomy n n' with hl|hl|hl
 ·have ht:((n:Int) != n')=true:=by simp;omega
  have ht2:(n:Int)<n':=by omega
  have HL:=aH hl
  clear hl
  go_enter Tryz.func216,Tryz.ntmps216
  go_wp2
  go_ret
  refine ⟨bX ?_,Below.refl _ _⟩
  rw [cmpI_lt]
  exact dF dX HX.out.2.1 HY.out.2.2 (by rw [HX.out.1.len,HY.out.1.len];exact HL.out)
 ·subst hl
  have ht:((n:Int) != n)=false:=by simp
  go_enter Tryz.func216,Tryz.ntmps216
  go_wp2
  go_loopw [5] (fun i wr => ∃ k:Nat,k≤n∧Agree xs ys k∧i = .int .i64 ((k:Int)-1)∧Below w.heap.size w wr) (fun i _=>(intOf i+1).toNat)
  case atStart=>exact ⟨n,Nat.le_refl _,by unfold Agree;rw [List.drop_eq_nil_of_le (by rw [HX.out.1.len];omega),List.drop_eq_nil_of_le (by rw [HY.out.1.len];omega)],rfl,Below.refl _ _⟩
  case round =>
   obtain ⟨k,hk,hag,rfl,hb⟩:=hrel
   have HA:=aH hag
   clear hag
   rcases Nat.eq_zero_or_pos k with rfl|hk0
   ·go_wp2
    go_ret
    refine ⟨bX ?_,hb⟩
    have:=HA.out
    unfold Agree at this
    simp at this
    rw [this]
    unfold bS
    simp
   ·obtain ⟨m,rfl⟩:∃ m,k=m+1:=⟨k-1,by omega⟩
    obtain ⟨ad,x,hA,_,hx,hcx⟩:=(HX.out.1.below hb).at_ (k:=m) (by omega)
    obtain ⟨ad',y,hA',_,hy,hcy⟩:=(HY.out.1.below hb).at_ (k:=m) (by omega)
    subst hA
    subst hA'
    have HE:=aH (aI hx hy)
    clear hx hy hk0
    have hidx:((m:Int)+1-1)=m:=by omega
    simp only [Int.natCast_add,Int.natCast_one,hidx]
    clear hidx
    rcases Nat.lt_trichotomy x y with he|he|he
    ·have ht:(x:Int)<y:=by omega
     have HE2:=aH he
     clear he
     go_wp2
     go_quiet (fail)
     go_wp2
     go_ret
     refine ⟨bX ?_,cI hb _⟩
     rw [← cmpI_lt HE2.out]
     exact wW (by rw [HX.out.1.len,HY.out.1.len]) HX.out.2.1 HY.out.2.1 (by rw [HX.out.1.len];omega) HA.out HE.out.1 HE.out.2 (by have:=HE2.out;omega)
    ·subst he
     have ht:¬ (x:Int)<x:=by omega
     go_wp2
     go_quiet (fail)
     have hcx2:(wr.drewN nq).cell? (ad.add m)=some (.int .i64 (x:Int)):=hcx
     have hcy2:(wr.drewN nq).cell? (ad'.add m)=some (.int .i64 (x:Int)):=hcy
     have hb2:=cI hb nq
     clear hb hcx hcy
     generalize wr.drewN nq=w2 at *
     go_wp2
     go_quiet (fail)
     go_wp2
     go_roundw
     case rel=>exact ⟨m,by omega,HA.out.step HE.out.1 HE.out.2 rfl,rfl,cI hb2 _⟩
     case measure=>simp [intOf]
    ·have ht:¬ (x:Int)<y:=by omega
     have ht2:(y:Int)<x:=by omega
     have HE2:=aH he
     clear he
     go_wp2
     go_quiet (fail)
     have hcx2:(wr.drewN nq).cell? (ad.add m)=some (.int .i64 (x:Int)):=hcx
     have hcy2:(wr.drewN nq).cell? (ad'.add m)=some (.int .i64 (y:Int)):=hcy
     have hb2:=cI hb nq
     clear hb hcx hcy
     generalize wr.drewN nq=w2 at *
     go_wp2
     go_quiet (fail)
     go_wp2
     go_ret
     refine ⟨bX ?_,cI hb2 _⟩
     rw [← cmpI_gt HE2.out]
     exact wW (by rw [HX.out.1.len,HY.out.1.len]) HX.out.2.1 HY.out.2.1 (by rw [HX.out.1.len];omega) HA.out HE.out.1 HE.out.2 (by have:=HE2.out;omega)
 ·have ht:((n:Int) != n')=true:=by simp;omega
  have ht2:¬ (n:Int)<n':=by omega
  have HL:=aH hl
  clear hl
  go_enter Tryz.func216,Tryz.ntmps216
  go_wp2
  go_ret
  refine ⟨bX ?_,Below.refl _ _⟩
  rw [cmpI_gt]
  exact dF dX HY.out.2.1 HX.out.2.2 (by rw [HX.out.1.len,HY.out.1.len];exact HL.out)
theorem tN (A:Option Addr) (n c:Nat) (xs:List Nat) (i:Nat) (w:World) (h:Ri w A n c xs) :
 Calls Tryz.prog 252 #[.slice A n c,.int .i64 (i:Int)] w fun e w'=>e = .returned (.int .i64 ((xs.getD i 0:Nat):Int))∧w=w':=by
 have hnc:n≤c:=h.cap
 have hcm:c≤9223372036854775807:=h.2.2.1
 by_cases hi:i<n
 ·obtain ⟨ad,x,rfl,_,hx,hcx⟩:=h.at_ hi
  have e:xs.getD i 0=x:=by simp [List.getD,hx]
  rw [e]
  clear hx e h
  go_enter Tryz.func252,Tryz.ntmps252
  go_wp2
  go_ret
  exact ⟨rfl,rfl⟩
 ·have e:xs.getD i 0=0:=by
   have:=h.len
   simp [List.getD,List.getElem?_eq_none (show xs.length≤i by omega)]
  rw [e]
  have hi2:¬ (i:Int)<n:=by omega
  clear e h hi
  go_enter Tryz.func252,Tryz.ntmps252
  go_wp2
  go_ret
  exact ⟨rfl,rfl⟩
theorem eU {q:Nat} (h:q<9223372036854775808):wrap64 (q:Int)=q:=by unfold wrap64;omega
theorem oF {w:World} {g:Nat} {cs:Array Value} {t:TypeId} {fr:Nat×Nat} (h:w.heap[g]?=some (.cells cs t fr)) (i:Nat):w.cell? ⟨g,i,none⟩=cs[i]?:=by
 unfold World.cell?
 rw [h]
 rfl
theorem gY:(Tryz.prog.info? 3).map (fun i=>(i.zero,i.size,i.bytes))=some (some (.int .i64 0),1,8):=by kernel_rfl
theorem vP {w:World} {base m:Nat} {e:TypeId} {v:Value} {ws:List Nat} (h:w.ownsRow base e 1 v m (ws.map eC)):∃ A c,v = .slice A m c∧Ri w A m c ws:=by
 obtain ⟨h1,h2⟩:=h
 have hl:ws.length=m:=by simpa using h1
 rcases h2 with ⟨rfl,rfl⟩|⟨g,cap,cur,rfl,e2,e3,e4,e5,e6,e7⟩
 ·have:ws = []:=List.eq_nil_of_length_eq_zero hl
  subst this
  exact ⟨none,0,rfl,Ri.nil⟩
 ·refine ⟨_,cap,rfl,hl,e4,e5,fun _=>⟨_,rfl,(Array.getElem?_eq_some_iff.1 e3).1,fun j x hx=>?_⟩⟩
  have ha:(⟨g,0,none⟩:Addr).add j=⟨g,j,none⟩:=by unfold Addr.add;split <;> simp_all
  have hc:w.cell? ⟨g,j,none⟩=cur[j]?:=by unfold World.cell?;rw [e3];rfl
  rw [ha,hc,← Array.getElem?_toList]
  have hj:(cur.toList.take (m*1))[0+j]?=some (.int .i64 (x:Int)):=by rw [e7,Nat.zero_add,List.getElem?_map,hx];rfl
  rw [List.getElem?_take,Nat.zero_add] at hj
  split at hj
  ·exact hj
  ·cases hj
theorem lZ {w:World} {base m:Nat} {e:TypeId} {v:Value} {xs:List Value} (h:w.ownsRow base e 1 v m xs):∀ b,v.ownBlock=some b→base≤b:=by
 intro b hb
 obtain ⟨_,h2⟩:=h
 rcases h2 with ⟨rfl,_⟩|⟨g,cap,cur,rfl,e2,_⟩
 ·cases hb
 ·simp [Value.ownBlock] at hb;omega
def GivesRi (w:World) (a:Nat) (e:Ending) (w' : World):Prop := ∃ A n c xs,e = .returned (.slice A n c)∧Ri w' A n c xs∧Dig B9 xs∧val B9 xs=a∧Below w.heap.size w w'
theorem zU {l:List Nat} {k:Nat} (h:l.length≤k):l.getD k 0=0:=by simp [List.getD,List.getElem?_eq_none h]
theorem iG (B:Nat) (l:List Nat) (k:Nat):val B (l.take (k+1))=val B (l.take k)+B^k*l.getD k 0:=by
 rcases Nat.lt_or_ge k l.length with hl|hl
 ·rw [aF _ _ _ hl]
  simp [List.getD,List.getElem?_eq_getElem hl]
 ·rw [List.take_of_length_le (by omega),List.take_of_length_le hl]
  simp [List.getD,List.getElem?_eq_none hl]
def AddI (xs ys zs:List Nat) (k cy:Nat):Prop:=cy≤1∧Dig B9 zs∧zs.length=k∧val B9 zs+B9^k*cy=val B9 (xs.take k)+val B9 (ys.take k)
theorem AddI.step {xs ys zs:List Nat} {k cy s:Nat} (h:AddI xs ys zs k cy) (hx:Dig B9 xs) (hy:Dig B9 ys) (hs:s=xs.getD k 0+ys.getD k 0+cy):AddI xs ys (zs ++ [s%B9]) (k+1) (s/B9):=by
 obtain ⟨h1,h2,h3,h4⟩:=h
 have bx:=hx.get0 cJ k
 have by':=hy.get0 cJ k
 have hq:s/B9≤1:=by
  generalize xs.getD k 0=x at *
  generalize ys.getD k 0=y at *
  subst hs
  rw [cQ] at *
  clear hx hy h2 h4
  omega
 refine ⟨hq,h2.app (Dig.cons (Nat.mod_lt _ cJ) (Dig.nil _)),by simp [h3],?_⟩
 rw [cL,h3,iG,iG,Nat.pow_succ]
 have hdm:=Nat.div_add_mod s B9
 generalize s/B9=q at *
 generalize s%B9=r at *
 generalize xs.getD k 0=x at *
 generalize ys.getD k 0=y at *
 clear bx by' hq hx hy h2
 generalize B9=V at *
 grind
theorem AddI.finish {xs ys zs:List Nat} {k:Nat} (h:AddI xs ys zs k 0) (h1:xs.length≤k) (h2:ys.length≤k):val B9 zs=val B9 xs+val B9 ys:=by
 obtain ⟨_,_,_,h4⟩:=h
 rw [List.take_of_length_le h1,List.take_of_length_le h2,Nat.mul_zero,Nat.add_zero] at h4
 exact h4
theorem AddI.nil (xs ys:List Nat):AddI xs ys [] 0 0:=⟨by omega,Dig.nil _,rfl,by simp [val]⟩
theorem addFacts {x y cy:Nat} (bx:x<1000000000) (by' : y<1000000000) (bc:cy≤1):∃ p s r q:Nat,(x:Int)+(y:Int)=(p:Int)∧(p:Int)+(cy:Int)=(s:Int)∧wrap64 (p:Int)=p∧wrap64 (s:Int)=s ∧
 (s:Int).tmod 1000000000=(r:Int)∧(s:Int)%1000000000=(r:Int)∧(s:Int).tdiv 1000000000=(q:Int)∧(s:Int)/1000000000=(q:Int)∧wrap64 (q:Int)=q∧s=x+y+cy∧r=s%1000000000∧q=s/1000000000∧(x=0→y=0→q=0):=by
 refine ⟨x+y,x+y+cy,(x+y+cy)%1000000000,(x+y+cy)/1000000000,by omega,by omega,eU (by omega),eU (by omega),?_,by omega,?_,by omega,eU (by omega),rfl,rfl,rfl,by omega⟩
 ·rw [Int.tmod_eq_emod_of_nonneg (by omega)];omega
 ·rw [Int.tdiv_eq_ediv_of_nonneg (by omega)];omega
set_option maxHeartbeats 1000000 in
set_option maxRecDepth 100000 in
theorem yN (A:Option Addr) (n c:Nat) (xs:List Nat) (A' : Option Addr) (n' c' : Nat) (ys:List Nat) (w:World) (h:Ri w A n c xs) (h' : Ri w A' n' c' ys)
 (hd:Dig B9 xs) (hd' : Dig B9 ys) (hn:n≤2199023255552) (hn' : n'≤2199023255552) :
 Calls Tryz.prog 215 #[.slice A n c,.slice A' n' c'] w (GivesRi w (val B9 xs+val B9 ys)):=by
 have HX:=aH (aI h hd)
 have HY:=aH (aI h' hd')
 have HN:=aH (aI hn hn')
 have hnc:n≤c:=h.cap
 have hcm:c≤9223372036854775807:=h.2.2.1
 have hnc' : n'≤c':=h'.cap
 have hcm' : c'≤9223372036854775807:=h'.2.2.1
 obtain ⟨i0,hi,hz0,hz1,hz2⟩:=info_parts gY
 have HI:=aH (aI hi (aI hz0 (aI hz1 hz2)))
 clear h h' hd hd' hi hz0 hz1 hz2
 go_enter Tryz.func215,Tryz.ntmps215
 go_wp2
 go_loopw [5,6,7] (fun ov cv iv wr => ∃ (k cy:Nat) (zs:List Nat),iv = .int .i64 (k:Int)∧cv = .int .i64 (cy:Int)∧AddI xs ys zs k cy∧wr.ownsRow w.heap.size 3 1 ov k (zs.map eC)∧Below w.heap.size w wr∧(k≤max n n'∨(cy=0∧k≤max n n'+1))) (fun _ _ iv _=>max n n'+1-(intOf iv).toNat)
 case atStart=>exact ⟨0,0,[],rfl,rfl,AddI.nil _ _,⟨rfl,.inl ⟨rfl,rfl⟩⟩,Below.refl _ _,.inl (Nat.zero_le _)⟩
 case round =>
  obtain ⟨k,cy,zs,rfl,rfl,hinv,hrow,hb,hk⟩:=hrel
  by_cases hgo:k<n∨k<n'∨0<cy
  ·have tri:(k:Int)<n∨(¬ (k:Int)<n∧(k:Int)<n')∨(¬ (k:Int)<n∧¬ (k:Int)<n'∧cy=1):=by
    have bc:=hinv.1
    clear hrow hinv hb
    omega
   have hkm:k≤max n n':=by omega
   have hkB:k≤2199023255552:=by have:=HN.out;omega
   obtain ⟨x,hx⟩:∃ x,x=xs.getD k 0:=⟨_,rfl⟩
   obtain ⟨y,hy⟩:∃ y,y=ys.getD k 0:=⟨_,rfl⟩
   have bx:x<1000000000:=by rw [hx];exact HX.out.2.get0 cJ k
   have by' : y<1000000000:=by rw [hy];exact HY.out.2.get0 cJ k
   have bc:cy≤1:=hinv.1
   obtain ⟨p,s,r,q,e1,e2,e3,e4,t1,t2,t3,t4,t5,hs,hr,hq,hq0⟩:=addFacts bx by' bc
   have hst:AddI xs ys (zs ++ [r]) (k+1) q:=by
    have:=hinv.step HX.out.2 HY.out.2 (s:=s) (by rw [hs,hx,hy])
    rw [cQ,← hr,← hq] at this
    exact this
   have cd:=aH (fun w' (hb' : Below w.heap.size w w')=>tN A n c xs k w' (HX.out.1.below hb'))
   have cd':=aH (fun w' (hb' : Below w.heap.size w w')=>tN A' n' c' ys k w' (HY.out.1.below hb'))
   rw [← hx] at cd
   rw [← hy] at cd'
   have hk' : k<max n n'∨q=0∧k≤max n n':=by
    rcases Nat.lt_or_ge k (max n n') with hlt|hge
    ·exact .inl hlt
    ·right
     have hl1:=HX.out.1.len
     have hl2:=HY.out.1.len
     have z1:x=0:=by rw [hx];exact zU (by rw [hl1];exact Nat.le_trans (Nat.le_max_left n n') hge)
     have z2:y=0:=by rw [hy];exact zU (by rw [hl2];exact Nat.le_trans (Nat.le_max_right n n') hge)
     exact ⟨hq0 z1 z2,hkm⟩
   have HS:=aH (aI hst (aI hrow (aI hb (aI hk' (aI hkm hinv.2.2.1)))))
   clear hst hrow hb hk hkm hk' hinv hx hy hs hr hq bx by' bc hq0 hgo
   rcases tri with b1|⟨b1,b2⟩|⟨b1,b2,b3⟩
   all_goals
    try subst b3
    try simp only [Int.natCast_one] at e2
    go_wp2_with fail
    refine (cd.out _ HS.out.2.2.1).mono ?_
    rintro e w' ⟨rfl,rfl⟩
    go_wp2_with fail
    refine (cd'.out _ HS.out.2.2.1).mono ?_
    rintro e w' ⟨rfl,rfl⟩
    go_wp2_with (at_builtin;refine wpList_append_own _ rfl _ _ 187 rfl w.heap.size 3 i0 (.int .i64 0) 1 8 Tryz.underlying187 HI.out.1 HI.out.2.1 HI.out.2.2.1 HI.out.2.2.2 rfl (by decide) _ _ _ rfl (HS.out.2.1.alloc _) ⟨wr.heap.size,0,none⟩ 1 1 [.int .i64 (r:Int)] rfl rfl ?k1 ?k2 ?k3 ?k4 ?k5 ?_)
    try (case k1 =>
     intro j u hj
     match j with
     | 0 =>
       simp only [List.getElem?_cons_zero,Option.some.injEq] at hj
       subst hj
       exact oF (heap_alloc_new wr _) 0
     | j+1=>simp at hj)
    case k2=>first|rfl|(intro u hu;simp at hu;subst hu;rfl)
    case k3=>show k+1≤9223372036854775807;omega
    case k4=>omega
    case k5=>have:=HS.out.2.2.1.size;simp;omega
    intro v' w3 hr3 hg3 _
    obtain ⟨hst,hrow,hb,hk',hkm,hzl⟩:=HS.out
    have hbw:Below w.heap.size w w3:=Below.grown (hb.alloc hb.size _) hg3 (by have:=hb.size;simp;omega) (fun b hb'=>lZ hrow b hb')
    have HX3:=aH (aI hst (aI hr3 (aI hbw (aI hk' hkm))))
    clear hst hrow hb hk' hkm hzl hr3 hg3 hbw
    go_wp2
    go_roundw
    case rel =>
     obtain ⟨hst,hr3,hbw,hk',hkm⟩:=HX3.out
     refine ⟨k+1,q,zs ++ [r],by first|rfl|go_num|simp,by first|rfl|rw [t5]|simp,hst,?_,hbw,?_⟩
     ·rw [List.map_append];exact hr3
     ·exact hk'.imp (fun h=>h) (fun h=>⟨h.1,Nat.succ_le_succ h.2⟩)
    case measure =>
     have hkm:=HX3.out.2.2.2.2
     clear e1 e2 e3 e4 t1 t2 t3 t4 t5 HX3
     simp [intOf];omega
  ·have hc0:cy=0:=by omega
   subst hc0
   obtain ⟨A2,c2,rfl,hri⟩:=vP hrow
   have hv:=hinv.finish (by rw [HX.out.1.len];omega) (by rw [HY.out.1.len];omega)
   have HF:=aH (aI hri (aI hinv.2.1 (aI hv hb)))
   have b1:¬ (k:Int)<n:=by omega
   have b2:¬ (k:Int)<n':=by omega
   clear hri hinv hv hb hk hgo hrow
   go_wp2
   go_ret
   exact ⟨A2,k,c2,zs,rfl,HF.out⟩
def Di (w:World) (v:Value) (a:Nat):Prop := ∃ A n c xs,v = .slice A n c∧Ri w A n c xs∧Dig B9 xs∧Norm xs∧val B9 xs=a
theorem Di.below {w w' : World} {v:Value} {a:Nat} (h:Di w v a) (hb:Below w.heap.size w w'):Di w' v a:=by
 obtain ⟨A,n,c,xs,hv,hr,hd,hn,ha⟩:=h
 exact ⟨A,n,c,xs,hv,hr.below hb,hd,hn,ha⟩
def GivesDi (w:World) (a:Nat) (e:Ending) (w' : World):Prop := ∃ v,e = .returned v∧Di w' v a∧Below w.heap.size w w'
def xR (w:World) (a b:Nat) (e:Ending) (w' : World):Prop := ∃ v v',e = .returned (.tuple #[v,v'])∧Di w' v a∧Di w' v' b∧Below w.heap.size w w'
theorem mA (A:Option Addr) (n c:Nat) (xs:List Nat) (w:World) (h:Ri w A n c xs) (hd:Dig B9 xs) :
 Calls Tryz.prog 250 #[.slice A n c] w fun e w'=>(∃ v,e = .returned v∧Di w v (val B9 xs))∧w=w':=by
 refine (trim_raw A n c xs w h).mono ?_
 rintro e w' ⟨⟨k,⟨hk,hn,hv⟩,rfl⟩,rfl⟩
 exact ⟨⟨_,rfl,A,k,c,xs.take k,rfl,h.take (by rw [← h.len];exact hk),hd.take k,hn,hv⟩,rfl⟩
theorem val_set (B:Nat):∀ (l:List Nat) (p d:Nat) (h:p<l.length),val B (l.set p d)+B^p*l[p]=val B l+B^p*d
 | x::l,0,d,_=>by simp [val];omega
 | x::l,p+1,d,h=>by
   have:=val_set B l p d (by simpa using h)
   simp only [List.set_cons_succ,val,List.getElem_cons_succ,Nat.pow_succ]
   have e:B*(val B (l.set p d)+B^p*l[p]'(by simpa using h))=B*(val B l+B^p*d):=by rw [this]
   rw [Nat.mul_add,Nat.mul_add] at e
   have e1:B^p*B*l[p]'(by simpa using h)=B*(B^p*l[p]'(by simpa using h)):=by rw [Nat.mul_comm (B^p) B,Nat.mul_assoc]
   have e2:B^p*B*d=B*(B^p*d):=by rw [Nat.mul_comm (B^p) B,Nat.mul_assoc]
   rw [e1,e2]
   omega
theorem qM {w:World} {g base n:Nat} (h:w.ownsRow base 3 1 (.slice (some ⟨g,0,none⟩) n n) n (madeCells #[Value.int .i64 0] n).toList):Bi w g 3 (List.replicate n 0):=by
 refine Bi.of_own h ?_
 rw [toList_madeCells_one]
 simp [eC]
theorem getD_get {l:List Nat} {k x:Nat} (h:l[k]?=some x):l.getD k 0=x:=by simp [List.getD,h]
theorem subFacts {x y cy:Nat} (bx:x<1000000000) (by' : y<1000000000) (bc:cy≤1):∃ (d s:Int) (r q:Nat),(x:Int)-(y:Int)=d∧d-(cy:Int)=s∧wrap64 d=d∧wrap64 s=s∧r<1000000000∧q≤1 ∧
 (s=(r:Int)∧q=0∨(s<0∧s+1000000000=(r:Int)∧wrap64 (r:Int)=r∧q=1))∧r+y+cy=x+1000000000*q:=by
 by_cases h:y+cy≤x
 ·refine ⟨x-y,x-y-cy,x-y-cy,0,rfl,rfl,?_,?_,by omega,by omega,.inl ⟨by omega,rfl⟩,by omega⟩ <;> unfold wrap64 <;> omega
 ·refine ⟨x-y,x-y-cy,x+1000000000-y-cy,1,rfl,rfl,?_,?_,by omega,by omega,.inr ⟨by omega,by omega,eU (by omega),rfl⟩,by omega⟩ <;> unfold wrap64 <;> omega
theorem mulFacts {o x y cy:Nat} (bo:o<1000000000) (bx:x≤1000000000) (by' : y<1000000000) (bc:cy<1000000000):∃ u p s r q:Nat,(x:Int)*(y:Int)=(u:Int)∧(o:Int)+(u:Int)=(p:Int)∧(p:Int)+(cy:Int)=(s:Int) ∧
 wrap64 (u:Int)=u∧wrap64 (p:Int)=p∧wrap64 (s:Int)=s∧(s:Int).tmod 1000000000=(r:Int)∧(s:Int)%1000000000=(r:Int)∧(s:Int).tdiv 1000000000=(q:Int)∧(s:Int)/1000000000=(q:Int)∧wrap64 (q:Int)=q ∧
 s=o+x*y+cy∧r=s%1000000000∧q=s/1000000000∧(x<1000000000→q<1000000000)∧q≤1000000000:=by
 have h1:x*y≤1000000000*999999999:=Nat.mul_le_mul bx (by omega)
 have h2:x<1000000000→x*y≤999999999*999999999:=fun h=>Nat.mul_le_mul (by omega) (by omega)
 have h3:(x:Int)*(y:Int)=((x*y:Nat):Int):=by simp
 generalize x*y=u at *
 refine ⟨u,o+u,o+u+cy,(o+u+cy)%1000000000,(o+u+cy)/1000000000,h3,by omega,by omega,eU (by omega),eU (by omega),eU (by omega),?_,by omega,?_,by omega,eU (by omega),rfl,rfl,rfl,fun h=>?_,by omega⟩
 ·rw [Int.tmod_eq_emod_of_nonneg (by omega)];omega
 ·rw [Int.tdiv_eq_ediv_of_nonneg (by omega)];omega
 ·have:=h2 h;omega
theorem divFacts {rs x d:Nat} (hd:0<d) (hd1:d<1000000000) (hr:rs<d) (hx:x<1000000000):∃ u s q r:Nat,(rs:Int)*1000000000=(u:Int)∧(u:Int)+(x:Int)=(s:Int)∧wrap64 (u:Int)=u∧wrap64 (s:Int)=s ∧
 (s:Int).tdiv d=(q:Int)∧(s:Int)/d=(q:Int)∧(s:Int).tmod d=(r:Int)∧(s:Int)%d=(r:Int)∧wrap64 (q:Int)=q∧s=rs*1000000000+x∧q=s/d∧r=s%d∧r<d∧q<1000000000:=by
 have hq:(rs*1000000000+x)/d<1000000000:=by
  rw [Nat.div_lt_iff_lt_mul hd]
  have:(rs+1)*1000000000≤d*1000000000:=Nat.mul_le_mul_right _ hr
  omega
 refine ⟨rs*1000000000,rs*1000000000+x,(rs*1000000000+x)/d,(rs*1000000000+x)%d,by omega,by omega,eU (by omega),eU (by omega),?_,?_,?_,?_,eU (by omega),rfl,rfl,rfl,Nat.mod_lt _ hd,hq⟩
 ·rw [Int.tdiv_eq_ediv_of_nonneg (by omega)];simp
 ·simp
 ·rw [Int.tmod_eq_emod_of_nonneg (by omega)];simp
 ·simp
theorem vQ (r:Nat):¬ (r:Int)<0:=Int.not_lt.2 (Int.natCast_nonneg r)
theorem fY {ops:Array Oper} {rest:List Oper} {o:Oper} {a:Act} {Q:Exit→Act→World→Prop} (hgd:o.guard=none) (s x:Operand)
 (ho:o.op = .call { callee := .builtin .append,args := #[s,x],argTypes := #[187,187] }) {B base k r:Nat} {v:Value} {zs:List Nat} {w w2:World} (hs:a.eval s=v) (hown:w2.ownsRow base 3 1 v k (zs.map eC))
 (hx:a.eval x = .slice (some ⟨w2.heap.size,0,none⟩) 1 1) (hk:k≤2199023255999) (hb:Below B w w2) (hB:B≤base) (hbase:base≤w2.heap.size)
 (h:∀ v' w',w'.ownsRow base 3 1 v' (k+1) ((zs ++ [r]).map eC)→Below B w w'→(w2.alloc (.cells #[.int .i64 (r:Int)] 3)).grownBy w' v.ownBlock→wpList Tryz.prog ops Q rest (a.put o.dst v') w') :
 wpList Tryz.prog ops Q (o::rest) a (w2.alloc (.cells #[.int .i64 (r:Int)] 3)):=by
 obtain ⟨i0,hi,hz0,hz1,hz2⟩:=info_parts gY
 refine wpList_append_own _ hgd s x 187 ho base 3 i0 (.int .i64 0) 1 8 Tryz.underlying187 hi hz0 hz1 hz2 rfl (by decide) v k (zs.map eC) hs (hown.alloc _) ⟨w2.heap.size,0,none⟩ 1 1 [.int .i64 (r:Int)] hx rfl ?_ ?_ ?_ ?_ ?_ ?_
 ·intro j u hj
  match j with
  | 0 =>
    simp only [List.getElem?_cons_zero,Option.some.injEq] at hj
    subst hj
    exact oF (heap_alloc_new w2 _) 0
  | j+1=>simp at hj
 ·intro u hu;simp at hu;subst hu;rfl
 ·show k+1≤9223372036854775807;omega
 ·omega
 ·simp;omega
 ·intro v' w' h1 h2 _
  have hsz:=hb.size
  refine h v' w' (by rw [List.map_append];exact h1) ((hb.alloc (Nat.le_trans hB hbase) _).grown h2 (by simp;omega) (fun b hb'=>?_)) h2
  have:=lZ hown b hb'
  omega
def DivJ (xs zs:List Nat) (d k r:Nat):Prop :=
 Dig B9 zs∧zs.length=xs.length∧r<d∧val B9 (zs.drop k)*d+r=val B9 (xs.drop k)
theorem DivJ.step {xs zs:List Nat} {d k r x:Nat} (h:DivJ xs zs d (k+1) r) (hx:xs[k]?=some x) (hq:(r*B9+x)/d<B9) :
 DivJ xs (zs.set k ((r*B9+x)/d)) d k ((r*B9+x)%d):=by
 obtain ⟨h1,h2,h3,h4⟩:=h
 obtain ⟨hk,ex⟩:=List.getElem?_eq_some_iff.1 hx
 refine ⟨h1.set hq,by simp [h2],Nat.mod_lt _ (by omega),?_⟩
 have e:(zs.set k ((r*B9+x)/d)).drop k=(r*B9+x)/d::zs.drop (k+1):=by
  rw [List.drop_eq_getElem_cons (by simp;omega),List.getElem_set_self,List.drop_set_of_lt (by omega)]
 rw [e,lH _ _ _ hk,ex]
 simp only [val]
 have:=Nat.div_add_mod (r*B9+x) d
 rw [← h4]
 generalize (r*B9+x)/d=q at *
 generalize (r*B9+x)%d=m at *
 clear hq h1 h3 e
 generalize B9=V at *
 grind
theorem DivJ.start (xs:List Nat) {d:Nat} (hd:0<d):DivJ xs (List.replicate xs.length 0) d xs.length 0:=⟨Dig.replicate cJ _,by simp,hd,by simp [val]⟩
theorem DivJ.finish {xs zs:List Nat} {d r:Nat} (h:DivJ xs zs d 0 r):val B9 zs=val B9 xs/d∧r=val B9 xs%d:=by
 obtain ⟨_,_,h3,h4⟩:=h
 simp only [List.drop_zero] at h4
 rw [← h4]
 constructor
 ·rw [Nat.add_comm,Nat.add_mul_div_right _ _ (by omega),Nat.div_eq_of_lt h3];omega
 ·rw [Nat.add_comm,Nat.add_mul_mod_self_right,Nat.mod_eq_of_lt h3]
theorem ret_two' {a b c d:Value} (h:a=c) (h' : b=d):Ending.returned (.tuple #[a,b]) = .returned (.tuple #[c,d]):=by rw [h,h']
theorem val_i64 {a b:Nat} (h:a=b):Value.int .i64 (a:Int) = .int .i64 (b:Int):=by rw [h]
def GivesDiI (w:World) (a b:Nat) (e:Ending) (w' : World):Prop := ∃ v,e = .returned (.tuple #[v,.int .i64 (b:Int)])∧Di w' v a∧Below w.heap.size w w'
set_option maxHeartbeats 1000000 in
set_option maxRecDepth 100000 in
theorem rY (A:Option Addr) (n c:Nat) (xs:List Nat) (d:Nat) (w:World) (h:Ri w A n c xs) (hd:Dig B9 xs) (hn:n≤2199023255552) (hd0:0<d) (hd1:d<1000000000) :
 Calls Tryz.prog 249 #[.slice A n c,.int .i64 (d:Int)] w (GivesDiI w (val B9 xs/d) (val B9 xs%d)):=by
 have HX:=aH (aI h (aI hd (aI hd0 hd1)))
 have hnc:n≤c:=h.cap
 have hcm:c≤9223372036854775807:=h.2.2.1
 have hdz:((d:Int)==0)=false:=by simp;omega
 have hdz1:¬ (d:Int)=0:=by omega
 have hdz2:¬ (d:Int) = -1:=by omega
 have hdz3:((d:Int) == -1)=false:=by simp
 obtain ⟨i0,hi,hz0,hz1,hz2⟩:=info_parts gY
 have HI:=aH (aI hi (aI hz0 (aI hz1 hz2)))
 clear h hd hi hz0 hz1 hz2 hd0 hd1
 go_enter Tryz.func249,Tryz.ntmps249
 go_wp2_with (at_make;refine wpList_make_full _ rfl _ _ 187 rfl w.heap.size 3 i0 (.int .i64 0) 1 Tryz.underlying187 HI.out.1 HI.out.2.1 HI.out.2.2.1 _ _ _ _ n rfl rfl ?b0 ?b1 ?b2 ?b3 (Nat.le_refl _) ?_)
 case b0=>rfl
 case b1=>rfl
 case b2=>rw [HI.out.2.2.2];omega
 case b3=>show n≤9223372036854775807;omega
 intro w1 hown hg1
 have hb1:Below w.heap.size w w1:=(Below.refl _ _).grown hg1 (Nat.le_refl _) (fun k h=>by cases h)
 have hblk:=qM hown
 have e0:DivJ xs (List.replicate n 0) d n 0:=by
  have:=DivJ.start xs HX.out.2.2.1
  rwa [HX.out.1.len] at this
 have HB:=aH hblk
 have H0:=aH e0
 clear hown hg1 hblk e0
 obtain ⟨g,hg⟩:∃ g,g=w.heap.size:=⟨_,rfl⟩
 rw [← hg] at HB ⊢
 have HG:=aH hg
 clear hg
 go_wp2
 go_loopw [7,8] (fun rs i wr => ∃ (k r:Nat) (zs:List Nat),k≤n∧i = .int .i64 ((k:Int)-1)∧rs = .int .i64 (r:Int)∧DivJ xs zs d k r∧Bi wr g 3 zs∧Below w.heap.size w wr) (fun _ i _=>(intOf i+1).toNat)
 case atStart=>exact ⟨n,0,_,Nat.le_refl _,rfl,rfl,H0.out,HB.out,hb1⟩
 case round =>
  clear HB H0 hb1
  obtain ⟨k,r,zs,hk,rfl,rfl,hinv,hblk,hb⟩:=hrel
  have hzn:zs.length=n:=by rw [hinv.2.1,HX.out.1.len]
  rcases Nat.eq_zero_or_pos k with rfl|hk0
  ·have hrd:=hblk.rd (by rw [hzn];show n≤9223372036854775807;omega)
   rw [hzn] at hrd
   obtain ⟨f1,f2⟩:=hinv.finish
   have HF:=aH (aI hinv.1 (aI hrd (aI f1 (aI f2 hb))))
   clear hinv hblk hzn hrd f1 f2 hb
   simp only [show (((0:Nat):Int)-1) = -1 from rfl]
   go_wp2_with (go_at_call 250;refine (mA _ _ _ zs _ HF.out.2.1 HF.out.1).mono ?_;rintro e w' ⟨⟨v,rfl,hv⟩,rfl⟩)
   go_ret2
   exact ⟨v,ret_two' rfl (val_i64 HF.out.2.2.2.1),by rw [← HF.out.2.2.1];exact hv,HF.out.2.2.2.2⟩
  ·obtain ⟨m,rfl⟩:∃ m,k=m+1:=⟨k-1,by omega⟩
   obtain ⟨ad,x,rfl,_,hx,hcx⟩:=(HX.out.1.below hb).at_ (k:=m) (by omega)
   obtain ⟨u,s,q,r',e1,e2,e3,e4,t1,t2,t3,t4,t5,hs,hq,hr,hrd,hqb⟩:=divFacts HX.out.2.2.1 HX.out.2.2.2 hinv.2.2.1 (HX.out.2.1.at_ hx)
   have hst:=hinv.step hx (by rw [cQ,← hs,← hq];exact hqb)
   rw [cQ,← hs,← hq,← hr] at hst
   obtain ⟨z,hcz⟩:∃ z:Int,wr.cell? ⟨g,m,none⟩=some (.int .i64 z):=⟨_,hblk.cell_get (by omega)⟩
   have hfz:=hblk.frozen m
   have HE:=aH (aI hst (aI hblk (aI hb (by omega:m≤n))))
   have hidx:((m:Int)+1-1)=m:=by omega
   clear hx hblk hinv hst hk0 hzn hs hq hr hrd hqb hb
   simp only [Int.natCast_add,Int.natCast_one,hidx]
   clear hidx
   go_wp2
   go_roundw
   case rel=>exact ⟨m,r',zs.set m q,HE.out.2.2.2,by first|rfl|go_num|simp,by first|rfl|simp,HE.out.1,HE.out.2.1.set_ _ _,HE.out.2.2.1.setCell (by rw [HG.out];exact Nat.le_refl _) _⟩
   case measure =>
    clear e1 e2 e3 e4 t1 t2 t3 t4 t5 HE
    simp [intOf]
def gD (N2 low f s:Nat):Nat:=min ((N2*B9+low)/(f*B9+s)) (B9-1)
theorem gd_iff {N2 low f s m rs:Nat} (hf:0<f) (h:m*f+rs=N2):m≤(N2*B9+low)/(f*B9+s)↔m*s≤rs*B9+low:=by
 have hp:0<f*B9:=Nat.mul_pos hf cJ
 rw [Nat.le_div_iff_mul_le (by omega)]
 subst h
 have e1:m*(f*B9+s)=m*f*B9+m*s:=by rw [Nat.mul_add,Nat.mul_assoc]
 have e2:(m*f+rs)*B9=m*f*B9+rs*B9:=Nat.add_mul _ _ _
 rw [e1,e2]
 omega
theorem gd_start {N2 low f s:Nat} (hf:0<f) (hl:low<B9):gD N2 low f s≤N2/f:=Nat.le_trans (Nat.min_le_left _ _) (nW rfl rfl hl hf)
theorem gd_exit {N2 low f s m rs:Nat} (hf:0<f) (h:m*f+rs=N2) (hm:m<B9) (hle:m*s≤rs*B9+low) (hg:gD N2 low f s≤m):gD N2 low f s=m:=by
 refine Nat.le_antisymm hg ?_
 have:=(gd_iff (s:=s) (low:=low) hf h).2 hle
 exact Nat.le_min.2 ⟨this,by omega⟩
theorem gd_cont1 {N2 low f s m:Nat} (hm:B9≤m+1):gD N2 low f s≤m:=Nat.le_trans (Nat.min_le_right _ _) (by omega)
theorem gd_cont2 {N2 low f s m rs:Nat} (hf:0<f) (h:(m+1)*f+rs=N2) (hle:¬ (m+1)*s≤rs*B9+low):gD N2 low f s≤m:=by
 have:=mt (gd_iff (s:=s) (low:=low) hf h).1 hle
 exact Nat.le_trans (Nat.min_le_left _ _) (by omega)
theorem gd_over {high mid low f s m rs:Nat} (hf:0<f) (h:m*f+rs=high*B9+mid) (hh:high≤f) (hmid:mid<B9) (hs:s<B9) (hr:B9≤rs) (hg:gD (high*B9+mid) low f s≤m):gD (high*B9+mid) low f s=m:=by
 have hm:m<B9:=by
  rcases Nat.lt_or_ge m B9 with e|e
  ·exact e
  ·exfalso
   have h1:B9*f≤m*f:=Nat.mul_le_mul_right _ e
   have h2:high*B9≤f*B9:=Nat.mul_le_mul_right _ hh
   rw [Nat.mul_comm] at h1
   omega
 refine gd_exit hf h hm ?_ hg
 have h1:m*s≤B9*B9:=Nat.mul_le_mul (Nat.le_of_lt hm) (Nat.le_of_lt hs)
 have h2:B9*B9≤rs*B9:=Nat.mul_le_mul_right _ hr
 omega
theorem gd_lt {N2 low f s:Nat}:gD N2 low f s<B9:=Nat.lt_of_le_of_lt (Nat.min_le_right _ _) (by have:=cJ;omega)
theorem gd3 {N2 low f s:Nat} (hf:0<f):gD N2 low f s*(f*B9+s)≤N2*B9+low :=
 Nat.le_trans (Nat.mul_le_mul_right _ (Nat.min_le_left _ _)) (Nat.div_mul_le_self _ _)
theorem u3_alg' (A P V low mid h:Nat):A+P*low+P*V*mid+P*V*V*h=((h*V+mid)*V+low)*P+A:=by grind
theorem v2_alg' (A P V s f:Nat):A+P*s+P*V*f=(f*V+s)*P+A:=by grind
theorem gd_ok {us vs:List Nat} {m h mid low f s:Nat} (hu:us.length=m+3) (hv:vs.length=m+2) (du:Dig B9 us) (dv:Dig B9 vs)
 (g0:us[m+2]?=some h) (g1:us[m+1]?=some mid) (g2:us[m]?=some low) (g3:vs[m+1]?=some f) (g4:vs[m]?=some s) (hf:0<f) (hlt:val B9 us<val B9 vs*B9) :
 val B9 us/val B9 vs≤gD (h*B9+mid) low f s∧gD (h*B9+mid) low f s≤val B9 us/val B9 vs+1∧h≤f:=by
 obtain ⟨k0,e0⟩:=List.getElem?_eq_some_iff.1 g0
 obtain ⟨k1,e1⟩:=List.getElem?_eq_some_iff.1 g1
 obtain ⟨k2,e2⟩:=List.getElem?_eq_some_iff.1 g2
 obtain ⟨k3,e3⟩:=List.getElem?_eq_some_iff.1 g3
 obtain ⟨k4,e4⟩:=List.getElem?_eq_some_iff.1 g4
 have l4:=dv.at_ g4
 have hul:=bV (du.take m)
 have hvl:=bV (dv.take m)
 rw [List.length_take,Nat.min_eq_left (by omega)] at hul hvl
 have hU:val B9 us=val B9 (us.take m)+B9^m*low+B9^(m+1)*mid+B9^(m+2)*h:=by
  have:val B9 us=val B9 (us.take (m+2+1)):=by rw [List.take_of_length_le (by omega)]
  rw [this,aF _ _ _ k0,aF _ _ _ k1,aF _ _ _ k2,e0,e1,e2]
 have hV:val B9 vs=val B9 (vs.take m)+B9^m*s+B9^(m+1)*f:=by
  have:val B9 vs=val B9 (vs.take (m+1+1)):=by rw [List.take_of_length_le (by omega)]
  rw [this,aF _ _ _ k3,aF _ _ _ k4,e3,e4]
 have U3:val B9 us=((h*B9+mid)*B9+low)*B9^m+val B9 (us.take m):=by
  rw [hU,show B9^(m+2)=B9^m*B9*B9 from by rw [Nat.pow_succ,Nat.pow_succ],Nat.pow_succ]
  exact u3_alg' _ _ _ _ _ _
 have V2:val B9 vs=(f*B9+s)*B9^m+val B9 (vs.take m):=by
  rw [hV,Nat.pow_succ]
  exact v2_alg' _ _ _ _ _
 have hfB:B9≤f*B9+s:=by
  have:1*B9≤f*B9:=Nat.mul_le_mul_right _ hf
  omega
 have hVp:0<val B9 vs:=by
  have:0<B9^(m+1)*f:=Nat.mul_pos (Nat.pow_pos cJ) hf
  omega
 have hq:val B9 us/val B9 vs<B9:=by rw [Nat.div_lt_iff_lt_mul hVp,Nat.mul_comm];exact hlt
 refine ⟨Nat.le_min.2 ⟨nW (u2:=(h*B9+mid)*B9+low) (v1:=f*B9+s) U3 V2 hul (by have:=cJ;omega),by omega⟩,guess_le U3 V2 hvl (gd3 hf) (Nat.le_of_lt gd_lt) hfB,?_⟩
 rcases Nat.lt_or_ge f h with e|e
 ·exfalso
  have h1:B9^(m+2)*(f+1)≤B9^(m+2)*h:=Nat.mul_le_mul_left _ e
  have h2:val B9 vs<B9^(m+1)*(f+1):=by
   have h3:B9^m*(s+1)≤B9^m*B9:=Nat.mul_le_mul_left _ l4
   rw [Nat.mul_add,Nat.mul_one,← Nat.pow_succ] at h3
   rw [Nat.mul_add,Nat.mul_one]
   have h4:m.succ=m+1:=rfl
   rw [h4] at h3
   omega
  have h5:val B9 vs*B9<B9^(m+1)*(f+1)*B9:=Nat.mul_lt_mul_of_pos_right h2 cJ
  have h6:B9^(m+1)*(f+1)*B9=B9^(m+2)*(f+1):=by rw [Nat.pow_succ B9 (m+1),Nat.mul_right_comm]
  omega
 ·exact e
theorem guessFacts {m s rs low:Nat} (hm:m<1000000000) (hs:s<1000000000) (hr:rs<1000000000) (hl:low<1000000000):∃ P R S:Nat,(m:Int)*(s:Int)=(P:Int)∧(rs:Int)*1000000000=(R:Int)∧(R:Int)+(low:Int)=(S:Int) ∧
 wrap64 (P:Int)=P∧wrap64 (R:Int)=R∧wrap64 (S:Int)=S∧P=m*s∧S=rs*1000000000+low:=by
 have h1:m*s≤999999999*999999999:=Nat.mul_le_mul (by omega) (by omega)
 have h2:(m:Int)*(s:Int)=((m*s:Nat):Int):=by simp
 generalize m*s=P at *
 exact ⟨P,rs*1000000000,rs*1000000000+low,h2,by omega,by omega,eU (by omega),eU (by omega),eU (by omega),rfl,rfl⟩
theorem guessTop {h mid f:Nat} (hh:h<1000000000) (hmid:mid<1000000000) (hf0:0<f) (hf:f<1000000000) (hle:h≤f):∃ u N q r:Nat,(h:Int)*1000000000=(u:Int)∧(u:Int)+(mid:Int)=(N:Int)∧wrap64 (u:Int)=u∧wrap64 (N:Int)=N ∧
 (N:Int).tdiv f=(q:Int)∧(N:Int)/f=(q:Int)∧(N:Int).tmod f=(r:Int)∧(N:Int)%f=(r:Int)∧wrap64 (q:Int)=q∧N=h*1000000000+mid∧q*f+r=N∧r<f∧q=N/f∧q≤2000000000:=by
 have hq:(h*1000000000+mid)/f≤2000000000:=by
  refine Nat.le_of_lt ((Nat.div_lt_iff_lt_mul hf0).2 ?_)
  omega
 refine ⟨h*1000000000,h*1000000000+mid,(h*1000000000+mid)/f,(h*1000000000+mid)%f,by omega,by omega,eU (by omega),eU (by omega),?_,?_,?_,?_,eU (by omega),rfl,?_,Nat.mod_lt _ hf0,rfl,hq⟩
 ·rw [Int.tdiv_eq_ediv_of_nonneg (by omega)];simp
 ·simp
 ·rw [Int.tmod_eq_emod_of_nonneg (by omega)];simp
 ·simp
 ·rw [Nat.mul_comm];exact Nat.div_add_mod _ _
theorem put_dig9 {ys zs:List Nat} {o:Nat} (hy:Dig B9 ys) (hz:Dig B9 zs):Dig B9 (put ys o zs):=(hy.take _).app (hz.app (hy.drop _))
def LongJ (V U0 n' L:Nat) (us qs:List Nat) (k:Nat):Prop :=
 Dig B9 us∧us.length=L+n'∧Dig B9 qs∧qs.length=L∧val B9 (us.drop k)<V∧val B9 (qs.drop k)*V*B9^k+val B9 us=U0
theorem LongJ.window {V U0 n' L m:Nat} {us qs:List Nat} (h:LongJ V U0 n' L us qs (m+1)) (hm:m<L) (hV:V≤B9^n') :
 val B9 ((us.drop m).take (n'+1))=val B9 (us.drop m)∧val B9 (us.drop (m+(n'+1)))=0∧val B9 (us.drop m)<V*B9:=by
 obtain ⟨h1,h2,h3,h4,h5,h6⟩:=h
 have e1:=lH B9 us m (by omega)
 have l1:=h1.get m (by omega)
 have hlt:val B9 (us.drop m)<V*B9:=by
  have:B9*(val B9 (us.drop (m+1))+1)≤B9*V:=Nat.mul_le_mul_left _ h5
  rw [Nat.mul_add,Nat.mul_one] at this
  rw [Nat.mul_comm V]
  omega
 have e2:=eA B9 (us.drop m) (n'+1) (by simp;omega)
 rw [List.drop_drop] at e2
 have hz:val B9 (us.drop (m+(n'+1)))=0:=by
  rcases Nat.eq_zero_or_pos (val B9 (us.drop (m+(n'+1)))) with e|e
  ·exact e
  ·exfalso
   have a1:B9^(n'+1)*1≤B9^(n'+1)*val B9 (us.drop (m+(n'+1))):=Nat.mul_le_mul_left _ e
   have a2:V*B9≤B9^n'*B9:=Nat.mul_le_mul_right _ hV
   rw [← Nat.pow_succ] at a2
   have:n'.succ=n'+1:=rfl
   rw [this] at a2
   omega
 rw [hz] at e2
 exact ⟨by omega,hz,hlt⟩
theorem LongJ.step {V U0 n' L m:Nat} {us qs zs:List Nat} (h:LongJ V U0 n' L us qs (m+1)) (hm:m<L) (hV:V≤B9^n') (hV0:0<V)
 (hz:zs.length=n'+1) (hzd:Dig B9 zs) (hzv:val B9 zs=val B9 ((us.drop m).take (n'+1))%V) :
 LongJ V U0 n' L (put us m zs) (qs.set m (val B9 ((us.drop m).take (n'+1))/V)) m:=by
 obtain ⟨w1,w2,w3⟩:=h.window hm hV
 obtain ⟨h1,h2,h3,h4,h5,h6⟩:=h
 rw [w1] at hzv ⊢
 have hq:val B9 (us.drop m)/V<B9:=by rw [Nat.div_lt_iff_lt_mul hV0,Nat.mul_comm];exact w3
 have hlen:m+zs.length≤us.length:=by omega
 have e1:val B9 ((put us m zs).drop m)=val B9 (us.drop m)%V:=by
  rw [wZ hlen,fT,hz,w2,hzv,Nat.mul_zero,Nat.add_zero]
 have e2:val B9 (put us m zs)=val B9 (us.take m)+B9^m*(val B9 (us.drop m)%V):=by
  rw [eA B9 (put us m zs) m (by rw [cV hlen];omega),tE hlen,e1]
 have e3:=eA B9 us m (by omega)
 have e4:(qs.set m (val B9 (us.drop m)/V)).drop m=val B9 (us.drop m)/V::qs.drop (m+1):=by
  rw [List.drop_eq_getElem_cons (by simp;omega),List.getElem_set_self,List.drop_set_of_lt (by omega)]
 have hdm:=Nat.div_add_mod (val B9 (us.drop m)) V
 refine ⟨put_dig9 h1 hzd,by rw [cV hlen,h2],h3.set hq,by simp [h4],by rw [e1];exact Nat.mod_lt _ hV0,?_⟩
 rw [e4,e2,← h6,e3,Nat.pow_succ]
 exact long_alg _ _ _ _ _ _ _ _ hdm
theorem LongJ.finish {V n' L d f N:Nat} {us qs:List Nat} (h:LongJ V (N*f) n' L us qs 0) (hV:V=d*f) (hd:0<d) (hf:0<f) :
 val B9 qs=N/d∧val B9 us=N%d*f∧val B9 us<V:=by
 obtain ⟨_,_,_,_,h5,h6⟩:=h
 have hV0:0<V:=by rw [hV];exact Nat.mul_pos hd hf
 simp only [List.drop_zero,Nat.pow_zero,Nat.mul_one] at h5 h6
 have e1:N*f/V=val B9 qs:=by rw [← h6,Nat.add_comm,Nat.add_mul_div_right _ _ hV0,Nat.div_eq_of_lt h5];omega
 have e2:N*f%V=val B9 us:=by rw [← h6,Nat.add_comm,Nat.add_mul_mod_self_right,Nat.mod_eq_of_lt h5]
 refine ⟨?_,?_,h5⟩
 ·rw [← e1,hV,Nat.mul_div_mul_right _ _ hf]
 ·rw [← e2,hV,Nat.mul_mod_mul_right]
theorem LongJ.start {V U0 n n' : Nat} {us:List Nat} {N d f:Nat} (hu:Dig B9 us) (hul:us.length=n+1) (hU:val B9 us=U0) (hU0:U0=N*f) (hN:N<B9^n) (hV:V=d*f) (hf:0<f) (hd:B9^(n'-1)≤d) (hn:n'≤n) (hn0:0<n') :
 LongJ V U0 n' (n-n'+1) us (List.replicate (n-n'+1) 0) (n-n'+1):=by
 refine ⟨hu,by omega,Dig.replicate cJ _,by simp,?_,?_⟩
 ·have e:=eA B9 us (n-n'+1) (by omega)
  have a1:N*f<B9^n*f:=Nat.mul_lt_mul_of_pos_right hN hf
  have a2:B9^n=B9^(n-n'+1)*B9^(n'-1):=by rw [← Nat.pow_add];congr 1;omega
  have a3:B9^(n-n'+1)*val B9 (us.drop (n-n'+1))<B9^(n-n'+1)*(B9^(n'-1)*f):=by
   rw [← Nat.mul_assoc,← a2];omega
  have a4:=Nat.lt_of_mul_lt_mul_left a3
  have a5:B9^(n'-1)*f≤d*f:=Nat.mul_le_mul_right _ hd
  rw [hV];omega
 ·rw [List.drop_of_length_le (by simp)]
  simp [val,hU]
theorem scaled_len {ys vs:List Nat} {y f:Nat} (hy:Dig B9 ys) (hl:0<ys.length) (htop:ys[ys.length-1]?=some y) (hv:Dig B9 vs) (hn:Norm vs) (ny:Norm ys) (e:val B9 vs=val B9 ys*f) (hf0:0<f) (hf:f*(y+1)≤B9):vs.length=ys.length:=by
 obtain ⟨m,hm⟩:∃ m,ys.length=m+1:=⟨ys.length-1,by omega⟩
 rw [hm,show m+1-1=m from by omega] at htop
 obtain ⟨k,ey⟩:=List.getElem?_eq_some_iff.1 htop
 have hval:val B9 ys=val B9 (ys.take m)+B9^m*y:=by
  have:val B9 ys=val B9 (ys.take (m+1)):=by rw [List.take_of_length_le (by omega)]
  rw [this,aF _ _ _ k,ey]
 have hlow:=bV (hy.take m)
 rw [List.length_take,Nat.min_eq_left (by omega)] at hlow
 have h1:val B9 ys+1≤B9^m*(y+1):=by rw [hval,Nat.mul_add,Nat.mul_one];omega
 have h2:val B9 vs<B9^(m+1):=by
  have h3:(val B9 ys+1)*f≤B9^m*(y+1)*f:=Nat.mul_le_mul_right _ h1
  have h4:B9^m*(y+1)*f≤B9^m*B9:=by rw [Nat.mul_assoc,Nat.mul_comm (y+1)];exact Nat.mul_le_mul_left _ hf
  rw [Nat.add_mul,Nat.one_mul,← e] at h3
  rw [Nat.pow_succ]
  omega
 have h5:=aU dX hn h2
 have hne:ys≠[]:=by rintro rfl;simp at hl
 have h6:=ny.ge (B:=B9) hne
 rw [hm,Nat.add_sub_cancel] at h6
 have h7:val B9 ys*1≤val B9 ys*f:=Nat.mul_le_mul_left _ hf0
 have h8:=bV hv
 rcases Nat.lt_or_ge vs.length (m+1) with h|h
 ·exfalso
  have:B9^vs.length≤B9^m:=Nat.pow_le_pow_right cJ (by omega)
  omega
 ·omega
def TakeK (ys vs zs:List Nat) (o t k bo:Nat):Prop:=zs.length=k∧Dig B9 zs∧bo≤B9∧val B9 zs+t*val B9 (vs.take k)=val B9 ((ys.drop o).take k)+B9^k*bo
theorem TakeK.step {ys vs zs:List Nat} {o t k bo x v p e r:Nat} (h:TakeK ys vs zs o t k bo) (hx:ys[o+k]?=some x) (hv:vs[k]?=some v) (hp:p=t*v+bo) (hr:r<B9) (he:p/B9+e≤B9) (hx2:r+p%B9=x+B9*e) :
 TakeK ys vs (zs ++ [r]) o t (k+1) (p/B9+e):=by
 obtain ⟨h1,h2,h3,h4⟩:=h
 have hxd:(ys.drop o)[k]?=some x:=by rw [List.getElem?_drop];exact hx
 obtain ⟨k1,ex⟩:=List.getElem?_eq_some_iff.1 hxd
 obtain ⟨k2,ev⟩:=List.getElem?_eq_some_iff.1 hv
 refine ⟨by simp [h1],h2.app (Dig.cons hr (Dig.nil _)),he,?_⟩
 rw [cL,aF _ _ _ k1,aF _ _ _ k2,ex,ev,h1,Nat.pow_succ]
 have hdm:=Nat.div_add_mod p B9
 generalize p/B9=q at *
 generalize p%B9=s at *
 clear h2 h3 hr he ex ev k1 k2 hxd hx hv
 generalize B9^k=P at *
 generalize B9=V at *
 subst hp
 grind
def BackK (ys vs zs:List Nat) (o k cy:Nat):Prop:=zs.length=k∧Dig B9 zs∧cy≤1∧val B9 zs+B9^k*cy=val B9 ((ys.drop o).take k)+val B9 (vs.take k)
theorem BackK.step {ys vs zs:List Nat} {o k cy x v s:Nat} (h:BackK ys vs zs o k cy) (hx:ys[o+k]?=some x) (hv:vs[k]?=some v) (hs:s=x+v+cy) (bx:x<B9) (bv:v<B9):BackK ys vs (zs ++ [s%B9]) o (k+1) (s/B9):=by
 obtain ⟨h1,h2,h3,h4⟩:=h
 have hxd:(ys.drop o)[k]?=some x:=by rw [List.getElem?_drop];exact hx
 obtain ⟨k1,ex⟩:=List.getElem?_eq_some_iff.1 hxd
 obtain ⟨k2,ev⟩:=List.getElem?_eq_some_iff.1 hv
 have hq:s/B9≤1:=by subst hs;rw [cQ] at *;clear h4 hx hv hxd;omega
 refine ⟨by simp [h1],h2.app (Dig.cons (Nat.mod_lt _ cJ) (Dig.nil _)),hq,?_⟩
 rw [cL,aF _ _ _ k1,aF _ _ _ k2,ex,ev,h1,Nat.pow_succ]
 have hdm:=Nat.div_add_mod s B9
 generalize s/B9=q at *
 generalize s%B9=r at *
 clear h2 h3 ex ev k1 k2 hxd hx hv bx bv hq
 generalize B9^k=P at *
 generalize B9=V at *
 subst hs
 grind
def Ow (w:World) (g c:Nat) (zs:List Int):Prop := ∃ cur:Array Value,w.heap[g]?=some (.cells cur 3 (0,0))∧cur.size=c∧zs.length≤c∧cur.toList.take zs.length=zs.map (Value.int .i64)
section
variable {w w' : World} {g c:Nat} {zs:List Int}
theorem Ow.lt (h:Ow w g c zs):g<w.heap.size:=by obtain ⟨cur,h1,_⟩:=h;exact (Array.getElem?_eq_some_iff.1 h1).1
theorem Ow.cell (h:Ow w g c zs) {i:Nat} {z:Int} (hz:zs[i]?=some z):w.cell? ⟨g,i,none⟩=some (.int .i64 z):=by
 obtain ⟨cur,h1,h2,h3,h4⟩:=h
 rw [oF h1,← Array.getElem?_toList]
 have hi:=(List.getElem?_eq_some_iff.1 hz).1
 have:(cur.toList.take zs.length)[i]?=some (.int .i64 z):=by rw [h4,List.getElem?_map,hz];rfl
 rw [List.getElem?_take,if_pos hi] at this
 exact this
theorem Ow.frozen (h:Ow w g c zs) (i:Nat):w.frozen? ⟨g,i,none⟩=false:=by
 obtain ⟨cur,h1,_⟩:=h
 simp [World.frozen?,h1]
theorem Ow.set_ (h:Ow w g c zs) (i:Nat) (z:Int):Ow (w.setCell ⟨g,i,none⟩ (.int .i64 z)) g c (zs.set i z):=by
 obtain ⟨cur,h1,h2,h3,h4⟩:=h
 refine ⟨cur.setIfInBounds i (.int .i64 z),?_,by simp [h2],by simpa using h3,?_⟩
 ·simp only [World.setCell,Array.getElem?_modify,h1];simp
 ·rw [List.length_set,Array.toList_setIfInBounds,List.take_set,h4,List.map_set]
theorem Ow.far (h:Ow w g c zs) {p:Addr} (hp:g≠p.block) (u:Value):Ow (w.setCell p u) g c zs:=by
 obtain ⟨cur,h1,h2⟩:=h
 exact ⟨cur,(Below.heap_setCell w p u g hp).trans h1,h2⟩
theorem Ow.below {B:Nat} (h:Ow w g c zs) (hb:Below B w w') (hg:g<B):Ow w' g c zs:=by
 obtain ⟨cur,h1,h2⟩:=h
 exact ⟨cur,(hb.block g hg).trans h1,h2⟩
theorem Ow.grown {row:Option Nat} (h:Ow w g c zs) (hg:w.grownBy w' row) (hr:some g≠row):Ow w' g c zs:=by
 obtain ⟨cur,h1,h2⟩:=h
 exact ⟨cur,(hg.block g (Array.getElem?_eq_some_iff.1 h1).1 hr).trans h1,h2⟩
end
abbrev tO (xs:List Nat):List Int:=xs.map (fun (x:Nat)=>(x:Int))
theorem Ow.rd {w:World} {g c:Nat} {xs:List Nat} (h:Ow w g c (tO xs)) (hc:c≤maxLen):Ri w (some ⟨g,0,none⟩) xs.length c xs:=by
 have hl:=h.lt
 refine ⟨rfl,?_,hc,fun _=>⟨_,rfl,hl,fun j x hx=>?_⟩⟩
 ·obtain ⟨cur,_,_,h3,_⟩:=h;simpa using h3
 ·have:(⟨g,0,none⟩:Addr).add j=⟨g,j,none⟩:=by unfold Addr.add;split <;> simp_all
  rw [this]
  exact h.cell (by rw [List.getElem?_map,hx];rfl)
theorem zV {w:World} {base n:Nat} {v:Value} {xs:List Nat} (h:w.ownsRow base 3 1 v n (xs.map eC)) (hn:0<n):∃ g c,v = .slice (some ⟨g,0,none⟩) n c∧base≤g∧c≤maxLen∧Ow w g c (tO xs)∧xs.length=n:=by
 obtain ⟨h1,h2⟩:=h
 have hl:xs.length=n:=by simpa using h1
 rcases h2 with ⟨rfl,rfl⟩|⟨g,cap,cur,rfl,e2,e3,e4,e5,e6,e7⟩
 ·omega
 ·refine ⟨g,cap,rfl,e2,e5,⟨cur,e3,by simpa using e6,by simp;omega,?_⟩,hl⟩
  have:(tO xs).length=n*1:=by simp [hl]
  rw [this,e7]
  simp [eC]
theorem xS {xs:List Nat} {i x:Nat} (h:xs[i]?=some x):(tO xs)[i]?=some (x:Int):=by rw [List.getElem?_map,h];rfl
theorem xT (xs:List Nat) (i x:Nat):(tO xs).set i (x:Int)=tO (xs.set i x):=by simp [List.map_set]
theorem row_nil {w:World} {base g:Nat} (h:w.heap[g]?=some (.cells #[] 3 (0,0))) (hb:base≤g):w.ownsRow base 3 1 (.slice (some ⟨g,0,none⟩) 0 0) 0 ([]:List Value) :=
 ⟨rfl,.inr ⟨g,0,#[],rfl,hb,h,Nat.le_refl _,Nat.zero_le _,rfl,rfl⟩⟩
theorem wpList_src {ops:Array Oper} {rest:List Oper} {o:Oper} {a:Act} {Q:Exit→Act→World→Prop} (hgd:o.guard=none) (s x:Operand)
 (ho:o.op = .call { callee := .builtin .append,args := #[s,x],argTypes := #[187,187] }) {base m c:Nat} {v:Value} {A:Option Addr} {xs:List Nat} {w:World} (hs:a.eval s=v) (hown:w.ownsRow base 3 1 v 0 ([]:List Value))
 (hx:a.eval x = .slice A m c) (hr:Ri w A m c xs) (h0:0<m) (hm:m≤2199023255999) (hbase:base≤w.heap.size)
 (h:∀ v' w',w'.ownsRow base 3 1 v' m (xs.map eC)→w.grownBy w' v.ownBlock→wpList Tryz.prog ops Q rest (a.put o.dst v') w') :
 wpList Tryz.prog ops Q (o::rest) a w:=by
 obtain ⟨i0,hi,hz0,hz1,hz2⟩:=info_parts gY
 obtain ⟨ad,rfl,_,hc⟩:=hr.2.2.2 h0
 refine wpList_append_own _ hgd s x 187 ho base 3 i0 (.int .i64 0) 1 8 Tryz.underlying187 hi hz0 hz1 hz2 rfl (by decide) v 0 [] hs hown ad m c (xs.map eC) hx (by simp [hr.len]) ?_ ?_ ?_ ?_ hbase ?_
 ·intro j u hj
  rw [List.getElem?_map,Option.map_eq_some_iff] at hj
  obtain ⟨x,hx,rfl⟩:=hj
  exact hc j x hx
 ·intro u hu
  rw [List.mem_map] at hu
  obtain ⟨x,_,rfl⟩:=hu
  rfl
 ·show 0+m≤9223372036854775807;omega
 ·omega
 ·intro v' w' h1 h2 _
  rw [Nat.zero_add,List.nil_append] at h1
  exact h v' w' h1 h2
end Go.Proofs.YtejbgingjeedaaaGreatDoor
