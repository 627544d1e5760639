/- Parts of the proof, joined. -/
import Derived.Test.YtbhcckhbbclemaaGreatDoorJ25
import Derived.Laws.RangeAny
import Derived.Test.YtbhcckhbbclemaaGreatDoorJ21
import Derived.Test.YtbhcckhbbclemaaGreatDoorJ6
set_option linter.unusedSimpArgs false
set_option linter.unusedVariables false
namespace Go.Proofs.YtbhcckhbbclemaaGreatDoor.Ab
open Go.RowKit Go.Proofs.YtbhcckhbbclemaaGreatDoor Pl
variable {Kc:Value→Bool}
def Seg.ren (ks:List Nat):Seg Kc→Seg Kc
 | .ptr k off => .ptr (ks.getD k 0) off
 | .slc k off n c => .slc (ks.getD k 0) off n c
 | s=>s
def FV.ren (ks:List Nat):FV Kc→FV Kc
 | .sc s => .sc (s.ren ks)
 | .ag l => .ag (l.map (Seg.ren ks))
 | .nsl n T l => .nsl n T (l.map (Seg.ren ks))
 | .clo F a b => .clo F (a.map fun c=>(c.1,c.2.map (Seg.ren ks))) (b.map fun c=>(c.1,c.2.map (Seg.ren ks)))
 | .un => .un
def AV.ren (ks:List Nat):AV Kc→AV Kc
 | .fv f => .fv (f.ren ks)
 | .tup l => .tup (l.map (FV.ren ks))
def Seg.inR (n:Nat):Seg Kc→Bool
 | .ptr k _=>decide (k<n)
 | .slc k _ _ _=>decide (k<n)
 | _=>true
def FV.inR (n:Nat):FV Kc→Bool
 | .sc s=>s.inR n
 | .ag l | .nsl _ _ l=>l.all (Seg.inR n)
 | .clo _ a b=>(a.all fun c=>c.2.all (Seg.inR n))&&(b.all fun c=>c.2.all (Seg.inR n))
 | .un=>true
def AV.inR (n:Nat):AV Kc→Bool
 | .fv f=>f.inR n
 | .tup l=>l.all (FV.inR n)
abbrev sub (β ks:List Nat):List Nat:=ks.map fun k=>β.getD k 0
theorem sub_at {β ks:List Nat} {k g:Nat} (hk:k<ks.length) (h:β[ks.getD k 0]?=some g):(sub β ks)[k]?=some g:=by
 rw [List.getElem?_map,List.getElem?_eq_getElem hk]
 rw [List.getD_eq_getElem?_getD,List.getElem?_eq_getElem hk] at h
 simp only [Option.getD_some] at h
 simp [h]
theorem Seg.ren_holds {β ks:List Nat} {s:Seg Kc} {cs:List Value} {w:World} (hr:s.inR ks.length=true) (h:(s.ren ks).holds β cs w):s.holds (sub β ks) cs w:=by
 cases s with
 | lit v=>exact h
 | sp s=>exact h
 | ptr k off=>obtain ⟨g,h1,e⟩:=h;exact ⟨g,sub_at (by simpa [Seg.inR] using hr) h1,e⟩
 | slc k off n c=>obtain ⟨g,h1,e⟩:=h;exact ⟨g,sub_at (by simpa [Seg.inR] using hr) h1,e⟩
theorem holdsL.ren {β ks:List Nat} {w:World}:∀ {l:List (Seg Kc)} {cs:List Value},l.all (Seg.inR ks.length)=true→holdsL β (l.map (Seg.ren ks)) cs w→holdsL (sub β ks) l cs w
 | [],_,_,h=>h
 | s::l,_,hn,⟨a,b,e,h1,h2⟩=>by
   rw [List.all_cons,Bool.and_eq_true] at hn
   exact ⟨a,b,e,Seg.ren_holds hn.1 h1,holdsL.ren hn.2 h2⟩
theorem holdsC.ren {β ks:List Nat} {w:World}:∀ {l:List (Bool×List (Seg Kc))} {vs:List Value},(l.all fun c=>c.2.all (Seg.inR ks.length))=true→holdsC β (l.map fun c=>(c.1,c.2.map (Seg.ren ks))) vs w→holdsC (sub β ks) l vs w
 | [],_,_,h=>h
 | (b,m)::l,_,hn,⟨v,r,e,h1,h2⟩=>by
   rw [List.all_cons,Bool.and_eq_true] at hn
   refine ⟨v,r,e,?_,holdsC.ren hn.2 h2⟩
   cases b with
   | true=>obtain ⟨cs,e,h1⟩:=h1;exact ⟨cs,e,h1.ren hn.1⟩
   | false=>exact holdsL.ren hn.1 h1
theorem FV.ren_holds {β ks:List Nat} {f:FV Kc} {v:Value} {w:World} (hr:f.inR ks.length=true) (h:(f.ren ks).holds β v w):f.holds (sub β ks) v w:=by
 cases f with
 | sc s=>exact Seg.ren_holds hr h
 | ag l=>obtain ⟨cs,e,hl⟩:=h;exact ⟨cs,e,hl.ren hr⟩
 | nsl n T l=>obtain ⟨g,cs,e,hg,hl⟩:=h;exact ⟨g,cs,e,hg,hl.ren hr⟩
 | clo F a b =>
   rw [FV.inR,Bool.and_eq_true] at hr
   obtain ⟨xs,ys,e,h1,h2⟩:=h
   exact ⟨xs,ys,e,h1.ren hr.1,h2.ren hr.2⟩
 | un=>trivial
theorem holdsF.ren {β ks:List Nat} {w:World}:∀ {l:List (FV Kc)} {vs:List Value},l.all (FV.inR ks.length)=true→holdsF β (l.map (FV.ren ks)) vs w→holdsF (sub β ks) l vs w
 | [],_,_,h=>h
 | f::l,_,hn,⟨v,r,e,h1,h2⟩=>by
   rw [List.all_cons,Bool.and_eq_true] at hn
   exact ⟨v,r,e,FV.ren_holds hn.1 h1,holdsF.ren hn.2 h2⟩
theorem AV.ren_holds {β ks:List Nat} {x:AV Kc} {v:Value} {w:World} (hr:x.inR ks.length=true) (h:(x.ren ks).holds β v w):x.holds (sub β ks) v w:=by
 cases x with
 | fv f=>exact FV.ren_holds hr h
 | tup l=>obtain ⟨vs,e,h⟩:=h;exact ⟨vs,e,h.ren hr⟩
theorem holdsA.ren {β ks:List Nat} {w:World}:∀ {l:List (AV Kc)} {vs:List Value},l.all (AV.inR ks.length)=true→holdsA β (l.map (AV.ren ks)) vs w→holdsA (sub β ks) l vs w
 | [],_,_,h=>h
 | x::l,_,hn,⟨v,r,e,h1,h2⟩=>by
   rw [List.all_cons,Bool.and_eq_true] at hn
   exact ⟨v,r,e,AV.ren_holds hn.1 h1,holdsA.ren hn.2 h2⟩
def FitsM (P:Program) (f:FuncId) (bl:List (TypeId×List (Seg Kc))) (args:List (AV Kc)) (x:AV Kc):Prop :=
 ∀ β w vs,β.length=bl.length→β.Nodup→Mem β (bl.map some) w→holdsA β args vs w→Calls P f vs.toArray w fun e w' => ∃ v,e = .returned v∧Below w.heap.size w w'∧x.holds [] v w'
section
variable {P:Program} {f:FuncId} {w00:World} {Out:Value→World→Prop}
theorem fitsM_of {fn:Func} {bl:List (TypeId×List (Seg Kc))} {args:List (AV Kc)} {x:AV Kc} (hfn:P.funcs[f]?=some fn) (hb:fn.body.isSome=true) (hn:(args.length≤fn.ntmps:Bool)=true)
 (h:∀ w00,Ok P f w00 (fun v w=>x.holds [] v w) (.items [.code (fn.body.getD .skip)] { slots:=args++List.replicate (fn.ntmps-args.length) .un,blocks:=bl,ro:=bl.length })):FitsM P f bl args x:=by
 intro β w vs hl hnd hM hv
 have hb2:fn.body=some (fn.body.getD .skip):=by
  cases hb2:fn.body with
  | none=>rw [hb2] at hb;cases hb
  | some c=>rfl
 refine (calls_of_good (w00:=w) (Out:=fun v w=>x.holds [] v w) hfn hb2 args bl β vs (fn.ntmps-args.length) (by simp at hn;omega) hv hl hnd hM (fun g hg=>?_) (h w).good).mono ?_
 ·obtain ⟨k,hk⟩:=List.getElem?_of_mem hg
  have hk' : k<bl.length:=by rw [← hl];exact (List.getElem?_eq_some_iff.1 hk).1
  obtain ⟨g',cs,hg',hh,_⟩:=hM k bl[k].1 bl[k].2 (by simp [hk'])
  rw [hk] at hg'
  injection hg' with hg'
  subst hg'
  exact lt_of_block hh
 ·rintro e w' ⟨v,rfl,hb,ho⟩
  exact ⟨v,rfl,hb,ho⟩
theorem mem_sub {β ks:List Nat} {w:World} {mem:List (Option (TypeId×List (Seg Kc)))} {bl:List (TypeId×List (Seg Kc))} (hM:Mem β mem w) (hb:ks.map (fun k=>mem[k]?)=bl.map (fun b=>some (some b))) (hp:(bl.all fun b=>b.2.all Seg.noPtr)=true):Mem (sub β ks) (bl.map some) w:=by
 intro k T l hk
 rw [List.getElem?_map] at hk
 cases hbk:bl[k]? with
 | none=>rw [hbk] at hk;cases hk
 | some b =>
   rw [hbk] at hk
   simp only [Option.map_some,Option.some.injEq] at hk
   subst hk
   have h1:(ks.map (fun k=>mem[k]?))[k]?=some (some (some (T,l))):=by rw [hb,List.getElem?_map,hbk];rfl
   rw [List.getElem?_map] at h1
   cases hkk:ks[k]? with
   | none=>rw [hkk] at h1;cases h1
   | some j =>
     rw [hkk] at h1
     simp only [Option.map_some,Option.some.injEq] at h1
     obtain ⟨g,cs,h2,h3,h4⟩:=hM j T l h1
     refine ⟨g,cs,?_,h3,holdsL.noPtr ?_ h4⟩
     ·rw [List.getElem?_map,hkk]
      simp [h2]
     ·exact List.all_eq_true.1 hp (T,l) (List.mem_of_getElem? hbk)
theorem nodup_of_types {γ:List Nat} {w:World} {bl:List (TypeId×List (Seg Kc))} (hl:γ.length=bl.length) (hM:Mem γ (bl.map some) w) (hnd:(bl.map (·.1)).Nodup):γ.Nodup:=by
 rw [List.Nodup,List.pairwise_iff_getElem] at hnd ⊢
 intro i j hi hj hij he
 have hi' : i<bl.length:=by omega
 have hj' : j<bl.length:=by omega
 obtain ⟨g,cs,h1,h2,_⟩:=hM i bl[i].1 bl[i].2 (by simp [hi'])
 obtain ⟨g',cs',h3,h4,_⟩:=hM j bl[j].1 bl[j].2 (by simp [hj'])
 rw [List.getElem?_eq_getElem hi] at h1
 rw [List.getElem?_eq_getElem hj] at h3
 injection h1 with h1
 injection h3 with h3
 rw [← h1,he,h3,h4] at h2
 injection h2 with h2
 injection h2 with _ h5 _
 refine hnd i j (by simpa using hi') (by simpa using hj') hij ?_
 simp [h5]
theorem Ok.callM {c:Cfg Kc} (fn:FuncId) (ks:List Nat) (bl:List (TypeId×List (Seg Kc))) (args:List (AV Kc)) {x:AV Kc} (h:FitsM P fn bl args x) (hf:c.callee P=some fn) (ha:c.args P=args.map (AV.ren ks)) (hx:c.okT x=true) (hnp:x.noPtr=true)
 (hb:ks.map (fun k=>c.mem[k]?)=bl.map (fun b=>some (some b))) (hr:args.all (AV.inR ks.length)=true) (hp:(bl.all fun b=>b.2.all Seg.noPtr)=true) (hnd:(bl.map (·.1)).Nodup) (hfn:∀ (args:Array Value) (w:World),(callFunc fn args).run P w = .ok (.enter fn args) w)
 (hg:Ok P f w00 Out (c.give x)):Ok P f w00 Out c :=
 ⟨good_call fn x hf hx hfn (fun β w vs _ hM hv=>by
  rw [ha] at hv
  have hl:(sub β ks).length=bl.length:=by have:=congrArg List.length hb;simpa using this
  have hM':=mem_sub hM hb hp
  refine (h (sub β ks) w vs hl (nodup_of_types hl hM' hnd) hM' (hv.ren hr)).mono ?_
  rintro e w' ⟨v,e1,e2,e3⟩
  exact ⟨v,e1,e2,AV.noPtr_holds hnp e3⟩) hg.good⟩
end
theorem kgoM {f:FuncId} {fn:Func} {bl:List (TypeId×List (Seg Kn))} {args:List (AV Kn)} {x:AV Kn} (hfn:Tryz.prog.funcs[f]?=some fn) (hc:(fn.body.isSome,decide (args.length≤fn.ntmps))=(true,true)) (_h:True)
 (h:∀ w00,Ok Tryz.prog f w00 (fun v w=>x.holds [] v w) (runA Tryz.prog 1000 (.items [.code (fn.body.getD .skip)] { slots:=args++List.replicate (fn.ntmps-args.length) .un,blocks:=bl,ro:=bl.length }))):FitsM Tryz.prog f bl args x:=by
 simp only [Prod.mk.injEq] at hc
 exact fitsM_of hfn hc.1 hc.2 fun w00=>Ok.go (by kernel_rfl) kn_ok 1000 (h w00)
theorem kcallM {f:FuncId} {w00:World} {Out:Value→World→Prop} {c:Cfg Kn} (fn:FuncId) (ks:List Nat) (bl:List (TypeId×List (Seg Kn))) (args:List (AV Kn)) {x:AV Kn} (h:FitsM Tryz.prog fn bl args x)
 (hc:(c.callee Tryz.prog,c.args Tryz.prog,c.okT x,x.noPtr,ks.map (fun k=>c.mem[k]?),args.all (AV.inR ks.length),(bl.all fun b=>b.2.all Seg.noPtr))=(some fn,args.map (AV.ren ks),true,true,bl.map (fun b=>some (some b)),true,true)) (hnd:(bl.map (·.1)).Nodup) (hfn:∀ (args:Array Value) (w:World),(callFunc fn args).run Tryz.prog w = .ok (.enter fn args) w)
 (hg:Ok Tryz.prog f w00 Out (runA Tryz.prog 1000 (c.give x))):Ok Tryz.prog f w00 Out c:=by
 simp only [Prod.mk.injEq] at hc
 obtain ⟨h1,h2,h3,h4,h5,h6,h7⟩:=hc
 exact Ok.callM fn ks bl args h h1 h2 h3 h4 h5 h6 h7 hnd hfn (Ok.go (by kernel_rfl) kn_ok 1000 hg)
end Go.Proofs.YtbhcckhbbclemaaGreatDoor.Ab
namespace Go.Proofs.YtbhcckhbbclemaaGreatDoor.Ab
open Go.RowKit Go.Proofs.YtbhcckhbbclemaaGreatDoor Pl
section
variable {w u1 u2 u3 v1 v2 v3 x1 x2 x3 y1 y2 y3 z1 z2 z3:Rat}
abbrev wu (w u1 u2 u3:Rat):List (TypeId×List (Seg Kn)) := [(67,[nb w]),(69,[nb u1,nb u2,nb u3])]
theorem turn1F (h:Fits Tryz.prog 35 [num w,vc u1 u2 u3,vc v1 v2 v3] (vc x1 x2 x3)) :
 FitsM Tryz.prog 34 (wu w u1 u2 u3) [vc v1 v2 v3,.fv (.sc (.ptr 0 0)),.fv (.sc (.ptr 1 0))] (vc x1 x2 x3):=by
 refine kgoM Tryz.func34 (by kernel_rfl) trivial fun w00=>?_
 refine kcall 35 [num w,vc u1 u2 u3,vc v1 v2 v3] (h) (by kernel_rfl) Tryz.call35 ?_
 exact kret Tryz.func34 (by kernel_rfl)
abbrev cloT:AV Kn := .fv (.clo 34 [] [(false,[.ptr 0 0]),(false,[.ptr 1 0])])
theorem eachTurnF (h1:Fits Tryz.prog 35 [num w,vc u1 u2 u3,vc (1:Int) (0:Int) (0:Int)] (vc x1 x2 x3)) (h2:Fits Tryz.prog 35 [num w,vc u1 u2 u3,vc (0:Int) (1:Int) (0:Int)] (vc y1 y2 y3)) (h3:Fits Tryz.prog 35 [num w,vc u1 u2 u3,vc (0:Int) (0:Int) (1:Int)] (vc z1 z2 z3)) :
 FitsM Tryz.prog 37 (wu w u1 u2 u3) [cloT,mt (1:Int) (0:Int) (0:Int) (0:Int) (1:Int) (0:Int) (0:Int) (0:Int) (1:Int)] (mt x1 x2 x3 y1 y2 y3 z1 z2 z3):=by
 refine kgoM Tryz.func37 (by kernel_rfl) trivial fun w00=>?_
 refine kcallM 34 [0,1] (wu w u1 u2 u3) [vc (1:Int) (0:Int) (0:Int),.fv (.sc (.ptr 0 0)),.fv (.sc (.ptr 1 0))] (turn1F h1) (by kernel_rfl) (by simp) (Tryz.call34) ?_
 refine kcallM 34 [0,1] (wu w u1 u2 u3) [vc (0:Int) (1:Int) (0:Int),.fv (.sc (.ptr 0 0)),.fv (.sc (.ptr 1 0))] (turn1F h2) (by kernel_rfl) (by simp) (Tryz.call34) ?_
 refine kcallM 34 [0,1] (wu w u1 u2 u3) [vc (0:Int) (0:Int) (1:Int),.fv (.sc (.ptr 0 0)),.fv (.sc (.ptr 1 0))] (turn1F h3) (by kernel_rfl) (by simp) (Tryz.call34) ?_
 exact kret Tryz.func37 (by kernel_rfl)
theorem apiTurnF {b:Bool} (hw:Wr w) (hu:Wr3 u1 u2 u3) (hb:decide (w=0)=b) (h0:b=true→(decide (u1=0)&&decide (u2=0)&&decide (u3=0))=false)
 (h1:Fits Tryz.prog 35 [num w,vc u1 u2 u3,vc (1:Int) (0:Int) (0:Int)] (vc x1 x2 x3)) (h2:Fits Tryz.prog 35 [num w,vc u1 u2 u3,vc (0:Int) (1:Int) (0:Int)] (vc y1 y2 y3)) (h3:Fits Tryz.prog 35 [num w,vc u1 u2 u3,vc (0:Int) (0:Int) (1:Int)] (vc z1 z2 z3))
 (hr:Wf (0:Int) (0:Int) (0:Int) x1 x2 x3 y1 y2 y3 z1 z2 z3):FitsW Tryz.prog Gl 7 [.fv (.ag [isS (writeB w),isS (writeB u1),isS (writeB u2),isS (writeB u3)])] (okFS (0:Int) (0:Int) (0:Int) x1 x2 x3 y1 y2 y3 z1 z2 z3):=by
 have i0:M64 0:=by constructor <;> omega
 cases b with
 | true =>
   refine kgoW Tryz.func7 (by kernel_rfl) fun w00 hG=>?_;have hI:=keepGl hG
   refine kcallW hI 29 [fnv 30,tx (writeB w),fnv 31,vS u1 u2 u3] (readRV hw hu) (by kernel_rfl) Tryz.call29 ?_
   refine kcall 32 [num w] (isZeroF hb) (by kernel_rfl) Tryz.call32 ?_
   refine kcall 33 [vc u1 u2 u3] (vIsZeroF (h0 rfl)) (by kernel_rfl) Tryz.call33 ?_
   refine kcall 36 [iv 0 0 0] (integersF i0 i0 i0) (by kernel_rfl) Tryz.call36 ?_
   refine kcall 38 [] (unitsF) (by kernel_rfl) Tryz.call38 ?_
   refine kcallM 37 [2,3] (wu w u1 u2 u3) [cloT,mt (1:Int) (0:Int) (0:Int) (0:Int) (1:Int) (0:Int) (0:Int) (0:Int) (1:Int)] (eachTurnF h1 h2 h3) (by kernel_rfl) (by simp) (Tryz.call37) ?_
   refine kcallW hI 39 [frm (0:Int) (0:Int) (0:Int) x1 x2 x3 y1 y2 y3 z1 z2 z3] (frWriteF hr) (by kernel_rfl) Tryz.call39 ?_
   exact kret Tryz.func7 (by kernel_rfl)
 | false =>
   refine kgoW Tryz.func7 (by kernel_rfl) fun w00 hG=>?_;have hI:=keepGl hG
   refine kcallW hI 29 [fnv 30,tx (writeB w),fnv 31,vS u1 u2 u3] (readRV hw hu) (by kernel_rfl) Tryz.call29 ?_
   refine kcall 32 [num w] (isZeroF hb) (by kernel_rfl) Tryz.call32 ?_
   refine kcall 36 [iv 0 0 0] (integersF i0 i0 i0) (by kernel_rfl) Tryz.call36 ?_
   refine kcall 38 [] (unitsF) (by kernel_rfl) Tryz.call38 ?_
   refine kcallM 37 [2,3] (wu w u1 u2 u3) [cloT,mt (1:Int) (0:Int) (0:Int) (0:Int) (1:Int) (0:Int) (0:Int) (0:Int) (1:Int)] (eachTurnF h1 h2 h3) (by kernel_rfl) (by simp) (Tryz.call37) ?_
   refine kcallW hI 39 [frm (0:Int) (0:Int) (0:Int) x1 x2 x3 y1 y2 y3 z1 z2 z3] (frWriteF hr) (by kernel_rfl) Tryz.call39 ?_
   exact kret Tryz.func7 (by kernel_rfl)
end
section
variable {o1 o2 o3 x1 x2 x3 y1 y2 y3 z1 z2 z3 p1 p2 p3 u1 u2 u3 v1 v2 v3 w1 w2 w3 q1 q2 q3 r1 r2 r3 s1 s2 s3 t1 t2 t3:Rat}
theorem readFF (h:Fv o1 o2 o3 x1 x2 x3 y1 y2 y3 z1 z2 z3) (k:Fv p1 p2 p3 u1 u2 u3 v1 v2 v3 w1 w2 w3):FitsW Tryz.prog Gl 54 [fnv 44,frS o1 o2 o3 x1 x2 x3 y1 y2 y3 z1 z2 z3,fnv 44,frS p1 p2 p3 u1 u2 u3 v1 v2 v3 w1 w2 w3] (.tup [.ag [nb o1,nb o2,nb o3,nb x1,nb x2,nb x3,nb y1,nb y2,nb y3,nb z1,nb z2,nb z3],.ag [nb p1,nb p2,nb p3,nb u1,nb u2,nb u3,nb v1,nb v2,nb v3,nb w1,nb w2,nb w3],.sc z0]):=by
 refine kgoW Tryz.func54 (by kernel_rfl) fun w00 hG=>?_;have hI:=keepGl hG
 refine kcallW hI 44 [frS o1 o2 o3 x1 x2 x3 y1 y2 y3 z1 z2 z3] (h.r) (by kernel_rfl) Tryz.call44 ?_
 refine kcallW hI 44 [frS p1 p2 p3 u1 u2 u3 v1 v2 v3 w1 w2 w3] (k.r) (by kernel_rfl) Tryz.call44 ?_
 refine kcall 74 [.fv (.nsl 2 33 [z0,z0])] (first2F) (by kernel_rfl) Tryz.call74 ?_
 exact kret Tryz.func54 (by kernel_rfl)
theorem apiComposeF (h:Fv o1 o2 o3 x1 x2 x3 y1 y2 y3 z1 z2 z3) (k:Fv p1 p2 p3 u1 u2 u3 v1 v2 v3 w1 w2 w3) (eq1:o1+ld p1 p2 p3 x1 y1 z1=q1) (eq2:o2+ld p1 p2 p3 x2 y2 z2=q2) (eq3:o3+ld p1 p2 p3 x3 y3 z3=q3) (er1:ld u1 u2 u3 x1 y1 z1=r1) (er2:ld u1 u2 u3 x2 y2 z2=r2) (er3:ld u1 u2 u3 x3 y3 z3=r3) (es1:ld v1 v2 v3 x1 y1 z1=s1) (es2:ld v1 v2 v3 x2 y2 z2=s2) (es3:ld v1 v2 v3 x3 y3 z3=s3) (et1:ld w1 w2 w3 x1 y1 z1=t1) (et2:ld w1 w2 w3 x2 y2 z2=t2) (et3:ld w1 w2 w3 x3 y3 z3=t3) (hr:Wf q1 q2 q3 r1 r2 r3 s1 s2 s3 t1 t2 t3)
 (hxy:dt r1 r2 r3 s1 s2 s3=0) (hyz:dt s1 s2 s3 t1 t2 t3=0) (hzx:dt t1 t2 t3 r1 r2 r3=0):FitsW Tryz.prog Gl 14 [frS o1 o2 o3 x1 x2 x3 y1 y2 y3 z1 z2 z3,frS p1 p2 p3 u1 u2 u3 v1 v2 v3 w1 w2 w3] (okFS q1 q2 q3 r1 r2 r3 s1 s2 s3 t1 t2 t3):=by
 have hp:Fits Tryz.prog 55 [frm o1 o2 o3 x1 x2 x3 y1 y2 y3 z1 z2 z3,vc p1 p2 p3] (vc q1 q2 q3):=by
  rw [← eq1,← eq2,← eq3]
  exact placeF (h.w.lm.mono (by decide)) ((w3lf k.w.o).mono (by decide)) ((w3lf h.w.o).mono (by decide))
 have lr:Fits Tryz.prog 56 [frm o1 o2 o3 x1 x2 x3 y1 y2 y3 z1 z2 z3,vc u1 u2 u3] (vc r1 r2 r3):=by
  rw [← er1,← er2,← er3]
  exact leadF (h.w.lm.mono (by decide)) ((w3lf k.w.x).mono (by decide))
 have ls:Fits Tryz.prog 56 [frm o1 o2 o3 x1 x2 x3 y1 y2 y3 z1 z2 z3,vc v1 v2 v3] (vc s1 s2 s3):=by
  rw [← es1,← es2,← es3]
  exact leadF (h.w.lm.mono (by decide)) ((w3lf k.w.y).mono (by decide))
 have lt:Fits Tryz.prog 56 [frm o1 o2 o3 x1 x2 x3 y1 y2 y3 z1 z2 z3,vc w1 w2 w3] (vc t1 t2 t3):=by
  rw [← et1,← et2,← et3]
  exact leadF (h.w.lm.mono (by decide)) ((w3lf k.w.z).mono (by decide))
 refine kgoW Tryz.func14 (by kernel_rfl) fun w00 hG=>?_;have hI:=keepGl hG
 refine kcallW hI 54 [fnv 44,frS o1 o2 o3 x1 x2 x3 y1 y2 y3 z1 z2 z3,fnv 44,frS p1 p2 p3 u1 u2 u3 v1 v2 v3 w1 w2 w3] (readFF h k) (by kernel_rfl) Tryz.call54 ?_
 refine kcall 55 [frm o1 o2 o3 x1 x2 x3 y1 y2 y3 z1 z2 z3,vc p1 p2 p3] (hp) (by kernel_rfl) Tryz.call55 ?_
 refine kcall 37 [.fv (.clo 56 [(true,[nb o1,nb o2,nb o3,nb x1,nb x2,nb x3,nb y1,nb y2,nb y3,nb z1,nb z2,nb z3])] []),mt u1 u2 u3 v1 v2 v3 w1 w2 w3] (eachVVc Tryz.call56 lr ls lt) (by kernel_rfl) Tryz.call37 ?_
 refine kcallW hI 47 [frm q1 q2 q3 r1 r2 r3 s1 s2 s3 t1 t2 t3] (frWriteOrthogonalF hr hxy hyz hzx) (by kernel_rfl) Tryz.call47 ?_
 exact kret Tryz.func14 (by kernel_rfl)
end
end Go.Proofs.YtbhcckhbbclemaaGreatDoor.Ab
namespace Go.Proofs.YtbhcckhbbclemaaGreatDoor
open Go.RowKit Pl
def isL (c:Nat):Bool:=(decide (97≤c)&&decide (c≤122)) || (decide (65≤c)&&decide (c≤90))
def isBh (c:Nat):Bool:=(decide (48≤c)&&decide (c≤57)) || decide (c=95)
def nameFrom:List UInt8→Bool
 | []=>true
 | c::l=>(isL c.toNat || isBh c.toNat)&&nameFrom l
def nameB (s:ByteArray):Bool:=match bytesOf s with
 | []=>false
 | c::l=>isL c.toNat&&nameFrom l&&decide (s.size≤24)
theorem isLetter_any (c:Nat) (w:World):Calls Tryz.prog 88 #[.int .i32 (c:Int)] w fun e w'=>e = .returned (.bool (isL c))∧w'=w:=by
 go_enter Tryz.func88,Tryz.ntmps88
 have e1:decide ((97:Int)≤c)=decide (97≤c):=by rw [decide_eq_decide];omega
 have e2:decide ((c:Int)≤122)=decide (c≤122):=by rw [decide_eq_decide];omega
 have e3:decide ((65:Int)≤c)=decide (65≤c):=by rw [decide_eq_decide];omega
 have e4:decide ((c:Int)≤90)=decide (c≤90):=by rw [decide_eq_decide];omega
 by_cases h1:97≤c <;> by_cases h2:c≤122 <;> by_cases h3:65≤c <;> by_cases h4:c≤90 <;>
  (have k1:(97≤(c:Int))=(97≤c):=by simp;omega) <;> first|omega|(
   simp only [h1,h2,h3,h4,decide_true,decide_false] at e1 e2 e3 e4
   go_wp2
   go_ret
   simp [isL,h1,h2,h3,h4])
theorem isBehind_any (c:Nat) (w:World):Calls Tryz.prog 89 #[.int .i32 (c:Int)] w fun e w'=>e = .returned (.bool (isBh c))∧w'=w:=by
 go_enter Tryz.func89,Tryz.ntmps89
 have e1:decide ((48:Int)≤c)=decide (48≤c):=by rw [decide_eq_decide];omega
 have e2:decide ((c:Int)≤57)=decide (c≤57):=by rw [decide_eq_decide];omega
 have e3:decide ((c:Int)=95)=decide (c=95):=by rw [decide_eq_decide];omega
 have e4:((c:Int)==95)=decide (c=95):=by rw [Bool.eq_iff_iff];simp;omega
 by_cases h1:48≤c <;> by_cases h2:c≤57 <;> by_cases h3:c=95 <;> first|omega|(
  simp only [h1,h2,h3,decide_true,decide_false] at e1 e2 e3
  go_wp2
  go_ret
  simp [isBh,e4,h1,h2,h3])
theorem isL_high {c:Nat} (h:128≤c):isL c=false:=by
 simp only [isL,Bool.or_eq_false_iff,Bool.and_eq_false_iff,decide_eq_false_iff_not]
 omega
theorem isBh_high {c:Nat} (h:128≤c):isBh c=false:=by
 simp only [isBh,Bool.or_eq_false_iff,Bool.and_eq_false_iff,decide_eq_false_iff_not]
 omega
def okAt (pos c:Nat):Bool:=isL c || (decide (pos≠0)&&isBh c)
theorem nameFrom_iff (l:List UInt8):nameFrom l=true↔∀ c∈l,(isL c.toNat || isBh c.toNat)=true:=by
 induction l with
 | nil=>simp [nameFrom]
 | cons c l ih=>simp only [nameFrom,Bool.and_eq_true,ih,List.forall_mem_cons]
theorem nameB_ok {s:ByteArray} (h:∀ (j:Nat) (hj:j<s.size),okAt j (s[j]'hj).toNat=true):nameB s=(decide (s.size≠0)&&decide (s.size≤24)):=by
 have hl:=bytesOf_length s
 have hg:∀ (j:Nat) (hj:j<(bytesOf s).length),okAt j ((bytesOf s)[j]'hj).toNat=true:=fun j hj=>by
  have:=h j (by rw [← hl];exact hj)
  simp only [bytesOf,Array.getElem_toList]
  exact this
 unfold nameB
 cases hb:bytesOf s with
 | nil=>rw [hb] at hl;simp at hl;simp [← hl]
 | cons c l =>
   rw [hb] at hl hg
   have h0:=hg 0 (by simp)
   simp [okAt] at h0
   have hf:nameFrom l=true:=by
    rw [nameFrom_iff]
    intro d hd
    obtain ⟨i,hi,rfl⟩:=List.getElem_of_mem hd
    have:=hg (i+1) (by simp;omega)
    simpa [okAt] using this
   show (isL c.toNat&&nameFrom l&&decide (s.size≤24))=_
   rw [h0,hf]
   simp at hl
   have:s.size≠0:=by omega
   simp [this]
theorem nameB_bad {s:ByteArray} {j:Nat} (hj:j<s.size) (h:okAt j (s[j]'hj).toNat=false):nameB s=false:=by
 have hl:=bytesOf_length s
 have hg:okAt j ((bytesOf s)[j]'(by omega)).toNat=false:=by
  simp only [bytesOf,Array.getElem_toList]
  exact h
 unfold nameB
 cases hb:bytesOf s with
 | nil=>rfl
 | cons c l =>
   simp only [hb] at hg
   cases j with
   | zero=>simp [okAt] at hg;simp [hg]
   | succ j =>
     have:nameFrom l=false:=by
      rw [Bool.eq_false_iff]
      intro hf
      rw [nameFrom_iff] at hf
      have h2:=hf (l[j]'(by rw [hb] at hl;simp at hl;omega)) (List.getElem_mem _)
      simp [okAt] at hg
      simp [hg] at h2
     simp [this]
set_option maxRecDepth 100000 in
theorem isName_any (s:ByteArray) (w:World):Calls Tryz.prog 27 #[.string s] w fun e w'=>e = .returned (.bool (nameB s))∧Below w.heap.size w w':=by
 have hne:(!(s.toList==(⟨#[]⟩:ByteArray).toList))=decide (s.size≠0):=by
  rw [Go.ByteArray.toList_eq,Go.ByteArray.toList_eq]
  have hl:=bytesOf_length s
  unfold bytesOf at hl
  cases hb:s.data.toList with
  | nil=>rw [hb] at hl;simp at hl;simp [← hl]
  | cons c l =>
    rw [hb] at hl
    simp at hl
    have:s.size≠0:=by omega
    simp [this]
 go_enter Tryz.func27,Tryz.ntmps27
 go_wp2
 go_loopw [7] (fun _ wr => ∃ pos:Nat,wr=w.iter s pos∧pos≤s.size∧∀ (j:Nat) (hj:j<s.size),j<pos→okAt j (s[j]'hj).toNat=true) (fun _ wr=>s.size-wr.iterPos w.heap.size)
 case atStart=>exact ⟨0,rfl,Nat.zero_le _,fun j _ h=>absurd h (Nat.not_lt_zero _)⟩
 case round =>
  obtain ⟨pos,rfl,hpos,hok⟩:=hrel
  by_cases hp:pos<s.size
  ·obtain ⟨c,k,hdc,hk,hgood⟩:∃ c k,Utf8.decode s pos=(c,k)∧1≤k∧(okAt pos c=true→(∀ hj:pos<s.size,okAt pos (s[pos]'hj).toNat=true)∧k=1)∧(okAt pos c=false→∀ hj:pos<s.size,okAt pos (s[pos]'hj).toNat=false):=by
    by_cases ha:(s[pos]'hp).toNat<128
    ·exact ⟨_,_,decode_ascii s pos hp ha,Nat.le_refl _,fun h=>⟨fun _=>h,rfl⟩,fun h _=>h⟩
    ·obtain ⟨h1,h2⟩:=decode_high s pos hp (by omega)
     refine ⟨(Utf8.decode s pos).1,(Utf8.decode s pos).2,rfl,h2,fun h=>?_,fun _ _=>?_⟩
     ·rw [okAt,isL_high h1,isBh_high h1] at h
      simp at h
     ·rw [okAt,isL_high (by omega),isBh_high (by omega)]
      simp
   have hnx:∀ ty,(Instr.next (.pointer (some ⟨w.heap.size,0,none⟩)) true ty).run Tryz.prog (w.iter s pos) = .ok (.tuple #[.bool true,.int .i64 pos,.int .i32 (c:Int)]) (w.iter s (pos+k)):=fun ty=>by
    have:=run_next_any (P:=Tryz.prog) w s pos ty hp
    rw [hdc] at this
    exact this
   have HH:=Lib.hid (And.intro hp (And.intro hpos (And.intro hok (And.intro hk (And.intro hgood hne)))))
   clear hdc hp hpos hok hk hgood hne
   by_cases hL:isL c=true
   ·go_wp2_with fail
    refine (isLetter_any c _).mono ?_
    rintro e w' ⟨rfl,rfl⟩
    rw [hL]
    go_wp2
    go_roundw
    case rel =>
     obtain ⟨hp,hpos,hok,hk,hg,_⟩:=HH.out
     obtain ⟨g1,rfl⟩:=hg.1 (by rw [okAt,hL];rfl)
     refine ⟨pos+1,rfl,hp,fun j hj hjp=>?_⟩
     by_cases hjj:j=pos
     ·subst hjj;exact g1 hj
     ·exact hok j hj (by omega)
    case measure =>
     have:=HH.out.1
     have:=HH.out.2.2.2.1
     simp
     omega
   ·have hL:isL c=false:=by simpa using hL
    by_cases h0:pos=0
    ·have hz:((pos:Int)==0)=true:=by simp [h0]
     have hbad:okAt pos c=false:=by rw [okAt,hL,h0];simp
     clear h0
     go_wp2_with fail
     refine (isLetter_any c _).mono ?_
     rintro e w' ⟨rfl,rfl⟩
     rw [hL]
     go_wp2
     go_ret
     obtain ⟨hp,_,_,_,hg,_⟩:=HH.out
     exact ⟨by rw [nameB_bad hp (hg.2 hbad hp)];rfl,iter_below _ _ _⟩
    ·have hz:((pos:Int)==0)=false:=by simp [h0]
     have H0:=Lib.hid h0
     clear h0
     go_wp2_with fail
     refine (isLetter_any c _).mono ?_
     rintro e w' ⟨rfl,rfl⟩
     rw [hL]
     go_wp2_with fail
     refine (isBehind_any c _).mono ?_
     rintro e w' ⟨rfl,rfl⟩
     cases hB:isBh c with
     | false =>
       go_wp2
       go_ret
       obtain ⟨hp,_,_,_,hg,_⟩:=HH.out
       exact ⟨by rw [nameB_bad hp (hg.2 (by rw [okAt,hL,hB];simp) hp)];rfl,iter_below _ _ _⟩
     | true =>
       go_wp2
       go_roundw
       case rel =>
        obtain ⟨hp,hpos,hok,hk,hg,_⟩:=HH.out
        obtain ⟨g1,rfl⟩:=hg.1 (by have:=H0.out;simp [okAt,hL,hB,this])
        refine ⟨pos+1,rfl,hp,fun j hj hjp=>?_⟩
        by_cases hjj:j=pos
        ·subst hjj;exact g1 hj
        ·exact hok j hj (by omega)
       case measure =>
        have:=HH.out.1
        have:=HH.out.2.2.2.1
        simp
        omega
  ·have hnx:∀ ty,(Instr.next (.pointer (some ⟨w.heap.size,0,none⟩)) true ty).run Tryz.prog (w.iter s pos)=_:=fun ty=>run_next_end w s pos ty hp
   have hres:nameB s=(decide (s.size≠0)&&decide (s.size≤24)):=nameB_ok fun j hj=>hok j hj (by omega)
   have H2:=Lib.hid hres
   clear hres hok hp hpos
   by_cases h0:s.size=0
   ·have hne2:s.toList.isEmpty=true:=by rw [Go.ByteArray.toList_eq];simp;have:=bytesOf_length s;unfold bytesOf at this;exact Array.eq_empty_of_size_eq_zero (by simpa using this.trans h0)
    clear hne
    go_wp2
    go_ret
    refine ⟨?_,iter_below _ _ _⟩
    rw [H2.out,h0]
    rfl
   ·have hne2:s.toList.isEmpty=false:=by
     rw [Go.ByteArray.toList_eq,Bool.eq_false_iff]
     intro he
     have h2:=bytesOf_length s
     unfold bytesOf at h2
     rw [List.isEmpty_iff.1 he] at h2
     exact h0 h2.symm
    have H0:=Lib.hid h0
    clear hne h0
    go_wp2
    go_ret
    refine ⟨?_,iter_below _ _ _⟩
    rw [H2.out]
    have h0:=H0.out
    simp [h0]
    omega
end Go.Proofs.YtbhcckhbbclemaaGreatDoor
namespace Go.Proofs.YtbhcckhbbclemaaGreatDoor.Ab
open Go.RowKit Go.Proofs.YtbhcckhbbclemaaGreatDoor Pl
theorem isNameF {s:ByteArray} {b:Bool} (h:nameB s=b):Fits Tryz.prog 27 [lt s] (bl b):=by
 intro β w vs hv
 obtain ⟨v,rfl,h1⟩:=args1 hv
 rw [hold_lit h1]
 exact (isName_any s w).mono fun e w' ⟨e1,e2⟩=>⟨_,e1,e2,by rw [h];exact lit_hold rfl⟩
end Go.Proofs.YtbhcckhbbclemaaGreatDoor.Ab
namespace Go.Proofs.YtbhcckhbbclemaaGreatDoor
open Go.RowKit Pl
theorem bytes_get {s:ByteArray} {i:Nat} (h:i<s.size):(bytesOf s)[i]?=some (s[i]'h):=by
 rw [List.getElem?_eq_getElem (by rw [bytesOf_length];exact h)]
 rfl
def slashB (s:ByteArray):Nat:=(bytesOf s).findIdx (fun c=>c==47)
theorem slashB_le (s:ByteArray):slashB s≤s.size:=by unfold slashB;rw [← bytesOf_length];exact List.findIdx_le_length
theorem slashB_at {s:ByteArray} {pos:Nat} (hp:pos<s.size) (h:(s[pos]'hp)=47) (hb:∀ (j:Nat) (hj:j<s.size),j<pos→(s[j]'hj)≠47):slashB s=pos:=by
 unfold slashB
 refine (List.findIdx_eq (by rw [bytesOf_length];exact hp)).2 ⟨?_,fun j hj=>?_⟩
 ·have:=bytes_get hp
  rw [List.getElem?_eq_getElem (by rw [bytesOf_length];exact hp)] at this
  injection this with this
  rw [this,h];rfl
 ·have hj2:j<s.size:=Nat.lt_trans hj hp
  have:=bytes_get hj2
  rw [List.getElem?_eq_getElem (by rw [bytesOf_length];exact hj2)] at this
  injection this with this
  rw [this]
  simpa using hb j hj2 hj
theorem slashB_none {s:ByteArray} (hb:∀ (j:Nat) (hj:j<s.size),(s[j]'hj)≠47):slashB s=s.size:=by
 unfold slashB
 rw [← bytesOf_length,List.findIdx_eq_length]
 intro c hc
 obtain ⟨j,hj,e⟩:=List.mem_iff_getElem.1 hc
 have hj2:j<s.size:=by rw [← bytesOf_length];exact hj
 have h1:=bytes_get hj2
 rw [List.getElem?_eq_getElem hj,e] at h1
 injection h1 with h1
 rw [h1]
 simpa using hb j hj2
set_option maxHeartbeats 1000000 in
theorem slash_any (s:ByteArray) (w:World) (hs:s.size≤9223372036854775807):Calls Tryz.prog 110 #[.string s] w fun e w'=>e = .returned (.int .i64 (slashB s:Nat))∧w'=w:=by
 go_enter Tryz.func110,Tryz.ntmps110
 go_wp2
 go_loop [3] (fun v => ∃ pos:Nat,v = .int .i64 (pos:Int)∧pos≤s.size∧Hid (∀ (j:Nat) (hj:j<s.size),j<pos→(s[j]'hj)≠47)) (fun v=>s.size-(intOf v).toNat)
 case atStart=>exact ⟨0,rfl,Nat.zero_le _,fun j _ h=>absurd h (Nat.not_lt_zero _)⟩
 case round =>
  obtain ⟨pos,rfl,hpos,hok⟩:=hrel
  by_cases hp:pos<s.size
  ·have p1:((pos:Nat):Int)<s.size:=by omega
   obtain ⟨c,hc⟩:∃ c:Nat,(s[pos]'hp).toNat=c:=⟨_,rfl⟩
   by_cases h47:c=47
   ·have hres:slashB s=pos:=slashB_at hp (by rw [h47] at hc;exact UInt8.toNat_inj.1 hc) (fun j hj hlt=>hok.out j hj hlt)
    have HR:=Lib.hid hres
    have k1:((c:Int)==47)=true:=by rw [h47];rfl
    clear hres hok h47
    go_wp2
    go_ret
    exact ⟨by rw [HR.out];rfl,rfl⟩
   ·have k1:((c:Int)==47)=false:=by simp;omega
    have HR:=Lib.hid (show ∀ (j:Nat) (hj:j<s.size),j<pos+1→(s[j]'hj)≠47 from fun j hj hlt=>by
     by_cases hjj:j=pos
     ·subst hjj
      intro e
      rw [e] at hc
      exact h47 hc.symm
     ·exact hok.out j hj (by omega))
    clear hok h47
    have HP:=Lib.hid hp
    go_wp2
    first
     | (go_round;(case rel=>exact ⟨pos+1,by go_num,HP.out,HR.out⟩);(case measure=>(simp [intOf];omega)))
     | exact ⟨⟨pos+1,by simp,HP.out,HR.out⟩,by have:=HP.out;simp [intOf];omega⟩
  ·have hres:slashB s=s.size:=slashB_none fun j hj=>hok.out j hj (by omega)
   have HR:=Lib.hid hres
   have p1:¬ (pos:Int)<s.size:=by omega
   clear hres hok
   go_wp2
   go_ret
   exact ⟨by rw [HR.out];rfl,rfl⟩
def digitsB (s:ByteArray):Bool:=(bytesOf s).all (fun c=>decide (48≤c.toNat)&&decide (c.toNat≤57))
theorem digitsB_bad {s:ByteArray} {pos:Nat} (hp:pos<s.size) (h:(s[pos]'hp).toNat<48∨57<(s[pos]'hp).toNat):digitsB s=false:=by
 unfold digitsB
 rw [List.all_eq_false]
 refine ⟨s[pos]'hp,List.mem_of_getElem? (bytes_get hp),?_⟩
 simp
 omega
theorem digitsB_ok {s:ByteArray} (h:∀ (j:Nat) (hj:j<s.size),48≤(s[j]'hj).toNat∧(s[j]'hj).toNat≤57):digitsB s=true:=by
 unfold digitsB
 rw [List.all_eq_true]
 intro c hc
 obtain ⟨j,hj,e⟩:=List.mem_iff_getElem.1 hc
 have hj2:j<s.size:=by rw [← bytesOf_length];exact hj
 have h1:=bytes_get hj2
 rw [List.getElem?_eq_getElem hj,e] at h1
 injection h1 with h1
 rw [h1]
 simpa using h j hj2
theorem digitsB_iff {s:ByteArray}:digitsB s=true↔AllDig (bytesOf s):=by
 unfold digitsB AllDig
 rw [List.all_eq_true]
 simp
set_option maxHeartbeats 1000000 in
theorem digits_any (s:ByteArray) (w:World) (hs:s.size≤9223372036854775807):Calls Tryz.prog 203 #[.string s] w fun e w'=>e = .returned (.bool (digitsB s))∧w'=w:=by
 go_enter Tryz.func203,Tryz.ntmps203
 go_wp2
 go_loop [3] (fun v => ∃ pos:Nat,v = .int .i64 (pos:Int)∧pos≤s.size∧Hid (∀ (j:Nat) (hj:j<s.size),j<pos→48≤(s[j]'hj).toNat∧(s[j]'hj).toNat≤57)) (fun v=>s.size-(intOf v).toNat)
 case atStart=>exact ⟨0,rfl,Nat.zero_le _,fun j _ h=>absurd h (Nat.not_lt_zero _)⟩
 case round =>
  obtain ⟨pos,rfl,hpos,hok⟩:=hrel
  by_cases hp:pos<s.size
  ·have p1:((pos:Nat):Int)<s.size:=by omega
   obtain ⟨c,hc⟩:∃ c:Nat,(s[pos]'hp).toNat=c:=⟨_,rfl⟩
   by_cases h48:c<48
   ·have hres:digitsB s=false:=digitsB_bad hp (.inl (by rw [hc];exact h48))
    have HR:=Lib.hid hres
    have k1:(c:Int)<48:=by omega
    clear hres hok
    go_wp2
    go_ret
    exact ⟨by rw [HR.out];rfl,rfl⟩
   ·by_cases h57:57<c
    ·have hres:digitsB s=false:=digitsB_bad hp (.inr (by rw [hc];exact h57))
     have HR:=Lib.hid hres
     have k1:¬ (c:Int)<48:=by omega
     have k2:(57:Int)<c:=by omega
     clear hres hok
     go_wp2
     go_ret
     exact ⟨by rw [HR.out];rfl,rfl⟩
    ·have k1:(48:Int)≤c:=by omega
     have k2:(c:Int)≤57:=by omega
     have HR:=Lib.hid (show ∀ (j:Nat) (hj:j<s.size),j<pos+1→48≤(s[j]'hj).toNat∧(s[j]'hj).toNat≤57 from fun j hj hlt=>by
      by_cases hjj:j=pos
      ·subst hjj;rw [hc];omega
      ·exact hok.out j hj (by omega))
     clear hok h48 h57
     have HP:=Lib.hid hp
     go_wp2
     first
      | (go_round;(case rel=>exact ⟨pos+1,by go_num,HP.out,HR.out⟩);(case measure=>(simp [intOf];omega)))
      | exact ⟨⟨pos+1,by simp,HP.out,HR.out⟩,by have:=HP.out;simp [intOf];omega⟩
  ·have hres:digitsB s=true:=digitsB_ok fun j hj=>hok.out j hj (by omega)
   have HR:=Lib.hid hres
   have p1:¬ (pos:Int)<s.size:=by omega
   clear hres hok
   go_wp2
   go_ret
   exact ⟨by rw [HR.out];rfl,rfl⟩
set_option maxHeartbeats 1000000 in
theorem value_any (s:ByteArray) (w:World) (hd:AllDig (bytesOf s)) (hs:s.size≤17):Calls Tryz.prog 111 #[.string s] w fun e w'=>e = .returned (.int .i64 (natOf (bytesOf s):Nat))∧w'=w:=by
 go_enter Tryz.func111,Tryz.ntmps111
 go_wp2
 have HD:=Lib.hid (And.intro hd hs)
 clear hd
 go_loop [3,4] (fun nv v => ∃ pos m:Nat,v = .int .i64 (pos:Int)∧nv = .int .i64 (m:Int)∧pos≤s.size∧Hid (m=natOf ((bytesOf s).take pos))) (fun _ v=>s.size-(intOf v).toNat)
 case atStart=>exact ⟨0,0,rfl,rfl,Nat.zero_le _,by rw [List.take_zero];exact natOf_nil.symm⟩
 case round =>
  obtain ⟨pos,m,rfl,rfl,hpos,hm⟩:=hrel
  by_cases hp:pos<s.size
  ·have p1:((pos:Nat):Int)<s.size:=by omega
   obtain ⟨c,hc⟩:∃ c:Nat,(s[pos]'hp).toNat=c:=⟨_,rfl⟩
   have hcd:48≤c∧c≤57:=by rw [← hc];exact HD.out.1 _ (List.mem_of_getElem? (bytes_get hp))
   have hmb:m<100000000000000000:=by
    rw [hm.out]
    refine Nat.lt_of_lt_of_le (natOf_lt (HD.out.1.take pos)) ?_
    have:10^((bytesOf s).take pos).length≤10^17:=Nat.pow_le_pow_right (by omega) (by rw [List.length_take];have:=HD.out.2;omega)
    exact this
   have hnext:10*m+c-48=natOf ((bytesOf s).take (pos+1)):=by
    have h1:=bytes_get hp
    obtain ⟨h2,e⟩:=List.getElem?_eq_some_iff.1 h1
    rw [List.take_succ_eq_append_getElem h2,natOf_snoc,← hm.out,e,hc]
    omega
   have HR:=Lib.hid hnext
   have k1:(48:Int)≤c:=by omega
   have k2:(c:Int)≤57:=by omega
   have k3:(m:Int)≤100000000000000000:=by omega
   clear hnext hm hmb hcd
   have HP:=Lib.hid hp
   go_wp2
   first
    | (go_round;(case rel=>exact ⟨pos+1,10*m+c-48,by go_num,by go_num,HP.out,HR.out⟩);(case measure=>(simp [intOf];omega)))
    | exact ⟨⟨pos+1,10*m+c-48,by simp,by go_num,HP.out,HR.out⟩,by have:=HP.out;simp [intOf];omega⟩
  ·have p1:¬ (pos:Int)<s.size:=by omega
   have HR:=Lib.hid (show m=natOf (bytesOf s) by rw [hm.out,List.take_of_length_le (by rw [bytesOf_length];omega)])
   clear hm
   go_wp2
   go_ret
   exact ⟨by rw [HR.out];rfl,rfl⟩
set_option maxHeartbeats 1000000 in
theorem rgcd_any (a b:Nat) (w:World) (ha:a<9223372036854775808) (hb:b<9223372036854775808):Calls Tryz.prog 113 #[.int .i64 (a:Int),.int .i64 (b:Int)] w fun e w'=>e = .returned (.int .i64 (Nat.gcd a b:Nat))∧Below w.heap.size w w':=by
 have HA:=Lib.hid (And.intro ha hb)
 clear ha hb
 go_enter Tryz.func113,Tryz.ntmps113
 go_wp2
 go_loopw [0,1] (fun av bv wr => ∃ x y:Nat,av = .int .i64 (x:Int)∧bv = .int .i64 (y:Int)∧Hid (Nat.gcd x y=Nat.gcd a b∧x<9223372036854775808∧y<9223372036854775808)∧Below w.heap.size w wr) (fun _ bv _=>(intOf bv).toNat)
 case atStart=>exact ⟨a,b,rfl,rfl,⟨rfl,HA.out⟩,Below.refl _ _⟩
 case round =>
  obtain ⟨x,y,rfl,rfl,hi,hbw⟩:=hrel
  rcases Nat.eq_zero_or_pos y with h0|h0
  ·subst h0
   have HR:=Lib.hid (show x=Nat.gcd a b by rw [← hi.out.1,Nat.gcd_zero_right])
   clear hi
   go_wp2
   go_ret
   exact ⟨by rw [← HR.out];rfl,hbw⟩
  ·have k1:(0:Int)<y:=by omega
   obtain ⟨r,hr⟩:∃ r,r=x%y:=⟨_,rfl⟩
   have HR:=Lib.hid (show (Nat.gcd y r=Nat.gcd a b∧y<9223372036854775808∧r<9223372036854775808)∧r<y∧(x:Int)%(y:Int)=(r:Int)∧(x:Int).tmod (y:Int)=(r:Int) by
    have hlt:r<y:=by rw [hr];exact Nat.mod_lt _ h0
    refine ⟨⟨by rw [hr,Nat.gcd_comm,← Nat.gcd_rec,Nat.gcd_comm];exact hi.out.1,hi.out.2.2,Nat.lt_trans hlt hi.out.2.2⟩,hlt,by rw [hr];simp,?_⟩
    rw [Int.tmod_eq_emod_of_nonneg (by omega),hr];simp)
   have hz0:((y:Int)==0)=false:=by simp;omega
   have hz1:¬ (y:Int)=0:=by omega
   have hz3:((y:Int) == -1)=false:=by simp
   clear hi hr h0
   go_wp2
   go_quiet (fail)
   have hb2:=drewN0 hbw nq
   clear hbw
   generalize wr.drewN nq=w2 at *
   go_wp2
   go_roundw
   case rel =>
    obtain ⟨h1,h2,h3,h4⟩:=HR.out
    exact ⟨y,r,rfl,by first|(rw [h3];done)|(rw [h4];done)|rfl,h1,hb2⟩
   case measure =>
    obtain ⟨h1,h2,h3,h4⟩:=HR.out
    simp only [intOf]
    first|rw [h3]|rw [h4]
    omega
end Go.Proofs.YtbhcckhbbclemaaGreatDoor
