/- Parts of the proof, joined. -/
import Derived.Test.YtlnnipmbfcpaoaaGreatDoorJ8
import Derived.WalkKit
import Derived.ProofKit
import Derived.OpenShut
import Derived.Deep.DeepHandedRow
import Derived.Deep.DeepWitnessRowRef
import Derived.Lib.LaidTab
import Derived.Stop.LaidErr
import Derived.Shelf.Vars
import Derived.Lay
import Derived.Test.YtlnnipmbfcpaoaaGreatDoorProg
import Derived.ChangeArms
set_option linter.unusedSimpArgs false
set_option linter.unusedVariables false
set_option linter.constructorNameAsVariable false
namespace Go.Proofs.YtlnnipmbfcpaoaaGreatDoor
namespace Ab
open Go.RowKit Pl
theorem few5y (s:ByteArray) (h:Fy 5 s):jF 25 [tx s,it 5] (bl true):=by
 obtain ⟨q,rfl,h⟩:=h
 exact kn_F (few5Yes h)
theorem few5n (s:ByteArray) (h:¬ Fy 5 s):jF 25 [tx s,it 5] (bl false):=kn_F (few5No h)
section
variable {a1 a2 a3 b1 b2 b3 c1 c2 c3 d1 d2 d3:Rat}
theorem planesR (ka:Bq 5 a1∧Bq 5 a2∧Bq 5 a3) (kb:Bq 5 b1∧Bq 5 b2∧Bq 5 b3) (kc:Bq 5 c1∧Bq 5 c2∧Bq 5 c3) (kd:Bq 5 d1∧Bq 5 d2∧Bq 5 d3) (v1:wP (tx3 a1 a2 a3) true) (v2:wP (tx3 b1 b2 b3) true) (v3:wP (tx3 c1 c2 c3) true) (v4:wP (tx3 d1 d2 d3) true) :
 jX 3 [P12 (tx3 a1 a2 a3) (tx3 b1 b2 b3) (tx3 c1 c2 c3) (tx3 d1 d2 d3)] (bl true):=by
 rcases nT ka.1 ka.2.1 ka.2.2 kb.1 kb.2.1 kb.2.2 kc.1 kc.2.1 kc.2.2 with h|h|⟨z1,z2,z3,e,H⟩
 ·exact wM v1 v2 v3 v4 (.inl h)
 ·exact wM v1 v2 v3 v4 (.inr h)
 ·have two:=nT ka.1 ka.2.1 ka.2.2 kb.1 kb.2.1 kb.2.2 kd.1 kd.2.1 kd.2.2
  have three:=nT ka.1 ka.2.1 ka.2.2 kc.1 kc.2.1 kc.2.2 kd.1 kd.2.1 kd.2.2
  refine planes_walk (s:=writeB e) (t:=writeB (-e)) (n:=tx3 z1 z2 z3) (a':=tx3 (a1+z1) (a2+z2) (a3+z3)) (b':=tx3 (b1+z1) (b2+z2) (b3+z3)) (c':=tx3 (c1+z1) (c2+z2) (c3+z3)) v1 v2 v3 v4 H.w (H.back ka kb kc) (opposite_W H.hv H.h0 H.g (H.b.neg.wr (by omega))) (xI H.h0 H.s1 H.s2 H.s3 H.g H.b (by omega)) (normalF (iM H.s1) (iM H.s2) (iM H.s3))
   (aAf H.hv H.op H.h0 ka.1 ka.2.1 ka.2.2 H.ed.symm) (aAf H.hv H.op H.h0 kb.1 kb.2.1 kb.2.2 H.on.1) (aAf H.hv H.op H.h0 kc.1 kc.2.1 kc.2.2 H.on.2) ?_
  have E3:ThE (tx3 a1 a2 a3) (tx3 c1 c2 c3) (tx3 d1 d2 d3)∨∃ j1 j2 j3 v,Thr a1 a2 a3 c1 c2 c3 d1 d2 d3 j1 j2 j3 v:=by
   rcases three with xb|xb|xb
   ·exact .inl (.inl xb)
   ·exact .inl (.inr xb)
   ·exact .inr xb
  rcases two with xa|xa|⟨i1,i2,i3,u,I⟩
  ·exact .inl ⟨.inl xa,E3.imp id fun ⟨j1,j2,j3,v,J⟩=>⟨j1,j2,j3,_,J.w⟩⟩
  ·exact .inl ⟨.inr xa,E3.imp id fun ⟨j1,j2,j3,v,J⟩=>⟨j1,j2,j3,_,J.w⟩⟩
  ·exact .inr ⟨i1,i2,i3,_,I.w,E3.imp id fun ⟨j1,j2,j3,v,J⟩=>⟨j1,j2,j3,_,J.w,thr_cross H I J ⟨ka.1.wr (by omega),ka.2.1.wr (by omega),ka.2.2.wr (by omega)⟩⟩⟩
end
theorem wO (p:Tx):(∃ x y z,p 0=writeB x∧p 1=writeB y∧p 2=writeB z∧(Bq 5 x∧Bq 5 y∧Bq 5 z)∧wP p true)∨wP p false :=
 (fewVec_or few5y few5n).imp (fun ⟨⟨x,e1,f1⟩,⟨y,e2,f2⟩,⟨z,e3,f3⟩,h⟩=>⟨x,y,z,e1,e2,e3,⟨bq_of f1,bq_of f2,bq_of f3⟩,h⟩) id
theorem planesF (a b c d:Tx):jX 3 [P12 a b c d] (bl true):=by
 have N:∀ {p:Tx},(∃ x y z,p 0=writeB x∧p 1=writeB y∧p 2=writeB z∧(Bq 5 x∧Bq 5 y∧Bq 5 z)∧wP p true)∨wP p false→∃ t,wP p t:=fun h=>h.elim (fun ⟨_,_,_,_,_,_,_,h⟩=>⟨_,h⟩) fun h=>⟨_,h⟩
 obtain ⟨t2,n2⟩:=N (wO b)
 obtain ⟨t3,n3⟩:=N (wO c)
 obtain ⟨t4,n4⟩:=N (wO d)
 rcases wO a with ⟨a1,a2,a3,e1,e2,e3,ka,v1⟩|v1
 ·rcases wO b with ⟨b1,b2,b3,e4,e5,e6,kb,v2⟩|v2
  ·rcases wO c with ⟨c1,c2,c3,e7,e8,e9,kc,v3⟩|v3
   ·rcases wO d with ⟨d1,d2,d3,f1,f2,f3,kd,v4⟩|v4
    ·unfold wP V3 at v1 v2 v3 v4
     unfold P12
     rw [e1,e2,e3] at v1
     rw [e4,e5,e6] at v2
     rw [e7,e8,e9] at v3
     rw [f1,f2,f3] at v4
     rw [e1,e2,e3,e4,e5,e6,e7,e8,e9,f1,f2,f3]
     exact planesR ka kb kc kd v1 v2 v3 v4
    ·exact oE v1 v2 v3 v4 rfl
   ·exact oE v1 v2 v3 n4 rfl
  ·exact oE v1 v2 n3 n4 rfl
 ·exact oE v1 n2 n3 n4 rfl
end Ab
namespace Ab
open Go.ChangeShapes Go.WideShapes Go.ChangeAt Go.RowKit
theorem gPow:Tryz.prog.globalNamed "internal/strconv.uint64pow10" = some 7:=by kernel_rfl
theorem gl_of {W:World} {r:List (String×DataW Unit)} (h:laidMet Tryz.prog (("internal/strconv.uint64pow10",Lib.tabData .u64 Lib.pow10Tab)::r) W) (hs:W.ShapedOpen Tryz.prog):Gl W :=
 ⟨Lib.tabIs_of_head (t:=288) (e:=135) (n:=20) gPow (by kernel_rfl) (by kernel_rfl) (by kernel_rfl) (by kernel_rfl) (by kernel_rfl) h,
  Go.Proofs.cell_of_shapedOpen_int (zero := #[.int .i64 0]) (t:=3) hs (of_decide_eq_true (by kernel_rfl)) (by kernel_rfl) rfl (by kernel_rfl) (by kernel_rfl) (by kernel_rfl)⟩
end Ab
namespace Ab
open Go.ChangeShapes Go.WideShapes Go.RowKit
def sN (P:Program):Nat→TypeId→Nat→Option Bool
 | 0,_,_=>none
 | d+1,T,i=>match P.underlying T with
   | some (.int .i64)=>if i=0 then some false else none
   | some .string=>if i=0 then some true else none
   | some (.array n e)=>if 0<P.cellsOf e∧i/P.cellsOf e<n then sN P d e (i%P.cellsOf e) else none
   | some (.struct fs)=>(fs.toList.find? fun f=>decide (f.offset≤i∧i<f.offset+P.cellsOf f.type)).bind fun f=>sN P d f.type (i-f.offset)
   | _=>none
def isKind:Bool→Value→Prop
 | true,c => ∃ s:ByteArray,c = .string s∧s.size≤maxLen
 | false,c => ∃ n:Int,c = .int .i64 n∧(Lit.int .i64 n).wf=true
section
variable {H:Type} {enc:TypeId×Value→H} {P:Program} {w:World} {base:Nat} {spare:Nat→Bool} {held:Bool}
theorem piece {cs:List Value} {o n r:Nat} {c:Value} (h:((cs.drop o).take n)[r]?=some c):cs[o+r]?=some c:=by
 rw [List.getElem?_take] at h
 split at h
 ·rw [List.getElem?_drop] at h;exact h
 ·cases h
theorem trod_kind:∀ (d:Nat) {T:TypeId} {fuel i:Nat} {cs:List Value} {x:DataW H×List MemPlace} {k:Bool},DataW.trod enc P w base spare held fuel T cs=some x→sN P d T i=some k→∃ c,cs[i]?=some c∧isKind k c:=by
 intro d
 induction d with
 | zero=>intro T fuel i cs x k _ hk;cases hk
 | succ d ih =>
   intro T fuel i cs x k h hk
   unfold sN at hk
   split at hk
   ·rename_i hu
    split at hk <;> cases hk
    rename_i h0
    subst h0
    cases fuel with
    | zero=>cases h
    | succ m =>
      unfold DataW.trod at h
      rw [hu] at h
      split at h <;> simp_all
      obtain ⟨⟨_,hw⟩,_⟩:=h
      cases ‹IntKind.i64=_›
      exact ⟨_,rfl,hw⟩
   ·rename_i hu
    split at hk <;> cases hk
    rename_i h0
    subst h0
    cases fuel with
    | zero=>cases h
    | succ m =>
      unfold DataW.trod at h
      rw [hu] at h
      split at h <;> simp_all
      exact ⟨_,rfl,h.1⟩
   ·rename_i n e hu
    split at hk
    ·rename_i hi
     obtain ⟨xs,m,_,_,_,hlen,hat⟩:=DataW.trod_array hu h
     have hq:=hat (i/P.cellsOf e) hi.2
     rw [List.getElem?_eq_getElem (by omega)] at hq
     obtain ⟨c,hc,hk'⟩:=ih hq hk
     refine ⟨c,?_,hk'⟩
     have:=piece hc
     rw [Nat.mul_comm,Nat.div_add_mod] at this
     exact this
    ·cases hk
   ·rename_i fs hu
    rw [Option.bind_eq_some_iff] at hk
    obtain ⟨f,hf,hk⟩:=hk
    have hp:=List.find?_some hf
    simp only [decide_eq_true_eq] at hp
    obtain ⟨j,hj,hje⟩:=List.getElem_of_mem (List.mem_of_find?_eq_some hf)
    obtain ⟨xs,n,_,_,_,hlen,hat⟩:=DataW.trod_struct hu h
    have hq:=hat j f (by rw [← hje];simp)
    rw [List.getElem?_eq_getElem (by simp at hj;omega)] at hq
    obtain ⟨c,hc,hk'⟩:=ih hq hk
    refine ⟨c,?_,hk'⟩
    have:=piece hc
    rw [show f.offset+(i-f.offset)=i by omega] at this
    exact this
   ·cases hk
def sO (P:Program):Nat→TypeId→Bool
 | 0,_=>false
 | d+1,T=>match P.underlying T with
   | some (.int _)|some .string=>true
   | some (.array _ e)=>sO P d e
   | some (.struct fs)=>fs.toList.all fun f=>sO P d f.type
   | _=>false
theorem sP {α β:Type} {f g:α→Option (β×List MemPlace)}:∀ {l:List α} {xs:List (β×List MemPlace)},l.mapM f=some xs→(∀ a∈l,∀ x,f a=some x→g a=some x∧x.2 = [])→l.mapM g=some xs∧xs.flatMap (·.2) = []
 | [],xs,h,_=>by simp at h;subst h;exact ⟨rfl,rfl⟩
 | a::l,xs,h,hs=>by
   rw [List.mapM_cons] at h
   simp only [bind,Option.bind_eq_some_iff,pure,Option.some.injEq] at h
   obtain ⟨y,hy,ys,hys,rfl⟩:=h
   obtain ⟨g1,g2⟩:=hs a (by simp) y hy
   obtain ⟨i1,i2⟩:=sP hys fun b hb=>hs b (by simp [hb])
   exact ⟨by rw [List.mapM_cons,g1,i1];rfl,by simp [g2,i2]⟩
def SameRead (enc:TypeId×Value→H) (P:Program) (w:World) (base:Nat) (spare:Nat→Bool) (held:Bool) (w' : World) (base' : Nat) (spare' : Nat→Bool) (d:Nat):Prop :=
 ∀ (T:TypeId) (fuel:Nat) (cs:List Value) (x:DataW H×List MemPlace),sO P d T=true→DataW.trod enc P w base spare held fuel T cs=some x→DataW.trod enc P w' base' spare' held fuel T cs=some x∧x.2 = []
theorem trod_plain {w' : World} {base' : Nat} {spare' : Nat→Bool}:∀ d:Nat,SameRead enc P w base spare held w' base' spare' d:=by
 intro d
 induction d with
 | zero=>intro T fuel cs x hp;cases hp
 | succ d ih =>
   intro T fuel cs x hp h
   cases fuel with
   | zero=>cases h
   | succ m =>
     unfold sO at hp
     unfold DataW.trod at h ⊢
     split at hp
     ·rename_i hu
      rw [hu] at h ⊢
      split at h <;> simp_all <;> (obtain ⟨_,h⟩:=h;rw [← h])
     ·rename_i hu
      rw [hu] at h ⊢
      split at h <;> simp_all <;> (obtain ⟨_,h⟩:=h;rw [← h])
     ·rename_i hu
      rw [hu] at h ⊢
      split at h <;> simp_all
      obtain ⟨hl,xs,hxs,rfl⟩:=h
      obtain ⟨g1,g2⟩:=sP hxs fun a _ x hx=>ih _ _ _ _ hp hx
      exact ⟨⟨xs,g1,rfl⟩,g2⟩
     ·rename_i hu
      rw [hu] at h ⊢
      split at h <;> simp_all
      obtain ⟨hl,xs,hxs,rfl⟩:=h
      obtain ⟨g1,g2⟩:=sP hxs fun a ha x hx=>ih _ _ _ _ (by obtain ⟨j,hj,rfl⟩:=List.getElem_of_mem ha;simpa using hp j (by simpa using hj)) hx
      exact ⟨⟨xs,g1,rfl⟩,g2⟩
     ·cases hp
theorem Trod_plain {w' : World} {base' : Nat} {spare' : Nat→Bool} {T:TypeId} {v:Value} {D:DataW H} {p:List MemPlace} (hp:sO P 10 T=true) (h:DataW.Trod enc P w base spare held T v D p):p = []∧DataW.Trod enc P w' base' spare' held T v D []:=by
 obtain ⟨fuel,hf⟩:=h
 obtain ⟨h1,h2⟩:=trod_plain (w':=w') (base':=base') (spare':=spare') 10 _ _ _ _ hp hf
 simp only at h2
 subst h2
 exact ⟨rfl,fuel,h1⟩
theorem agg_of {r:Reach} {b0 n:Nat} {T:TypeId} {v:Value} (hu:(match P.underlying T with|some (.struct _)|some (.array _ _)=>true|_=>false)=true) (hC:P.cellsOf T=n) (hv:Value.okWide P w r b0 T v):∃ cs:Array Value,v = .agg cs∧cs.size=n:=by
 split at hu
 ·rename_i hs
  simp only [Value.okWide,hs] at hv
  obtain ⟨cs,h1,h2,_⟩:=hv
  exact ⟨cs,h1,h2.trans hC⟩
 ·rename_i hs
  simp only [Value.okWide,hs] at hv
  obtain ⟨cs,h1,h2,_⟩:=hv
  exact ⟨cs,h1,h2.trans hC⟩
 ·cases hu
theorem cell_at {T:TypeId} {cs:Array Value} {D:DataW H} {p:List MemPlace} {k:Bool} (i:Nat) (h:DataW.Trod enc P w base spare held T (.agg cs) D p) (hk:sN P 10 T i=some k):∃ c,cs[i]?=some c∧isKind k c:=by
 obtain ⟨fuel,hf⟩:=h
 obtain ⟨c,h1,h2⟩:=trod_kind 10 hf hk
 exact ⟨c,by simpa [Value.cells] using h1,h2⟩
theorem open_txts {r:Reach} {b0 n:Nat} {T:TypeId} {v:Value} {D:DataW H} {p:List MemPlace} (hu:(match P.underlying T with|some (.struct _)|some (.array _ _)=>true|_=>false)=true) (hC:P.cellsOf T=n)
 (hk:((List.range n).all fun i=>sN P 10 T i==some true)=true) (hv:Value.okWide P w r b0 T v) (h:DataW.Trod enc P w base spare held T v D p):∃ l:List ByteArray,l.length=n∧v = .agg (l.map Value.string).toArray:=by
 obtain ⟨cs,rfl,hs⟩:=agg_of hu hC hv
 refine ⟨cs.toList.map fun v=>match v with | .string s=>s|_=>default,by simp [hs],?_⟩
 congr 1
 apply Array.toList_inj.1
 rw [List.map_map]
 apply List.ext_getElem
 ·simp
 ·intro i h1 h2
  have hi:i<n:=by simpa [hs] using h1
  have hk':=List.all_eq_true.1 hk i (List.mem_range.2 hi)
  obtain ⟨c,e,s,rfl,_⟩:=cell_at i h (eq_of_beq hk')
  have e2:cs.toList[i] = .string s:=by
   have:=Array.getElem?_eq_some_iff.1 e
   simpa using this.2
  simp [e2]
end
end Ab
end Go.Proofs.YtlnnipmbfcpaoaaGreatDoor
