/- Parts of the proof, joined. -/
import Derived.Test.YtejbgingjeedaaaGreatDoorJ18
import Derived.Test.YtejbgingjeedaaaGreatDoorJ16
import Derived.WalkKit
import Derived.ProofKit
import Derived.OpenShut
import Derived.Deep.DeepHandedRow
import Derived.Deep.DeepWitnessRowRef
import Derived.Lib.LaidTab
import Derived.Stop.LaidErr
import Derived.Shelf.Vars
import Derived.Lay
import Derived.Test.YtejbgingjeedaaaGreatDoorProg
import Derived.ChangeArms
set_option linter.unusedSimpArgs false
set_option linter.unusedVariables false
namespace Go.Proofs.YtejbgingjeedaaaGreatDoor.Ab
open Go.RowKit Go.Proofs.YtejbgingjeedaaaGreatDoor Pl
set_option maxRecDepth 100000 in
theorem vV {a b c:ByteArray} {n:Int} {T:TypeId} {r:Bool} (h:(lo n a || lo n b || lo n c)=r):Fits Tryz.prog 6 [it n,.fv (.nsl 1 T [bY a,bY b,bY c])] (bl (!r)):=by
 obtain ⟨r0,e0⟩:∃ r,lo n a=r:=⟨_,rfl⟩
 obtain ⟨r1,e1⟩:∃ r,lo n b=r:=⟨_,rfl⟩
 obtain ⟨r2,e2⟩:∃ r,lo n c=r:=⟨_,rfl⟩
 rw [e0,e1,e2] at h
 subst h
 refine kgoAS Tryz.func6 (by kernel_rfl) fun w00=>?_
 refine iO 16 22 Tryz.underlying22 a (by kernel_rfl) ?_
 refine kgg (.tmp 17) (.tmp 18) a.size n r0 _ dB e0 ?_
 cases r0
 case true=>exact jR Tryz.func6
 refine iO 25 22 Tryz.underlying22 b (by kernel_rfl) ?_
 refine kgg (.tmp 26) (.tmp 27) b.size n r1 _ dB e1 ?_
 cases r1
 case true=>exact jR Tryz.func6
 refine iO 35 22 Tryz.underlying22 c (by kernel_rfl) ?_
 refine kgg (.tmp 36) (.tmp 37) c.size n r2 _ dB e2 ?_
 cases r2
 case true=>exact jR Tryz.func6
 exact jR Tryz.func6
set_option maxRecDepth 100000 in
theorem shortF4 {o1 o2 o3 x1 x2 x3 y1 y2 y3 z1 z2 z3:ByteArray} {n:Int} {T:TypeId} {r:Bool} (h:(lo n o1 || lo n o2 || lo n o3 || lo n x1 || lo n x2 || lo n x3 || lo n y1 || lo n y2 || lo n y3 || lo n z1 || lo n z2 || lo n z3)=r):Fits Tryz.prog 6 [it n,.fv (.nsl 4 T [bY o1,bY o2,bY o3,bY x1,bY x2,bY x3,bY y1,bY y2,bY y3,bY z1,bY z2,bY z3])] (bl (!r)):=by
 obtain ⟨r0,e0⟩:∃ r,lo n o1=r:=⟨_,rfl⟩
 obtain ⟨r1,e1⟩:∃ r,lo n o2=r:=⟨_,rfl⟩
 obtain ⟨r2,e2⟩:∃ r,lo n o3=r:=⟨_,rfl⟩
 obtain ⟨r3,e3⟩:∃ r,lo n x1=r:=⟨_,rfl⟩
 obtain ⟨r4,e4⟩:∃ r,lo n x2=r:=⟨_,rfl⟩
 obtain ⟨r5,e5⟩:∃ r,lo n x3=r:=⟨_,rfl⟩
 obtain ⟨r6,e6⟩:∃ r,lo n y1=r:=⟨_,rfl⟩
 obtain ⟨r7,e7⟩:∃ r,lo n y2=r:=⟨_,rfl⟩
 obtain ⟨r8,e8⟩:∃ r,lo n y3=r:=⟨_,rfl⟩
 obtain ⟨r9,e9⟩:∃ r,lo n z1=r:=⟨_,rfl⟩
 obtain ⟨r10,e10⟩:∃ r,lo n z2=r:=⟨_,rfl⟩
 obtain ⟨r11,e11⟩:∃ r,lo n z3=r:=⟨_,rfl⟩
 rw [e0,e1,e2,e3,e4,e5,e6,e7,e8,e9,e10,e11] at h
 subst h
 refine kgoAS Tryz.func6 (by kernel_rfl) fun w00=>?_
 refine iO 16 22 Tryz.underlying22 o1 (by kernel_rfl) ?_
 refine kgg (.tmp 17) (.tmp 18) o1.size n r0 _ dB e0 ?_
 cases r0
 case true=>exact jR Tryz.func6
 refine iO 25 22 Tryz.underlying22 o2 (by kernel_rfl) ?_
 refine kgg (.tmp 26) (.tmp 27) o2.size n r1 _ dB e1 ?_
 cases r1
 case true=>exact jR Tryz.func6
 refine iO 35 22 Tryz.underlying22 o3 (by kernel_rfl) ?_
 refine kgg (.tmp 36) (.tmp 37) o3.size n r2 _ dB e2 ?_
 cases r2
 case true=>exact jR Tryz.func6
 refine iO 16 22 Tryz.underlying22 x1 (by kernel_rfl) ?_
 refine kgg (.tmp 17) (.tmp 18) x1.size n r3 _ dB e3 ?_
 cases r3
 case true=>exact jR Tryz.func6
 refine iO 25 22 Tryz.underlying22 x2 (by kernel_rfl) ?_
 refine kgg (.tmp 26) (.tmp 27) x2.size n r4 _ dB e4 ?_
 cases r4
 case true=>exact jR Tryz.func6
 refine iO 35 22 Tryz.underlying22 x3 (by kernel_rfl) ?_
 refine kgg (.tmp 36) (.tmp 37) x3.size n r5 _ dB e5 ?_
 cases r5
 case true=>exact jR Tryz.func6
 refine iO 16 22 Tryz.underlying22 y1 (by kernel_rfl) ?_
 refine kgg (.tmp 17) (.tmp 18) y1.size n r6 _ dB e6 ?_
 cases r6
 case true=>exact jR Tryz.func6
 refine iO 25 22 Tryz.underlying22 y2 (by kernel_rfl) ?_
 refine kgg (.tmp 26) (.tmp 27) y2.size n r7 _ dB e7 ?_
 cases r7
 case true=>exact jR Tryz.func6
 refine iO 35 22 Tryz.underlying22 y3 (by kernel_rfl) ?_
 refine kgg (.tmp 36) (.tmp 37) y3.size n r8 _ dB e8 ?_
 cases r8
 case true=>exact jR Tryz.func6
 refine iO 16 22 Tryz.underlying22 z1 (by kernel_rfl) ?_
 refine kgg (.tmp 17) (.tmp 18) z1.size n r9 _ dB e9 ?_
 cases r9
 case true=>exact jR Tryz.func6
 refine iO 25 22 Tryz.underlying22 z2 (by kernel_rfl) ?_
 refine kgg (.tmp 26) (.tmp 27) z2.size n r10 _ dB e10 ?_
 cases r10
 case true=>exact jR Tryz.func6
 refine iO 35 22 Tryz.underlying22 z3 (by kernel_rfl) ?_
 refine kgg (.tmp 36) (.tmp 37) z3.size n r11 _ dB e11 ?_
 cases r11
 case true=>exact jR Tryz.func6
 exact jR Tryz.func6
abbrev F12.lo (f:F12) (n:Int):Bool:=(Ab.lo n f.o1 || Ab.lo n f.o2 || Ab.lo n f.o3 || Ab.lo n f.x1 || Ab.lo n f.x2 || Ab.lo n f.x3 || Ab.lo n f.y1 || Ab.lo n f.y2 || Ab.lo n f.y3 || Ab.lo n f.z1 || Ab.lo n f.z2 || Ab.lo n f.z3)
theorem yC {f:F12} {n:Int} {r:Bool} (h:f.lo n=r):Fits Tryz.prog 5 [it n,f.av] (bl (!r)):=by
 have hs:=shortF4 (T:=24) h
 refine jG Tryz.func5 fun w00=>?_
 refine jC 6 _ (hs) Tryz.call6 ?_
 exact jR Tryz.func5
theorem point15:Fits Tryz.prog 13 [noT,it 15,it 15,noT] (bl true):=by
 refine jG Tryz.func13 fun w00=>?_
 exact jR Tryz.func13
abbrev Bf (z:Int):Prop:=z=1∨z=4∨z=6∨z=15
abbrev noR:AV Kn := .fv (.ag [eT,eT,eT,eT,eT,eT,eT,eT,eT,eT,eT,eT])
abbrev noRV (z:Int):AV Kn := .tup [.ag [eT,eT,eT,eT,eT,eT,eT,eT,eT,eT,eT,eT],.sc (lz z)]
theorem pointBf {z:Int} (h:Bf z):Fits Tryz.prog 13 [noT,it z,it z,noT] (bl true):=by
 rcases h with rfl|rfl|rfl|rfl
 ·exact yA (by decide)
 ·exact yA (by decide)
 ·exact yA (by decide)
 ·exact point15
theorem axesBad {z:Int} (h:Bf z):Fits Tryz.prog 14 [noR,it z,it z,noR] (bl true):=by
 rcases h with rfl|rfl|rfl|rfl
 all_goals
  refine jG Tryz.func14 fun w00=>?_
  exact jR Tryz.func14
section
variable {f:FuncId} {w00:World} {Out:Value→World→Prop} {c:Cfg Kn}
theorem kfe (x y:Operand) (a0 a1 a2 a3 a4 a5 a6 a7 a8 a9 b0 b1:ByteArray) (hg:Ok Tryz.prog f w00 Out (dC Tryz.prog 1000 (c.give (bl true))))
 (hc:(c.op.map fun o=>o.op,c.okT (bl true),c.ev x,c.ev y)=(some (.binOp .eql 26 x y 26),true,yV a0 a1 a2 a3 a4 a5 a6 a7 a8 a9 b0 b1,yV a0 a1 a2 a3 a4 a5 a6 a7 a8 a9 b0 b1):=by kernel_rfl):Ok Tryz.prog f w00 Out c :=
 dW (.binOp .eql 26 x y 26) x y _ _ (bl true) hc (by simp [Op.operands]) (by simp [Op.operands]) (fun ρ o β w ho hx hy=>⟨_,agg_eq (by kernel_rfl) (equalFr a0 a1 a2 a3 a4 a5 a6 a7 a8 a9 b0 b1 w) ho (fr_is hx) (fr_is hy),aX rfl⟩) hg
end
theorem axesOk {o1 o2 o3 x1 x2 x3 y1 y2 y3 z1 z2 z3:Rat} (h:Wf o1 o2 o3 x1 x2 x3 y1 y2 y3 z1 z2 z3):Fits Tryz.prog 14 [frA o1 o2 o3 x1 x2 x3 y1 y2 y3 z1 z2 z3,it 0,it 0,frA o1 o2 o3 x1 x2 x3 y1 y2 y3 z1 z2 z3] (bl true):=by
 have hl:=yB h
 refine jG Tryz.func14 fun w00=>?_
 refine jC 45 _ (hl) Tryz.call45 ?_
 refine kfe (.tmp 26) (.tmp 27) (writeB o1) (writeB o2) (writeB o3) (writeB x1) (writeB x2) (writeB x3) (writeB y1) (writeB y2) (writeB y3) (writeB z1) (writeB z2) (writeB z3) ?_
 exact jR Tryz.func14
theorem first2Fr {T:TypeId} {x y:Int} (hx:Bf x):Fits Tryz.prog 69 [.fv (.nsl 2 T [lz x,lz y])] (it x):=by
 rcases hx with rfl|rfl|rfl|rfl
 all_goals
  refine nL Tryz.func69 (by kernel_rfl) fun w00=>?_
  exact jR Tryz.func69
section
variable {f:F12} {z y:Int} {a b c:ByteArray}
theorem readFVE (h:f.Rb) (k:Rb3 a b c) (hz:f.ck=z) (h0:Bf z):FitsW Tryz.prog Gl 36 [gP 35,f.av,gP 37,t3 a b c] (.tup [.ag [.sp csF],.ag [nb (cR a),nb (cR b),nb (cR c)],.sc (lz z)]):=by
 refine cA Tryz.func36 (by kernel_rfl) fun w00 hG=>?_;have hI:=aS hG
 refine jW hI 35 _ (kX f h hz (by rcases h0 with rfl|rfl|rfl|rfl <;> decide)) Tryz.call35 ?_
 refine jW hI 37 _ (oO k rfl) Tryz.call37 ?_
 refine jC 69 [.fv (.nsl 2 31 [lz z,lz (c3 a b c)])] (first2Fr h0) Tryz.call69 ?_
 exact jR Tryz.func36
theorem apiPlaceErrF (h:f.Rb) (k:Rb3 a b c) (hz:f.ck=z) (h0:Bf z):FitsW Tryz.prog Gl 9 [f.av,t3 a b c] (noV z):=by
 have hr:=readFVE h k hz h0
 rcases h0 with rfl|rfl|rfl|rfl
 all_goals
  refine cA Tryz.func9 (by kernel_rfl) fun w00 hG=>?_;have hI:=aS hG
  refine jW hI 36 _ (hr) Tryz.call36 ?_
  exact jR Tryz.func9
theorem apiLocalErrF (h:f.Rb) (k:Rb3 a b c) (hz:f.ck=z) (h0:Bf z):FitsW Tryz.prog Gl 10 [f.av,t3 a b c] (noV z):=by
 have hr:=readFVE h k hz h0
 rcases h0 with rfl|rfl|rfl|rfl
 all_goals
  refine cA Tryz.func10 (by kernel_rfl) fun w00 hG=>?_;have hI:=aS hG
  refine jW hI 36 _ (hr) Tryz.call36 ?_
  exact jR Tryz.func10
theorem apiShiftErrF (h:f.Rb) (k:Rb3 a b c) (hz:f.ck=z) (h0:Bf z):FitsW Tryz.prog Gl 11 [f.av,t3 a b c] (noRV z):=by
 have hr:=readFVE h k hz h0
 rcases h0 with rfl|rfl|rfl|rfl
 all_goals
  refine cA Tryz.func11 (by kernel_rfl) fun w00 hG=>?_;have hI:=aS hG
  refine jW hI 36 _ (hr) Tryz.call36 ?_
  exact jR Tryz.func11
theorem yD (h:f.Rb) (hz:f.ck=z) (h0:Bf z):FitsW Tryz.prog Gl 12 [f.av] (noV z):=by
 have hr:=kX f h hz (by rcases h0 with rfl|rfl|rfl|rfl <;> decide)
 rcases h0 with rfl|rfl|rfl|rfl
 all_goals
  refine cA Tryz.func12 (by kernel_rfl) fun w00 hG=>?_;have hI:=aS hG
  refine jW hI 35 _ (hr) Tryz.call35 ?_
  exact jR Tryz.func12
theorem sT (h:f.Rb) (hz:f.ck=z) (h0:Bf z):FitsW Tryz.prog Gl 8 [f.av] (it z):=by
 have hr:=kX f h hz (by rcases h0 with rfl|rfl|rfl|rfl <;> decide)
 refine cA Tryz.func8 (by kernel_rfl) fun w00 hG=>?_;have hI:=aS hG
 refine jW hI 35 _ (hr) Tryz.call35 ?_
 exact jR Tryz.func8
end
section
variable {o1 o2 o3 x1 x2 x3 y1 y2 y3 z1 z2 z3:Rat} {a b c:ByteArray} {z:Int}
theorem readFVP (h:Fv o1 o2 o3 x1 x2 x3 y1 y2 y3 z1 z2 z3) (k:Rb3 a b c) (hz:c3 a b c=z):FitsW Tryz.prog Gl 36 [gP 35,gW o1 o2 o3 x1 x2 x3 y1 y2 y3 z1 z2 z3,gP 37,t3 a b c] (.tup [.ag [nb o1,nb o2,nb o3,nb x1,nb x2,nb x3,nb y1,nb y2,nb y3,nb z1,nb z2,nb z3],.ag [nb (cR a),nb (cR b),nb (cR c)],.sc (lz z)]):=by
 refine cA Tryz.func36 (by kernel_rfl) fun w00 hG=>?_;have hI:=aS hG
 refine jW hI 35 _ (h.r) Tryz.call35 ?_
 refine jW hI 37 _ (oO k rfl) Tryz.call37 ?_
 refine jC 69 [.fv (.nsl 2 31 [z0,lz (c3 a b c)])] (aAe (x:=0) (.inl rfl) (kN _ _ _) ((f2_r rfl).trans hz)) Tryz.call69 ?_
 exact jR Tryz.func36
theorem apiPlaceErrP (h:Fv o1 o2 o3 x1 x2 x3 y1 y2 y3 z1 z2 z3) (k:Rb3 a b c) (hz:c3 a b c=z) (h0:B14 z):FitsW Tryz.prog Gl 9 [gW o1 o2 o3 x1 x2 x3 y1 y2 y3 z1 z2 z3,t3 a b c] (noV z):=by
 have hr:=readFVP h k hz
 rcases h0 with rfl|rfl
 all_goals
  refine cA Tryz.func9 (by kernel_rfl) fun w00 hG=>?_;have hI:=aS hG
  refine jW hI 36 _ (hr) Tryz.call36 ?_
  exact jR Tryz.func9
theorem apiLocalErrP (h:Fv o1 o2 o3 x1 x2 x3 y1 y2 y3 z1 z2 z3) (k:Rb3 a b c) (hz:c3 a b c=z) (h0:B14 z):FitsW Tryz.prog Gl 10 [gW o1 o2 o3 x1 x2 x3 y1 y2 y3 z1 z2 z3,t3 a b c] (noV z):=by
 have hr:=readFVP h k hz
 rcases h0 with rfl|rfl
 all_goals
  refine cA Tryz.func10 (by kernel_rfl) fun w00 hG=>?_;have hI:=aS hG
  refine jW hI 36 _ (hr) Tryz.call36 ?_
  exact jR Tryz.func10
theorem apiShiftErrP (h:Fv o1 o2 o3 x1 x2 x3 y1 y2 y3 z1 z2 z3) (k:Rb3 a b c) (hz:c3 a b c=z) (h0:B14 z):FitsW Tryz.prog Gl 11 [gW o1 o2 o3 x1 x2 x3 y1 y2 y3 z1 z2 z3,t3 a b c] (noRV z):=by
 have hr:=readFVP h k hz
 rcases h0 with rfl|rfl
 all_goals
  refine cA Tryz.func11 (by kernel_rfl) fun w00 hG=>?_;have hI:=aS hG
  refine jW hI 36 _ (hr) Tryz.call36 ?_
  exact jR Tryz.func11
theorem oS (h:Fv o1 o2 o3 x1 x2 x3 y1 y2 y3 z1 z2 z3):FitsW Tryz.prog Gl 8 [gW o1 o2 o3 x1 x2 x3 y1 y2 y3 z1 z2 z3] (it 0):=by
 refine cA Tryz.func8 (by kernel_rfl) fun w00 hG=>?_;have hI:=aS hG
 refine jW hI 35 _ (h.r) Tryz.call35 ?_
 exact jR Tryz.func8
end
structure F12.Ss (f:F12):Prop where
 o:Ss3 f.o1 f.o2 f.o3
 x:Ss3 f.x1 f.x2 f.x3
 y:Ss3 f.y1 f.y2 f.y3
 z:Ss3 f.z1 f.z2 f.z3
theorem F12.Ss.rb {f:F12} (h:f.Ss):f.Rb:=⟨h.o.sl.rb,h.x.sl.rb,h.y.sl.rb,h.z.sl.rb⟩
section
variable {f:F12} {z:Int} {a b c:ByteArray}
theorem lo_no (h:f.Ss):f.lo 30=false:=by
 simp only [F12.lo,Ab.lo]
 rw [qT h.o.1,qT h.o.2.1,qT h.o.2.2,qT h.x.1,qT h.x.2.1,qT h.x.2.2,qT h.y.1,qT h.y.2.1,qT h.y.2.2,qT h.z.1,qT h.z.2.1,qT h.z.2.2]
 rfl
theorem lo3_no (h:Ss3 a b c):(lo 30 a || lo 30 b || lo 30 c)=false:=by
 simp only [lo]
 rw [qT h.1,qT h.2.1,qT h.2.2]
 rfl
theorem frames_long1 (h:f.lo 30=true):FitsW Tryz.prog Gl 3 [f.av,t3 a b c] (bl true):=by
 have hs:=yC h
 refine cA Tryz.func3 (by kernel_rfl) fun w00 hG=>?_;have hI:=aS hG
 refine jW hI 4 [] (qS) Tryz.call4 ?_
 refine jC 5 _ (hs) Tryz.call5 ?_
 refine jW hI 4 [] (qS) Tryz.call4 ?_
 exact jR Tryz.func3
theorem frames_long2 (h:f.lo 30=false) (k:(lo 30 a || lo 30 b || lo 30 c)=true):FitsW Tryz.prog Gl 3 [f.av,t3 a b c] (bl true):=by
 have hs:=yC h
 have ht:=vV (T:=24) k
 refine cA Tryz.func3 (by kernel_rfl) fun w00 hG=>?_;have hI:=aS hG
 refine jW hI 4 [] (qS) Tryz.call4 ?_
 refine jC 5 _ (hs) Tryz.call5 ?_
 refine jC 6 _ (ht) Tryz.call6 ?_
 refine jW hI 4 [] (qS) Tryz.call4 ?_
 exact jR Tryz.func3
set_option maxRecDepth 100000 in
theorem uX (h:f.Ss) (k:Ss3 a b c) (hz:f.ck=z) (h0:Bf z) (kC:Fits Tryz.prog 7 [f.av] (it z)):FitsW Tryz.prog Gl 3 [f.av,t3 a b c] (bl true):=by
 have hs:=yC (lo_no h)
 have ht:=vV (T:=24) (lo3_no k)
 have cC:=sT h.rb hz h0
 have c1:=apiPlaceErrF h.rb k.sl.rb hz h0
 have c2:=apiLocalErrF h.rb k.sl.rb hz h0
 have c3':=apiShiftErrF h.rb k.sl.rb hz h0
 have c4:=yD h.rb hz h0
 have pB:=pointBf h0
 have aB:=axesBad h0
 clear hz h k
 rcases h0 with rfl|rfl|rfl|rfl
 all_goals
  refine cA Tryz.func3 (by kernel_rfl) fun w00 hG=>?_;have hI:=aS hG
  refine jW hI 4 [] (qS) Tryz.call4 ?_
  refine jC 5 _ (hs) Tryz.call5 ?_
  refine jC 6 _ (ht) Tryz.call6 ?_
  refine jC 7 _ (kC) Tryz.call7 ?_
  refine jW hI 8 _ (cC) Tryz.call8 ?_
  refine jW hI 9 _ (c1) Tryz.call9 ?_
  refine jW hI 10 _ (c2) Tryz.call10 ?_
  refine jW hI 11 _ (c3') Tryz.call11 ?_
  refine jW hI 12 _ (c4) Tryz.call12 ?_
  refine jC 13 _ (pB) Tryz.call13 ?_
  refine jC 13 _ (pB) Tryz.call13 ?_
  refine jC 14 _ (aB) Tryz.call14 ?_
  refine jC 13 _ (pB) Tryz.call13 ?_
  exact jR Tryz.func3
end
section
variable {o1 o2 o3 x1 x2 x3 y1 y2 y3 z1 z2 z3 p1 p2 p3:Rat} {a b c:ByteArray} {z:Int}
abbrev wF (o1 o2 o3 x1 x2 x3 y1 y2 y3 z1 z2 z3:Rat):F12:=⟨writeB o1,writeB o2,writeB o3,writeB x1,writeB x2,writeB x3,writeB y1,writeB y2,writeB y3,writeB z1,writeB z2,writeB z3⟩
theorem Qf.wf (q:Qf o1 o2 o3 x1 x2 x3 y1 y2 y3 z1 z2 z3):Wf o1 o2 o3 x1 x2 x3 y1 y2 y3 z1 z2 z3:=⟨⟨q.o1.wr (by omega),q.o2.wr (by omega),q.o3.wr (by omega)⟩,⟨q.x1.wr (by omega),q.x2.wr (by omega),q.x3.wr (by omega)⟩,⟨q.y1.wr (by omega),q.y2.wr (by omega),q.y3.wr (by omega)⟩,⟨q.z1.wr (by omega),q.z2.wr (by omega),q.z3.wr (by omega)⟩⟩
set_option maxRecDepth 100000 in
theorem frames_bad2 (q:Qf o1 o2 o3 x1 x2 x3 y1 y2 y3 z1 z2 z3) (hx:Ax x1 x2 x3 y1 y2 y3 z1 z2 z3) (hc:ckF x1 x2 x3 y1 y2 y3 z1 z2 z3=0) (h:(wF o1 o2 o3 x1 x2 x3 y1 y2 y3 z1 z2 z3).Ss) (k:Ss3 a b c) (hz:c3 a b c=z) (h0:B14 z):FitsW Tryz.prog Gl 3 [(wF o1 o2 o3 x1 x2 x3 y1 y2 y3 z1 z2 z3).av,t3 a b c] (bl true):=by
 have q0:=sq0_of hx
 have wf:=q.wf
 have fv:=Fr.fv_of wf hx
 have hs:=yC (lo_no h)
 have ht:=vV (T:=24) (lo3_no k)
 have kC:=jY q
 rw [hc] at kC
 have cC:=oS fv
 have wS:kA (dt x1 x2 x3 x1 x2 x3) (dt y1 y2 y3 y1 y2 y3) (dt z1 z2 z3 z1 z2 z3):=⟨(dtq q.x q.x).wr (by omega),(dtq q.y q.y).wr (by omega),(dtq q.z q.z).wr (by omega)⟩
 have c4:=uV fv wS
 have rS:=oR q
 have pS:=vU wS
 have c1:=apiPlaceErrP fv k.sl.rb hz h0
 have c2:=apiLocalErrP fv k.sl.rb hz h0
 have c3':=apiShiftErrP fv k.sl.rb hz h0
 have kV:=fL k.sl hz
 have hb:Bf z:=by rcases h0 with e|e <;> simp [Bf,e]
 have pB:=pointBf hb
 have aB:=axesBad hb
 clear q hx hc h k hz q0 wf fv wS hb
 rcases h0 with rfl|rfl
 all_goals
  refine cA Tryz.func3 (by kernel_rfl) fun w00 hG=>?_;have hI:=aS hG
  refine jW hI 4 [] (qS) Tryz.call4 ?_
  refine jC 5 _ (hs) Tryz.call5 ?_
  refine jC 6 _ (ht) Tryz.call6 ?_
  refine jC 7 _ (kC) Tryz.call7 ?_
  refine jW hI 8 _ (cC) Tryz.call8 ?_
  refine jW hI 9 _ (c1) Tryz.call9 ?_
  refine jW hI 10 _ (c2) Tryz.call10 ?_
  refine jW hI 11 _ (c3') Tryz.call11 ?_
  refine jW hI 12 _ (c4) Tryz.call12 ?_
  refine jC 15 _ (rS) Tryz.call15 ?_
  refine jC 13 _ (pS) Tryz.call13 ?_
  refine jC 16 _ (kV) Tryz.call16 ?_
  refine jC 13 _ (pB) Tryz.call13 ?_
  refine jC 13 _ (pB) Tryz.call13 ?_
  refine jC 14 _ (aB) Tryz.call14 ?_
  exact jR Tryz.func3
set_option maxRecDepth 100000 in
theorem frames_ok (q:Qf o1 o2 o3 x1 x2 x3 y1 y2 y3 z1 z2 z3) (g:Q3 p1 p2 p3) (hx:Ax x1 x2 x3 y1 y2 y3 z1 z2 z3) (hc:ckF x1 x2 x3 y1 y2 y3 z1 z2 z3=0) (h:(wF o1 o2 o3 x1 x2 x3 y1 y2 y3 z1 z2 z3).Ss) (k:Ss3 (writeB p1) (writeB p2) (writeB p3)) (hz:c3 (writeB p1) (writeB p2) (writeB p3)=0):FitsW Tryz.prog Gl 3 [(wF o1 o2 o3 x1 x2 x3 y1 y2 y3 z1 z2 z3).av,vS p1 p2 p3] (bl true):=by
 have q0:=sq0_of hx
 have wf:=q.wf
 have fv:=Fr.fv_of wf hx
 have hs:=yC (lo_no h)
 have ht:=vV (T:=24) (lo3_no k)
 have kC:=jY q
 rw [hc] at kC
 have cC:=oS fv
 have wS:kA (dt x1 x2 x3 x1 x2 x3) (dt y1 y2 y3 y1 y2 y3) (dt z1 z2 z3 z1 z2 z3):=⟨(dtq q.x q.x).wr (by omega),(dtq q.y q.y).wr (by omega),(dtq q.z q.z).wr (by omega)⟩
 have c4:=uV fv wS
 have rS:=oR q
 have pS:=vU wS
 have wp:kA p1 p2 p3:=⟨g.a.wr (by omega),g.b.wr (by omega),g.c.wr (by omega)⟩
 have w1:kA (o1+ld p1 p2 p3 x1 y1 z1) (o2+ld p1 p2 p3 x2 y2 z2) (o3+ld p1 p2 p3 x3 y3 z3):=⟨(q.o1.add (ldq g ⟨q.x1,q.y1,q.z1⟩)).wr (by omega),(q.o2.add (ldq g ⟨q.x2,q.y2,q.z2⟩)).wr (by omega),(q.o3.add (ldq g ⟨q.x3,q.y3,q.z3⟩)).wr (by omega)⟩
 have d1:Bq 61 (p1-o1):=g.a.sub q.o1
 have d2:Bq 61 (p2-o2):=g.b.sub q.o2
 have d3:Bq 61 (p3-o3):=g.c.sub q.o3
 have q1:∀ {x y z:Rat},Q3 x y z→Bq 275 (dt (p1-o1) (p2-o2) (p3-o3) x y z):=fun g=>Bq.dt d1 d2 d3 g.a g.b g.c (by omega)
 have w2:kA (dt (p1-o1) (p2-o2) (p3-o3) x1 x2 x3/dt x1 x2 x3 x1 x2 x3) (dt (p1-o1) (p2-o2) (p3-o3) y1 y2 y3/dt y1 y2 y3 y1 y2 y3) (dt (p1-o1) (p2-o2) (p3-o3) z1 z2 z3/dt z1 z2 z3 z1 z2 z3) :=
  ⟨((q1 q.x).div (dtq q.x q.x)).wr (by omega),((q1 q.y).div (dtq q.y q.y)).wr (by omega),((q1 q.z).div (dtq q.z q.z)).wr (by omega)⟩
 have w3:Wf (o1+p1) (o2+p2) (o3+p3) x1 x2 x3 y1 y2 y3 z1 z2 z3:=⟨⟨(q.o1.add g.a).wr (by omega),(q.o2.add g.b).wr (by omega),(q.o3.add g.c).wr (by omega)⟩,wf.x,wf.y,wf.z⟩
 have c1:=zP fv wp rfl rfl rfl w1
 have c2:=apiLocalF fv wp q0 rfl rfl rfl w2
 have c3':=apiShiftF fv wp w3
 have kV:=fL k.sl hz
 have r1:=refPlaceF q g
 have r2:=refLocalF q g q0
 have r3:=refShiftF q g
 have n1:=vU w1
 have n2:=vU w2
 have n3:=axesOk w3
 clear q g hx hc h k hz q0 wf fv wS wp w1 w2 w3 d1 d2 d3 q1
 ·skip
  refine cA Tryz.func3 (by kernel_rfl) fun w00 hG=>?_;have hI:=aS hG
  refine jW hI 4 [] (qS) Tryz.call4 ?_
  refine jC 5 _ (hs) Tryz.call5 ?_
  refine jC 6 _ (ht) Tryz.call6 ?_
  refine jC 7 _ (kC) Tryz.call7 ?_
  refine jW hI 8 _ (cC) Tryz.call8 ?_
  refine jW hI 9 _ (c1) Tryz.call9 ?_
  refine jW hI 10 _ (c2) Tryz.call10 ?_
  refine jW hI 11 _ (c3') Tryz.call11 ?_
  refine jW hI 12 _ (c4) Tryz.call12 ?_
  refine jC 15 _ (rS) Tryz.call15 ?_
  refine jC 13 _ (pS) Tryz.call13 ?_
  refine jC 16 _ (kV) Tryz.call16 ?_
  refine jC 17 _ (r1) Tryz.call17 ?_
  refine jC 13 _ (n1) Tryz.call13 ?_
  refine jC 18 _ (r2) Tryz.call18 ?_
  refine jC 13 _ (n2) Tryz.call13 ?_
  refine jC 19 _ (r3) Tryz.call19 ?_
  refine jC 14 _ (n3) Tryz.call14 ?_
  exact jR Tryz.func3
end
theorem F12.ss_of {f:F12} (h:f.lo 30=false):f.Ss:=by
 simp only [F12.lo,Ab.lo,Bool.or_eq_false_iff,decide_eq_false_iff_not] at h
 obtain ⟨⟨⟨⟨⟨⟨⟨⟨⟨⟨⟨h1,h2⟩,h3⟩,h4⟩,h5⟩,h6⟩,h7⟩,h8⟩,h9⟩,h10⟩,h11⟩,h12⟩:=h
 have k:∀ {s:ByteArray},¬ (30:Int)<(s.size:Nat)→Ab.Ss s:=fun {s} h=>by show s.size≤30;omega
 exact ⟨⟨k h1,k h2,k h3⟩,⟨k h4,k h5,k h6⟩,⟨k h7,k h8,k h9⟩,⟨k h10,k h11,k h12⟩⟩
theorem ckF_values (x1 x2 x3 y1 y2 y3 z1 z2 z3:Rat):ckF x1 x2 x3 y1 y2 y3 z1 z2 z3=0∨ckF x1 x2 x3 y1 y2 y3 z1 z2 z3=6∨ckF x1 x2 x3 y1 y2 y3 z1 z2 z3=15:=by
 unfold ckF
 split
 ·exact .inr (.inl rfl)
 split
 ·exact .inl rfl
 ·exact .inr (.inr rfl)
theorem val_of {q:Rat} (hw:Wr q):cR (writeB q)=q:=(write_inj hw (valB_ok (uU hw.n hw.d)).1 (kW _)).symm
theorem framesF (f:F12) (a b c:ByteArray):FitsW Tryz.prog Gl 3 [f.av,t3 a b c] (bl true):=by
 cases hl:f.lo 30 with
 | true=>exact frames_long1 hl
 | false =>
   have h:=F12.ss_of hl
   cases hc:(lo 30 a || lo 30 b || lo 30 c) with
   | true=>exact frames_long2 hl hc
   | false =>
     simp only [Bool.or_eq_false_iff,lo,decide_eq_false_iff_not] at hc
     obtain ⟨⟨l1,l2⟩,l3⟩:=hc
     have k:Ss3 a b c:=⟨by show a.size≤30;omega,by show b.size≤30;omega,by show c.size≤30;omega⟩
     by_cases ht:f.ct=0
     ·obtain ⟨ht3,hz4⟩:=sO ht
      obtain ⟨ht2,hz3⟩:=sO ht3
      obtain ⟨hz1,hz2⟩:=sO ht2
      obtain ⟨g1,g2,g3,g4,g5,g6,g7,g8,g9,g10,g11,g12⟩:=f
      obtain ⟨o1,o2,o3,rfl,rfl,rfl,a1,a2,a3⟩:=slwN3 (n:=30) h.o.1 h.o.2.1 h.o.2.2 (by omega) hz1
      obtain ⟨x1,x2,x3,rfl,rfl,rfl,b1,b2,b3⟩:=slwN3 (n:=30) h.x.1 h.x.2.1 h.x.2.2 (by omega) hz2
      obtain ⟨y1,y2,y3,rfl,rfl,rfl,c1,c2,c3'⟩:=slwN3 (n:=30) h.y.1 h.y.2.1 h.y.2.2 (by omega) hz3
      obtain ⟨z1,z2,z3,rfl,rfl,rfl,d1,d2,d3⟩:=slwN3 (n:=30) h.z.1 h.z.2.1 h.z.2.2 (by omega) hz4
      have q:Qf o1 o2 o3 x1 x2 x3 y1 y2 y3 z1 z2 z3:=⟨a1,a2,a3,b1,b2,b3,c1,c2,c3',d1,d2,d3⟩
      have v:∀ {p:Rat},Bq 30 p→cR (writeB p)=p:=fun hp=>val_of (hp.wr (by omega))
      have hck:(wF o1 o2 o3 x1 x2 x3 y1 y2 y3 z1 z2 z3).ck=ckF x1 x2 x3 y1 y2 y3 z1 z2 z3:=by
       unfold F12.ck
       rw [if_pos ht]
       show ckF (cR (writeB x1)) (cR (writeB x2)) (cR (writeB x3)) (cR (writeB y1)) (cR (writeB y2)) (cR (writeB y3)) (cR (writeB z1)) (cR (writeB z2)) (cR (writeB z3))=_
       rw [v b1,v b2,v b3,v c1,v c2,v c3',v d1,v d2,v d3]
      by_cases e0:ckF x1 x2 x3 y1 y2 y3 z1 z2 z3=0
      ·have hx:=ax_of e0
       by_cases hp:c3 a b c=0
       ·obtain ⟨p1,p2,p3,rfl,rfl,rfl,e1,e2,e3⟩:=slwN3 (n:=30) k.1 k.2.1 k.2.2 (by omega) hp
        exact frames_ok q ⟨e1,e2,e3⟩ hx e0 h k hp
       ·exact frames_bad2 q hx e0 h k rfl (ev_b (kN _ _ _) hp)
      ·have hb:Bf (ckF x1 x2 x3 y1 y2 y3 z1 z2 z3):=by
        rcases ckF_values x1 x2 x3 y1 y2 y3 z1 z2 z3 with e|e|e
        ·exact absurd e e0
        ·exact .inr (.inr (.inl e))
        ·exact .inr (.inr (.inr e))
       exact uX h k hck hb (jY q)
     ·have hev:Ev f.ct:=aAd (aAd (aAd (kN _ _ _) (kN _ _ _)) (kN _ _ _)) (kN _ _ _)
      have hck:f.ck=f.ct:=if_neg ht
      have hb:Bf f.ct:=by
       rcases hev with e|e|e
       ·exact absurd e ht
       ·exact .inl e
       ·exact .inr (.inl e)
      have kC:=checkFrameE (fL h.o.sl rfl) (fL h.x.sl rfl) (fL h.y.sl rfl) (fL h.z.sl rfl) (kN _ _ _) (kN _ _ _) (kN _ _ _) (kN _ _ _) (z:=f.ct) rfl ht
      exact uX h k hck hb kC
end Go.Proofs.YtejbgingjeedaaaGreatDoor.Ab
namespace Go.Proofs.YtejbgingjeedaaaGreatDoor.Ab
open Go.ChangeShapes Go.WideShapes Go.ChangeAt Go.RowKit Go.Proofs.YtejbgingjeedaaaGreatDoor
theorem gPow:Tryz.prog.globalNamed "internal/strconv.uint64pow10" = some 7:=by kernel_rfl
theorem gl_of {W:World} {r:List (String×DataW Unit)} (h:laidMet Tryz.prog (("internal/strconv.uint64pow10",Lib.tabData .u64 Lib.pow10Tab)::r) W) (hs:W.ShapedOpen Tryz.prog):Gl W :=
 ⟨Lib.tabIs_of_head (t:=299) (e:=154) (n:=20) gPow (by kernel_rfl) (by kernel_rfl) (by kernel_rfl) (by kernel_rfl) (by kernel_rfl) h,
  Go.Proofs.cell_of_shapedOpen_int (zero := #[.int .i64 0]) (t:=3) hs (of_decide_eq_true (by kernel_rfl)) (by kernel_rfl) rfl (by kernel_rfl) (by kernel_rfl) (by kernel_rfl)⟩
theorem hold_t3 {β:List Nat} {a b c:ByteArray} {w:World}:(t3 a b c).holds β (.agg #[.string a,.string b,.string c]) w :=
 ⟨[.string a,.string b,.string c],rfl,[.string a],_,rfl,rfl,[.string b],_,rfl,rfl,[.string c],_,rfl,rfl,rfl⟩
end Go.Proofs.YtejbgingjeedaaaGreatDoor.Ab
namespace Go.Proofs.YtejbgingjeedaaaGreatDoor.Ab
open Go.ChangeShapes Go.WideShapes Go.RowKit
def nG (P:Program):Nat→TypeId→Nat→Option Bool
 | 0,_,_=>none
 | d+1,T,i=>match P.underlying T with
   | some (.int .i64)=>if i=0 then some false else none
   | some .string=>if i=0 then some true else none
   | some (.array n e)=>if 0<P.cellsOf e∧i/P.cellsOf e<n then nG P d e (i%P.cellsOf e) else none
   | some (.struct fs)=>(fs.toList.find? fun f=>decide (f.offset≤i∧i<f.offset+P.cellsOf f.type)).bind fun f=>nG P d f.type (i-f.offset)
   | _=>none
def isKind:Bool→Value→Prop
 | true,c => ∃ s:ByteArray,c = .string s∧s.size≤maxLen
 | false,c => ∃ n:Int,c = .int .i64 n∧(Lit.int .i64 n).wf=true
section
variable {H:Type} {enc:TypeId×Value→H} {P:Program} {w:World} {base:Nat} {spare:Nat→Bool} {held:Bool}
theorem piece {cs:List Value} {o n r:Nat} {c:Value} (h:((cs.drop o).take n)[r]?=some c):cs[o+r]?=some c:=by
 rw [List.getElem?_take] at h
 split at h
 ·rw [List.getElem?_drop] at h;exact h
 ·cases h
theorem trod_kind:∀ (d:Nat) {T:TypeId} {fuel i:Nat} {cs:List Value} {x:DataW H×List MemPlace} {k:Bool},DataW.trod enc P w base spare held fuel T cs=some x→nG P d T i=some k→∃ c,cs[i]?=some c∧isKind k c:=by
 intro d
 induction d with
 | zero=>intro T fuel i cs x k _ hk;cases hk
 | succ d ih =>
   intro T fuel i cs x k h hk
   unfold nG at hk
   split at hk
   ·rename_i hu
    split at hk <;> cases hk
    rename_i h0
    subst h0
    cases fuel with
    | zero=>cases h
    | succ m =>
      unfold DataW.trod at h
      rw [hu] at h
      split at h <;> simp_all
      obtain ⟨⟨_,hw⟩,_⟩:=h
      cases ‹IntKind.i64=_›
      exact ⟨_,rfl,hw⟩
   ·rename_i hu
    split at hk <;> cases hk
    rename_i h0
    subst h0
    cases fuel with
    | zero=>cases h
    | succ m =>
      unfold DataW.trod at h
      rw [hu] at h
      split at h <;> simp_all
      exact ⟨_,rfl,h.1⟩
   ·rename_i n e hu
    split at hk
    ·rename_i hi
     obtain ⟨xs,m,_,_,_,hlen,hat⟩:=DataW.trod_array hu h
     have hq:=hat (i/P.cellsOf e) hi.2
     rw [List.getElem?_eq_getElem (by omega)] at hq
     obtain ⟨c,hc,hk'⟩:=ih hq hk
     refine ⟨c,?_,hk'⟩
     have:=piece hc
     rw [Nat.mul_comm,Nat.div_add_mod] at this
     exact this
    ·cases hk
   ·rename_i fs hu
    rw [Option.bind_eq_some_iff] at hk
    obtain ⟨f,hf,hk⟩:=hk
    have hp:=List.find?_some hf
    simp only [decide_eq_true_eq] at hp
    obtain ⟨j,hj,hje⟩:=List.getElem_of_mem (List.mem_of_find?_eq_some hf)
    obtain ⟨xs,n,_,_,_,hlen,hat⟩:=DataW.trod_struct hu h
    have hq:=hat j f (by rw [← hje];simp)
    rw [List.getElem?_eq_getElem (by simp at hj;omega)] at hq
    obtain ⟨c,hc,hk'⟩:=ih hq hk
    refine ⟨c,?_,hk'⟩
    have:=piece hc
    rw [show f.offset+(i-f.offset)=i by omega] at this
    exact this
   ·cases hk
def qU (P:Program):Nat→TypeId→Bool
 | 0,_=>false
 | d+1,T=>match P.underlying T with
   | some (.int _)|some .string=>true
   | some (.array _ e)=>qU P d e
   | some (.struct fs)=>fs.toList.all fun f=>qU P d f.type
   | _=>false
theorem uB {α β:Type} {f g:α→Option (β×List MemPlace)}:∀ {l:List α} {xs:List (β×List MemPlace)},l.mapM f=some xs→(∀ a∈l,∀ x,f a=some x→g a=some x∧x.2 = [])→l.mapM g=some xs∧xs.flatMap (·.2) = []
 | [],xs,h,_=>by simp at h;subst h;exact ⟨rfl,rfl⟩
 | a::l,xs,h,hs=>by
   rw [List.mapM_cons] at h
   simp only [bind,Option.bind_eq_some_iff,pure,Option.some.injEq] at h
   obtain ⟨y,hy,ys,hys,rfl⟩:=h
   obtain ⟨g1,g2⟩:=hs a (by simp) y hy
   obtain ⟨i1,i2⟩:=uB hys fun b hb=>hs b (by simp [hb])
   exact ⟨by rw [List.mapM_cons,g1,i1];rfl,by simp [g2,i2]⟩
def SameRead (enc:TypeId×Value→H) (P:Program) (w:World) (base:Nat) (spare:Nat→Bool) (held:Bool) (w' : World) (base' : Nat) (spare' : Nat→Bool) (d:Nat):Prop :=
 ∀ (T:TypeId) (fuel:Nat) (cs:List Value) (x:DataW H×List MemPlace),qU P d T=true→DataW.trod enc P w base spare held fuel T cs=some x→DataW.trod enc P w' base' spare' held fuel T cs=some x∧x.2 = []
theorem trod_plain {w' : World} {base' : Nat} {spare' : Nat→Bool}:∀ d:Nat,SameRead enc P w base spare held w' base' spare' d:=by
 intro d
 induction d with
 | zero=>intro T fuel cs x hp;cases hp
 | succ d ih =>
   intro T fuel cs x hp h
   cases fuel with
   | zero=>cases h
   | succ m =>
     unfold qU at hp
     unfold DataW.trod at h ⊢
     split at hp
     ·rename_i hu
      rw [hu] at h ⊢
      split at h <;> simp_all <;> (obtain ⟨_,h⟩:=h;rw [← h])
     ·rename_i hu
      rw [hu] at h ⊢
      split at h <;> simp_all <;> (obtain ⟨_,h⟩:=h;rw [← h])
     ·rename_i hu
      rw [hu] at h ⊢
      split at h <;> simp_all
      obtain ⟨hl,xs,hxs,rfl⟩:=h
      obtain ⟨g1,g2⟩:=uB hxs fun a _ x hx=>ih _ _ _ _ hp hx
      exact ⟨⟨xs,g1,rfl⟩,g2⟩
     ·rename_i hu
      rw [hu] at h ⊢
      split at h <;> simp_all
      obtain ⟨hl,xs,hxs,rfl⟩:=h
      obtain ⟨g1,g2⟩:=uB hxs fun a ha x hx=>ih _ _ _ _ (by obtain ⟨j,hj,rfl⟩:=List.getElem_of_mem ha;simpa using hp j (by simpa using hj)) hx
      exact ⟨⟨xs,g1,rfl⟩,g2⟩
     ·cases hp
theorem yE {w' : World} {base' : Nat} {spare' : Nat→Bool} {T:TypeId} {v:Value} {D:DataW H} {p:List MemPlace} (hp:qU P 10 T=true) (h:DataW.Trod enc P w base spare held T v D p):p = []∧DataW.Trod enc P w' base' spare' held T v D []:=by
 obtain ⟨fuel,hf⟩:=h
 obtain ⟨h1,h2⟩:=trod_plain (w':=w') (base':=base') (spare':=spare') 10 _ _ _ _ hp hf
 simp only at h2
 subst h2
 exact ⟨rfl,fuel,h1⟩
theorem agg_of {r:Reach} {b0 n:Nat} {T:TypeId} {v:Value} (hu:(match P.underlying T with|some (.struct _)|some (.array _ _)=>true|_=>false)=true) (hC:P.cellsOf T=n) (hv:Value.okWide P w r b0 T v):∃ cs:Array Value,v = .agg cs∧cs.size=n:=by
 split at hu
 ·rename_i hs
  simp only [Value.okWide,hs] at hv
  obtain ⟨cs,h1,h2,_⟩:=hv
  exact ⟨cs,h1,h2.trans hC⟩
 ·rename_i hs
  simp only [Value.okWide,hs] at hv
  obtain ⟨cs,h1,h2,_⟩:=hv
  exact ⟨cs,h1,h2.trans hC⟩
 ·cases hu
theorem vW {T:TypeId} {cs:Array Value} {D:DataW H} {p:List MemPlace} {k:Bool} (i:Nat) (h:DataW.Trod enc P w base spare held T (.agg cs) D p) (hk:nG P 10 T i=some k):∃ c,cs[i]?=some c∧isKind k c:=by
 obtain ⟨fuel,hf⟩:=h
 obtain ⟨c,h1,h2⟩:=trod_kind 10 hf hk
 exact ⟨c,by simpa [Value.cells] using h1,h2⟩
theorem open_vec {r:Reach} {b0:Nat} {T:TypeId} {v:Value} {D:DataW H} {p:List MemPlace} (hu:(match P.underlying T with|some (.struct _)|some (.array _ _)=>true|_=>false)=true) (hC:P.cellsOf T=3)
 (hk:(nG P 10 T 0,nG P 10 T 1,nG P 10 T 2)=(some true,some true,some true)) (hv:Value.okWide P w r b0 T v) (h:DataW.Trod enc P w base spare held T v D p):∃ a b c:ByteArray,v = .agg #[.string a,.string b,.string c]∧a.size≤maxLen∧b.size≤maxLen∧c.size≤maxLen:=by
 simp only [Prod.mk.injEq] at hk
 obtain ⟨cs,rfl,hs⟩:=agg_of hu hC hv
 obtain ⟨c0,c1,c2,rfl⟩:∃ c0 c1 c2,cs = #[c0,c1,c2]:=by
  obtain ⟨l⟩:=cs
  match l,hs with
  | [c0,c1,c2],_=>exact ⟨c0,c1,c2,rfl⟩
 obtain ⟨_,e0,a,rfl,ha⟩:=vW 0 h hk.1
 obtain ⟨_,e1,b,rfl,hb⟩:=vW 1 h hk.2.1
 obtain ⟨_,e2,c,rfl,hc⟩:=vW 2 h hk.2.2
 simp at e0 e1 e2
 subst e0 e1 e2
 exact ⟨a,b,c,rfl,ha,hb,hc⟩
theorem open_txts {r:Reach} {b0 n:Nat} {T:TypeId} {v:Value} {D:DataW H} {p:List MemPlace} (hu:(match P.underlying T with|some (.struct _)|some (.array _ _)=>true|_=>false)=true) (hC:P.cellsOf T=n)
 (hk:((List.range n).all fun i=>nG P 10 T i==some true)=true) (hv:Value.okWide P w r b0 T v) (h:DataW.Trod enc P w base spare held T v D p):∃ l:List ByteArray,l.length=n∧v = .agg (l.map Value.string).toArray:=by
 obtain ⟨cs,rfl,hs⟩:=agg_of hu hC hv
 refine ⟨cs.toList.map fun v=>match v with | .string s=>s|_=>default,by simp [hs],?_⟩
 congr 1
 apply Array.toList_inj.1
 rw [List.map_map]
 apply List.ext_getElem
 ·simp
 ·intro i h1 h2
  have hi:i<n:=by simpa [hs] using h1
  have hk':=List.all_eq_true.1 hk i (List.mem_range.2 hi)
  obtain ⟨c,e,s,rfl,_⟩:=vW i h (eq_of_beq hk')
  have e2:cs.toList[i] = .string s:=by
   have:=Array.getElem?_eq_some_iff.1 e
   simpa using this.2
  simp [e2]
end
end Go.Proofs.YtejbgingjeedaaaGreatDoor.Ab
