/- Parts of the proof, joined. -/
import Derived.Test.YtbhcckhbbclemaaGreatDoorJ36
import Derived.Test.YtbhcckhbbclemaaGreatDoorJ37
import Derived.Test.YtbhcckhbbclemaaGreatDoorJ35
import Derived.KernelRfl
set_option linter.unusedSimpArgs false
set_option linter.unusedVariables false
namespace Go.Proofs.YtbhcckhbbclemaaGreatDoor.Ab
open Go.RowKit Go.Proofs.YtbhcckhbbclemaaGreatDoor Pl
inductive AvL:List (AV Kn)→List (AV Kn)→Prop where
 | nil:AvL [] []
 | ag {k m l l'}:LitL k m→AvL l l'→AvL (.fv (.ag k)::l) (.fv (.ag m)::l')
 | txt {b:ByteArray} {l l'}:AvL l l'→AvL (.fv (.sc (isS b))::l) (.fv (.sc (.lit (.string b)))::l')
 | same {x:AV Kn} {l l'}:AvL l l'→AvL (x::l) (x::l')
theorem AvL.to {β:List Nat} {w:World} {l m:List (AV Kn)} (h:AvL l m):∀ {vs:List Value},holdsA β m vs w→holdsA β l vs w:=by
 induction h with
 | nil=>intro vs h;exact h
 | ag hl _ ih=>rintro vs ⟨v,r,e,h1,h2⟩;exact ⟨v,r,e,(ag_lit hl).2 h1,ih h2⟩
 | txt _ ih=>rintro vs ⟨v,r,e,h1,h2⟩;exact ⟨v,r,e,sc_lit.2 h1,ih h2⟩
 | same _ ih=>rintro vs ⟨v,r,e,h1,h2⟩;exact ⟨v,r,e,h1,ih h2⟩
inductive FvL:List (FV Kn)→List (FV Kn)→Prop where
 | nil:FvL [] []
 | ag {k m l l'}:LitL k m→FvL l l'→FvL (.ag k::l) (.ag m::l')
 | txt {b:ByteArray} {l l'}:FvL l l'→FvL (.sc (isS b)::l) (.sc (.lit (.string b))::l')
 | same {x:FV Kn} {l l'}:FvL l l'→FvL (x::l) (x::l')
theorem FvL.to {β:List Nat} {w:World} {l m:List (FV Kn)} (h:FvL l m):∀ {vs:List Value},holdsF β l vs w→holdsF β m vs w:=by
 induction h with
 | nil=>intro vs h;exact h
 | ag hl _ ih=>rintro vs ⟨v,r,e,h1,h2⟩;exact ⟨v,r,e,(ag_lit hl).1 h1,ih h2⟩
 | txt _ ih=>rintro vs ⟨v,r,e,h1,h2⟩;exact ⟨v,r,e,(sc_lit (β:=β)).1 h1,ih h2⟩
 | same _ ih=>rintro vs ⟨v,r,e,h1,h2⟩;exact ⟨v,r,e,h1,ih h2⟩
theorem FitsW.lits {P:Program} {I:World→Prop} {f:FuncId} {l l' : List (AV Kn)} {r r' : List (FV Kn)} (h:FitsW P I f l (.tup r)) (ha:AvL l l') (hr:FvL r r'):FitsW P I f l' (.tup r') :=
 (h.args fun _ _ _ hv=>ha.to hv).res fun _ _ _ ⟨vs,e,hv⟩=>⟨vs,e,hr.to hv⟩
theorem Fits.lits {P:Program} {f:FuncId} {l l' : List (AV Kn)} {k m:List (Seg Kn)} (h:Fits P f l (.fv (.ag k))) (ha:AvL l l') (hr:LitL k m):Fits P f l' (.fv (.ag m)):=fun β w vs hv =>
 (h β w vs (ha.to hv)).mono fun e w' ⟨v,e1,e2,e3⟩=>⟨v,e1,e2,(ag_lit hr).1 e3⟩
theorem vc_eq {P:Program} {f:FuncId} {l:List (AV Kn)} {a b c a' b' c' : Rat} (h:Fits P f l (vc a b c)) (e1:a=a') (e2:b=b') (e3:c=c'):Fits P f l (vc a' b' c'):=by
 subst e1
 subst e2
 subst e3
 exact h
theorem wr_q {q:Rat} (hn:q.num.natAbs<1000000000) (hd:q.den<1000000000):Wr q :=
 ⟨Nat.le_trans (decB_size (k:=8) hn) (by decide),Nat.le_trans (decB_size (k:=8) hd) (by decide)⟩
theorem wr_i {z:Int} (h:z.natAbs<1000000000):Wr (z:Rat):=wr_q h (show 1<1000000000 by omega)
theorem write_two' {q:Rat} {n:Int} {d:Nat} {a b:ByteArray} (hn:q.num=n) (hd:q.den=d) (h1:d≠1) (ha:textB n=a) (hb:decB d=b):writeB q=a++(⟨#[47]⟩++b):=by
 rw [write_parts (by rw [hd];exact h1),hn,hd,ha,hb]
theorem x0:writeB ((0:Int):Rat)=⟨#[48]⟩:=write_int (by omega) (decB_small (n:=0) (by omega))
theorem x1:writeB ((1:Int):Rat)=⟨#[49]⟩:=write_int (by omega) (decB_small (n:=1) (by omega))
theorem x2:writeB ((2:Int):Rat)=⟨#[50]⟩:=write_int (by omega) (decB_small (n:=2) (by omega))
theorem x3:writeB ((3:Int):Rat)=⟨#[51]⟩:=write_int (by omega) (decB_small (n:=3) (by omega))
theorem x4:writeB ((4:Int):Rat)=⟨#[52]⟩:=write_int (by omega) (decB_small (n:=4) (by omega))
theorem x5:writeB ((5:Int):Rat)=⟨#[53]⟩:=write_int (by omega) (decB_small (n:=5) (by omega))
theorem x7:writeB ((7:Int):Rat)=⟨#[55]⟩:=write_int (by omega) (decB_small (n:=7) (by omega))
theorem x10:writeB ((10:Int):Rat)=⟨#[49,48]⟩:=write_int (by omega) (decB_two (n:=10) (by omega) (by omega))
theorem x24:writeB ((24:Int):Rat)=⟨#[50,52]⟩:=write_int (by omega) (decB_two (n:=24) (by omega) (by omega))
theorem x25:writeB ((25:Int):Rat)=⟨#[50,53]⟩:=write_int (by omega) (decB_two (n:=25) (by omega) (by omega))
theorem x28:writeB ((28:Int):Rat)=⟨#[50,56]⟩:=write_int (by omega) (decB_two (n:=28) (by omega) (by omega))
theorem x30:writeB ((30:Int):Rat)=⟨#[51,48]⟩:=write_int (by omega) (decB_two (n:=30) (by omega) (by omega))
theorem xm1:writeB ((-1:Int):Rat)=⟨#[45,49]⟩:=(write_neg_int (z := -1) (by omega) (b:=⟨#[49]⟩) (by rw [show Int.natAbs (-1)=1 from rfl];exact decB_small (n:=1) (by omega))).trans (ba_ext rfl)
theorem xm2:writeB ((-2:Int):Rat)=⟨#[45,50]⟩:=(write_neg_int (z := -2) (by omega) (b:=⟨#[50]⟩) (by rw [show Int.natAbs (-2)=2 from rfl];exact decB_small (n:=2) (by omega))).trans (ba_ext rfl)
theorem xm4:writeB ((-4:Int):Rat)=⟨#[45,52]⟩:=(write_neg_int (z := -4) (by omega) (b:=⟨#[52]⟩) (by rw [show Int.natAbs (-4)=4 from rfl];exact decB_small (n:=4) (by omega))).trans (ba_ext rfl)
theorem xm7:writeB ((-7:Int):Rat)=⟨#[45,55]⟩:=(write_neg_int (z := -7) (by omega) (b:=⟨#[55]⟩) (by rw [show Int.natAbs (-7)=7 from rfl];exact decB_small (n:=7) (by omega))).trans (ba_ext rfl)
theorem xm24:writeB ((-24:Int):Rat)=⟨#[45,50,52]⟩:=(write_neg_int (z := -24) (by omega) (b:=⟨#[50,52]⟩) (by rw [show Int.natAbs (-24)=24 from rfl];exact decB_two (n:=24) (by omega) (by omega))).trans (ba_ext rfl)
theorem r0:Wr ((0:Int):Rat):=wr_i (by decide)
theorem r1:Wr ((1:Int):Rat):=wr_i (by decide)
theorem r2:Wr ((2:Int):Rat):=wr_i (by decide)
theorem r3:Wr ((3:Int):Rat):=wr_i (by decide)
theorem r4:Wr ((4:Int):Rat):=wr_i (by decide)
theorem r5:Wr ((5:Int):Rat):=wr_i (by decide)
theorem r7:Wr ((7:Int):Rat):=wr_i (by decide)
theorem r10:Wr ((10:Int):Rat):=wr_i (by decide)
theorem r24:Wr ((24:Int):Rat):=wr_i (by decide)
theorem r25:Wr ((25:Int):Rat):=wr_i (by decide)
theorem r28:Wr ((28:Int):Rat):=wr_i (by decide)
theorem r30:Wr ((30:Int):Rat):=wr_i (by decide)
theorem rm1:Wr ((-1:Int):Rat):=wr_i (by decide)
theorem rm2:Wr ((-2:Int):Rat):=wr_i (by decide)
theorem rm4:Wr ((-4:Int):Rat):=wr_i (by decide)
theorem rm7:Wr ((-7:Int):Rat):=wr_i (by decide)
theorem rm24:Wr ((-24:Int):Rat):=wr_i (by decide)
theorem nh12:(mkRat (1) 2).num=1:=by kernel_rfl
theorem dh12:(mkRat (1) 2).den=2:=by kernel_rfl
theorem xh12:writeB (mkRat (1) 2)=⟨#[49,47,50]⟩:=(write_two' nh12 dh12 (by decide) (a:=⟨#[49]⟩) ((textB_write (1)).trans x1) (decB_small (n:=2) (by omega))).trans (ba_ext rfl)
theorem rh12:Wr (mkRat (1) 2):=wr_q (by rw [nh12];decide) (by rw [dh12];decide)
theorem nm13:(mkRat (-1) 3).num = -1:=by kernel_rfl
theorem dm13:(mkRat (-1) 3).den=3:=by kernel_rfl
theorem xm13:writeB (mkRat (-1) 3)=⟨#[45,49,47,51]⟩:=(write_two' nm13 dm13 (by decide) (a:=⟨#[45,49]⟩) ((textB_write (-1)).trans xm1) (decB_small (n:=3) (by omega))).trans (ba_ext rfl)
theorem rm13:Wr (mkRat (-1) 3):=wr_q (by rw [nm13];decide) (by rw [dm13];decide)
theorem nq252:(mkRat (25) 2).num=25:=by kernel_rfl
theorem dq252:(mkRat (25) 2).den=2:=by kernel_rfl
theorem xq252:writeB (mkRat (25) 2)=⟨#[50,53,47,50]⟩:=(write_two' nq252 dq252 (by decide) (a:=⟨#[50,53]⟩) ((textB_write (25)).trans x25) (decB_small (n:=2) (by omega))).trans (ba_ext rfl)
theorem rq252:Wr (mkRat (25) 2):=wr_q (by rw [nq252];decide) (by rw [dq252];decide)
theorem nm12:(mkRat (-1) 2).num = -1:=by kernel_rfl
theorem dm12:(mkRat (-1) 2).den=2:=by kernel_rfl
theorem xm12:writeB (mkRat (-1) 2)=⟨#[45,49,47,50]⟩:=(write_two' nm12 dm12 (by decide) (a:=⟨#[45,49]⟩) ((textB_write (-1)).trans xm1) (decB_small (n:=2) (by omega))).trans (ba_ext rfl)
theorem rm12:Wr (mkRat (-1) 2):=wr_q (by rw [nm12];decide) (by rw [dm12];decide)
theorem nq23:(mkRat (2) 3).num=2:=by kernel_rfl
theorem dq23:(mkRat (2) 3).den=3:=by kernel_rfl
theorem xq23:writeB (mkRat (2) 3)=⟨#[50,47,51]⟩:=(write_two' nq23 dq23 (by decide) (a:=⟨#[50]⟩) ((textB_write (2)).trans x2) (decB_small (n:=3) (by omega))).trans (ba_ext rfl)
theorem rq23:Wr (mkRat (2) 3):=wr_q (by rw [nq23];decide) (by rw [dq23];decide)
theorem lv_2_0_4:Fits Tryz.prog 10 [it (2),it (0),it (4)] (.fv (.ag [.lit (.string ⟨#[50]⟩),.lit (.string ⟨#[48]⟩),.lit (.string ⟨#[52]⟩)]):AV Kn):=by
 have h:=lawVecF (a:=2) (b:=0) (c:=4) (by constructor <;> omega) (by constructor <;> omega) (by constructor <;> omega)
 simp only [vS,okS,okVS,okH,hS,frS,okFS,x0,x2,x4] at h
 exact h.lits (.same (.same (.same .nil))) (.txt (.txt (.txt .nil)))
theorem lv_m1_0_m2:Fits Tryz.prog 10 [it (-1),it (0),it (-2)] (.fv (.ag [.lit (.string ⟨#[45,49]⟩),.lit (.string ⟨#[48]⟩),.lit (.string ⟨#[45,50]⟩)]):AV Kn):=by
 have h:=lawVecF (a := -1) (b:=0) (c := -2) (by constructor <;> omega) (by constructor <;> omega) (by constructor <;> omega)
 simp only [vS,okS,okVS,okH,hS,frS,okFS,x0,xm1,xm2] at h
 exact h.lits (.same (.same (.same .nil))) (.txt (.txt (.txt .nil)))
theorem lv_1_0_0:Fits Tryz.prog 10 [it (1),it (0),it (0)] (.fv (.ag [.lit (.string ⟨#[49]⟩),.lit (.string ⟨#[48]⟩),.lit (.string ⟨#[48]⟩)]):AV Kn):=by
 have h:=lawVecF (a:=1) (b:=0) (c:=0) (by constructor <;> omega) (by constructor <;> omega) (by constructor <;> omega)
 simp only [vS,okS,okVS,okH,hS,frS,okFS,x0,x1] at h
 exact h.lits (.same (.same (.same .nil))) (.txt (.txt (.txt .nil)))
theorem lv_0_1_0:Fits Tryz.prog 10 [it (0),it (1),it (0)] (.fv (.ag [.lit (.string ⟨#[48]⟩),.lit (.string ⟨#[49]⟩),.lit (.string ⟨#[48]⟩)]):AV Kn):=by
 have h:=lawVecF (a:=0) (b:=1) (c:=0) (by constructor <;> omega) (by constructor <;> omega) (by constructor <;> omega)
 simp only [vS,okS,okVS,okH,hS,frS,okFS,x0,x1] at h
 exact h.lits (.same (.same (.same .nil))) (.txt (.txt (.txt .nil)))
theorem lv_0_0_1:Fits Tryz.prog 10 [it (0),it (0),it (1)] (.fv (.ag [.lit (.string ⟨#[48]⟩),.lit (.string ⟨#[48]⟩),.lit (.string ⟨#[49]⟩)]):AV Kn):=by
 have h:=lawVecF (a:=0) (b:=0) (c:=1) (by constructor <;> omega) (by constructor <;> omega) (by constructor <;> omega)
 simp only [vS,okS,okVS,okH,hS,frS,okFS,x0,x1] at h
 exact h.lits (.same (.same (.same .nil))) (.txt (.txt (.txt .nil)))
theorem lv_0_0_0:Fits Tryz.prog 10 [it (0),it (0),it (0)] (.fv (.ag [.lit (.string ⟨#[48]⟩),.lit (.string ⟨#[48]⟩),.lit (.string ⟨#[48]⟩)]):AV Kn):=by
 have h:=lawVecF (a:=0) (b:=0) (c:=0) (by constructor <;> omega) (by constructor <;> omega) (by constructor <;> omega)
 simp only [vS,okS,okVS,okH,hS,frS,okFS,x0] at h
 exact h.lits (.same (.same (.same .nil))) (.txt (.txt (.txt .nil)))
theorem lv_1_1_1:Fits Tryz.prog 10 [it (1),it (1),it (1)] (.fv (.ag [.lit (.string ⟨#[49]⟩),.lit (.string ⟨#[49]⟩),.lit (.string ⟨#[49]⟩)]):AV Kn):=by
 have h:=lawVecF (a:=1) (b:=1) (c:=1) (by constructor <;> omega) (by constructor <;> omega) (by constructor <;> omega)
 simp only [vS,okS,okVS,okH,hS,frS,okFS,x1] at h
 exact h.lits (.same (.same (.same .nil))) (.txt (.txt (.txt .nil)))
theorem lv_1_1_0:Fits Tryz.prog 10 [it (1),it (1),it (0)] (.fv (.ag [.lit (.string ⟨#[49]⟩),.lit (.string ⟨#[49]⟩),.lit (.string ⟨#[48]⟩)]):AV Kn):=by
 have h:=lawVecF (a:=1) (b:=1) (c:=0) (by constructor <;> omega) (by constructor <;> omega) (by constructor <;> omega)
 simp only [vS,okS,okVS,okH,hS,frS,okFS,x0,x1] at h
 exact h.lits (.same (.same (.same .nil))) (.txt (.txt (.txt .nil)))
theorem lv_0_7_5:Fits Tryz.prog 10 [it (0),it (7),it (5)] (.fv (.ag [.lit (.string ⟨#[48]⟩),.lit (.string ⟨#[55]⟩),.lit (.string ⟨#[53]⟩)]):AV Kn):=by
 have h:=lawVecF (a:=0) (b:=7) (c:=5) (by constructor <;> omega) (by constructor <;> omega) (by constructor <;> omega)
 simp only [vS,okS,okVS,okH,hS,frS,okFS,x0,x5,x7] at h
 exact h.lits (.same (.same (.same .nil))) (.txt (.txt (.txt .nil)))
theorem lv_m1_0_0:Fits Tryz.prog 10 [it (-1),it (0),it (0)] (.fv (.ag [.lit (.string ⟨#[45,49]⟩),.lit (.string ⟨#[48]⟩),.lit (.string ⟨#[48]⟩)]):AV Kn):=by
 have h:=lawVecF (a := -1) (b:=0) (c:=0) (by constructor <;> omega) (by constructor <;> omega) (by constructor <;> omega)
 simp only [vS,okS,okVS,okH,hS,frS,okFS,x0,xm1] at h
 exact h.lits (.same (.same (.same .nil))) (.txt (.txt (.txt .nil)))
theorem lv_4_4_0:Fits Tryz.prog 10 [it (4),it (4),it (0)] (.fv (.ag [.lit (.string ⟨#[52]⟩),.lit (.string ⟨#[52]⟩),.lit (.string ⟨#[48]⟩)]):AV Kn):=by
 have h:=lawVecF (a:=4) (b:=4) (c:=0) (by constructor <;> omega) (by constructor <;> omega) (by constructor <;> omega)
 simp only [vS,okS,okVS,okH,hS,frS,okFS,x0,x4] at h
 exact h.lits (.same (.same (.same .nil))) (.txt (.txt (.txt .nil)))
theorem lv_m7_24_0:Fits Tryz.prog 10 [it (-7),it (24),it (0)] (.fv (.ag [.lit (.string ⟨#[45,55]⟩),.lit (.string ⟨#[50,52]⟩),.lit (.string ⟨#[48]⟩)]):AV Kn):=by
 have h:=lawVecF (a := -7) (b:=24) (c:=0) (by constructor <;> omega) (by constructor <;> omega) (by constructor <;> omega)
 simp only [vS,okS,okVS,okH,hS,frS,okFS,x0,x24,xm7] at h
 exact h.lits (.same (.same (.same .nil))) (.txt (.txt (.txt .nil)))
theorem lv_5_5_0:Fits Tryz.prog 10 [it (5),it (5),it (0)] (.fv (.ag [.lit (.string ⟨#[53]⟩),.lit (.string ⟨#[53]⟩),.lit (.string ⟨#[48]⟩)]):AV Kn):=by
 have h:=lawVecF (a:=5) (b:=5) (c:=0) (by constructor <;> omega) (by constructor <;> omega) (by constructor <;> omega)
 simp only [vS,okS,okVS,okH,hS,frS,okFS,x0,x5] at h
 exact h.lits (.same (.same (.same .nil))) (.txt (.txt (.txt .nil)))
theorem lv_10_7_1:Fits Tryz.prog 10 [it (10),it (7),it (1)] (.fv (.ag [.lit (.string ⟨#[49,48]⟩),.lit (.string ⟨#[55]⟩),.lit (.string ⟨#[49]⟩)]):AV Kn):=by
 have h:=lawVecF (a:=10) (b:=7) (c:=1) (by constructor <;> omega) (by constructor <;> omega) (by constructor <;> omega)
 simp only [vS,okS,okVS,okH,hS,frS,okFS,x1,x10,x7] at h
 exact h.lits (.same (.same (.same .nil))) (.txt (.txt (.txt .nil)))
theorem lframe:Fits Tryz.prog 23 ([]:List (AV Kn)) (.fv (.ag [.lit (.string ⟨#[49]⟩),.lit (.string ⟨#[48]⟩),.lit (.string ⟨#[48]⟩),.lit (.string ⟨#[51]⟩),.lit (.string ⟨#[52]⟩),.lit (.string ⟨#[48]⟩),.lit (.string ⟨#[45,52]⟩),.lit (.string ⟨#[51]⟩),.lit (.string ⟨#[48]⟩),.lit (.string ⟨#[48]⟩),.lit (.string ⟨#[48]⟩),.lit (.string ⟨#[53]⟩)]):AV Kn):=by
 have h:=lawFrameF
 simp only [vS,okS,okVS,okH,hS,frS,okFS,x0,x1,x3,x4,x5,xm4] at h
 exact h.lits .nil (.txt (.txt (.txt (.txt (.txt (.txt (.txt (.txt (.txt (.txt (.txt (.txt (.nil)))))))))))))
theorem wfF:Wf ((1:Int):Rat) ((0:Int):Rat) ((0:Int):Rat) ((3:Int):Rat) ((4:Int):Rat) ((0:Int):Rat) ((-4:Int):Rat) ((3:Int):Rat) ((0:Int):Rat) ((0:Int):Rat) ((0:Int):Rat) ((5:Int):Rat):=⟨⟨r1,r0,r0⟩,⟨r3,r4,r0⟩,⟨rm4,r3,r0⟩,⟨r0,r0,r5⟩⟩
theorem axF:Ax ((3:Int):Rat) ((4:Int):Rat) ((0:Int):Rat) ((-4:Int):Rat) ((3:Int):Rat) ((0:Int):Rat) ((0:Int):Rat) ((0:Int):Rat) ((5:Int):Rat):=⟨by kernel_rfl,by kernel_rfl,by kernel_rfl,by kernel_rfl,by kernel_rfl,by kernel_rfl,by kernel_rfl⟩
theorem fvF:Fv ((1:Int):Rat) ((0:Int):Rat) ((0:Int):Rat) ((3:Int):Rat) ((4:Int):Rat) ((0:Int):Rat) ((-4:Int):Rat) ((3:Int):Rat) ((0:Int):Rat) ((0:Int):Rat) ((0:Int):Rat) ((5:Int):Rat):=Go.Proofs.YtbhcckhbbclemaaGreatDoor.Fr.fv_of wfF axF
theorem hv111 {d:Rat} (h:Wr d):Hv 1 1 1 d:=⟨by constructor <;> omega,by constructor <;> omega,by constructor <;> omega,h,ck_111⟩
theorem hv100 {d:Rat} (h:Wr d):Hv 1 0 0 d:=⟨by constructor <;> omega,by constructor <;> omega,by constructor <;> omega,h,ck_100⟩
theorem hv302 {d:Rat} (h:Wr d):Hv 3 0 (-2) d:=⟨by constructor <;> omega,by constructor <;> omega,by constructor <;> omega,h,ck_302⟩
theorem ne_of {a:Rat} (h:decide (a=0)=false):a≠0:=of_decide_eq_false h
theorem asc_1250:∀ (j:Nat) (b:UInt8),(⟨#[49,50,46,53,48]⟩:ByteArray).data.toList[j]?=some b→b.toNat<128:=by
 intro j b h
 have:=List.mem_of_getElem? h
 simp at this
 rcases this with rfl|rfl|rfl|rfl|rfl <;> decide
theorem dig_12:AllDig (bytesOf ⟨#[49,50]⟩):=by intro c hc;simp [bytesOf] at hc;rcases hc with rfl|rfl <;> decide
theorem dig_50:AllDig (bytesOf ⟨#[53,48]⟩):=by intro c hc;simp [bytesOf] at hc;rcases hc with rfl|rfl <;> decide
theorem dec_100:decB 100=⟨#[49,48,48]⟩:=by unfold decB;rw [dec_large (by omega),dec_large (by omega),dec_small (by omega)];rfl
theorem dec_1250:decB 1250=⟨#[49,50,53,48]⟩:=by unfold decB;rw [dec_large (by omega),dec_large (by omega),dec_large (by omega),dec_small (by omega)];rfl
theorem q1250:mkRat (sg false 1250) 100=mkRat 25 2:=by kernel_rfl
theorem lv_small {n k:Nat} (h:n<1000000000):Lv k n:=(Lv.one n (by rw [W64_eq];omega)).mono (Nat.zero_le _)
theorem eParse:FitsW Tryz.prog Gl 18 [lt ⟨#[49,50,46,53,48]⟩] (.tup [.sc (.lit (.string ⟨#[50,53,47,50]⟩)),.sc z0]):=by
 have hp:Fits Tryz.prog 62 [tx ⟨#[49,50,46,53,48]⟩] (.tup [.sc (isS (decB 1250)),.sc (isS (decB 100)),.sc z0]):=by
  have h:=partsDot (s:=⟨#[49,50,46,53,48]⟩) (a:=⟨#[49,50]⟩) (b:=⟨#[53,48]⟩) (z:=⟨#[48,48]⟩) (k:=2) (indexAnyF (by decide) asc_1250 (by kernel_rfl)) (by decide) (by decide) (ba_ext rfl) (ba_ext rfl) dig_12 (by decide) dig_50 (by decide) rfl (repeatF (by decide) (by decide) (ba_ext (by kernel_rfl))) (by decide)
  have e1:(⟨#[49,50]⟩++⟨#[53,48]⟩:ByteArray)=decB 1250:=dec_1250.symm
  have e2:(⟨#[49]⟩++⟨#[48,48]⟩:ByteArray)=decB 100:=dec_100.symm
  rw [e1,e2] at h
  exact h
 have h:=parseF' (s:=⟨#[49,50,46,53,48]⟩) (n:=1250) (d:=100) (by decide) (by kernel_rfl) hp (by rw [dec_1250];decide) (by rw [dec_100];decide) (lv_small (by decide)) (lv_small (by decide)) (by decide) (by rw [q1250];exact rq252.lf.mono (by decide)) (by rw [q1250];exact rq252.n) (by rw [q1250];exact rq252.d)
 rw [q1250,xq252] at h
 exact h.lits (.txt .nil) (.txt (.same .nil))
theorem eAlong:FitsW Tryz.prog Gl 19 [(.fv (.ag [.lit (.string ⟨#[50]⟩),.lit (.string ⟨#[48]⟩),.lit (.string ⟨#[52]⟩)]):AV Kn),(.fv (.ag [.lit (.string ⟨#[45,49]⟩),.lit (.string ⟨#[48]⟩),.lit (.string ⟨#[45,50]⟩)]):AV Kn)] (.tup [.sc (.lit (.string ⟨#[45,49,47,50]⟩)),.sc z0]):=by
 have h:=apiAlongF (a:=((2:Int):Rat)) (b:=((0:Int):Rat)) (c:=((4:Int):Rat)) (x:=((-1:Int):Rat)) (y:=((0:Int):Rat)) (z:=((-2:Int):Rat)) ⟨r2,r0,r4⟩ ⟨rm1,r0,rm2⟩ (by kernel_rfl) (by kernel_rfl) (ne_of (by kernel_rfl)) (by rw [show dt ((-1:Int):Rat) ((0:Int):Rat) ((-2:Int):Rat) ((2:Int):Rat) ((0:Int):Rat) ((4:Int):Rat)/dt ((2:Int):Rat) ((0:Int):Rat) ((4:Int):Rat) ((2:Int):Rat) ((0:Int):Rat) ((4:Int):Rat)=mkRat (-1) 2 from by kernel_rfl];exact rm12)
 rw [show dt ((-1:Int):Rat) ((0:Int):Rat) ((-2:Int):Rat) ((2:Int):Rat) ((0:Int):Rat) ((4:Int):Rat)/dt ((2:Int):Rat) ((0:Int):Rat) ((4:Int):Rat) ((2:Int):Rat) ((0:Int):Rat) ((4:Int):Rat)=mkRat (-1) 2 from by kernel_rfl] at h
 simp only [vS,okS,okVS,okH,hS,frS,okFS,x0,x2,x4,xm1,xm12,xm2] at h
 exact h.lits (.ag (.txt (.txt (.txt .nil))) (.ag (.txt (.txt (.txt .nil))) .nil)) (.txt (.same .nil))
theorem eMake:FitsW Tryz.prog Gl 20 [(.fv (.ag [.lit (.string ⟨#[49,47,50]⟩),.lit (.string ⟨#[48]⟩),.lit (.string ⟨#[45,49,47,51]⟩)]):AV Kn),lt ⟨#[53]⟩] (.tup [.ag [.lit (.int .i64 (3)),.lit (.int .i64 (0)),.lit (.int .i64 (-2)),.lit (.string ⟨#[51,48]⟩)],.sc z0]):=by
 have h:=apiMakeHalfF (n1:=mkRat 1 2) (n2:=((0:Int):Rat)) (n3:=mkRat (-1) 3) (d:=((5:Int):Rat)) (z1:=3) (z2:=0) (z3 := -2) (e:=((30:Int):Rat)) ⟨rh12,r0,rm13⟩ r5 ⟨rh12.lf.mono (by decide),r0.lf.mono (by decide),rm13.lf.mono (by decide),r5.lf.mono (by decide),fun ⟨e,_,_⟩=>ne_of (a:=mkRat 1 2) (by kernel_rfl) e,by kernel_rfl,by kernel_rfl,by kernel_rfl,by kernel_rfl,by constructor <;> omega,by constructor <;> omega,by constructor <;> omega,r30⟩
 simp only [vS,okS,okVS,okH,hS,frS,okFS,x0,x30,x5,xh12,xm13] at h
 exact h.lits (.ag (.txt (.txt (.txt .nil))) (.txt .nil)) (.ag (.same (.same (.same (.txt .nil)))) (.same .nil))
theorem eThrough:FitsW Tryz.prog Gl 21 [(.fv (.ag [.lit (.string ⟨#[49]⟩),.lit (.string ⟨#[48]⟩),.lit (.string ⟨#[48]⟩)]):AV Kn),(.fv (.ag [.lit (.string ⟨#[48]⟩),.lit (.string ⟨#[49]⟩),.lit (.string ⟨#[48]⟩)]):AV Kn),(.fv (.ag [.lit (.string ⟨#[48]⟩),.lit (.string ⟨#[48]⟩),.lit (.string ⟨#[49]⟩)]):AV Kn)] (.tup [.ag [.lit (.int .i64 (1)),.lit (.int .i64 (1)),.lit (.int .i64 (1)),.lit (.string ⟨#[49]⟩)],.sc z0]):=by
 have h:=apiThroughF (a1:=((1:Int):Rat)) (a2:=((0:Int):Rat)) (a3:=((0:Int):Rat)) (b1:=((0:Int):Rat)) (b2:=((1:Int):Rat)) (b3:=((0:Int):Rat)) (c1:=((0:Int):Rat)) (c2:=((0:Int):Rat)) (c3:=((1:Int):Rat)) (m1:=((1:Int):Rat)) (m2:=((1:Int):Rat)) (m3:=((1:Int):Rat)) (z1:=1) (z2:=1) (z3:=1) (e:=((1:Int):Rat)) ⟨r1,r0,r0⟩ ⟨r0,r1,r0⟩ ⟨r0,r0,r1⟩ (by kernel_rfl) (by kernel_rfl) (by kernel_rfl) ⟨r1.lf.mono (by decide),r1.lf.mono (by decide),r1.lf.mono (by decide),by rw [show dt ((1:Int):Rat) ((1:Int):Rat) ((1:Int):Rat) ((1:Int):Rat) ((0:Int):Rat) ((0:Int):Rat)=((1:Int):Rat) from by kernel_rfl];exact r1.lf.mono (by decide),fun ⟨e,_,_⟩=>ne_of (a:=((1:Int):Rat)) (by kernel_rfl) e,by kernel_rfl,by kernel_rfl,by kernel_rfl,by kernel_rfl,by constructor <;> omega,by constructor <;> omega,by constructor <;> omega,r1⟩
 simp only [vS,okS,okVS,okH,hS,frS,okFS,x0,x1] at h
 exact h.lits (.ag (.txt (.txt (.txt .nil))) (.ag (.txt (.txt (.txt .nil))) (.ag (.txt (.txt (.txt .nil))) .nil))) (.ag (.same (.same (.same (.txt .nil)))) (.same .nil))
theorem eMirror:FitsW Tryz.prog Gl 22 [(.fv (.ag [.lit (.int .i64 (1)),.lit (.int .i64 (1)),.lit (.int .i64 (1)),.lit (.string ⟨#[49]⟩)]):AV Kn),(.fv (.ag [.lit (.string ⟨#[48]⟩),.lit (.string ⟨#[48]⟩),.lit (.string ⟨#[48]⟩)]):AV Kn)] (.tup [.ag [.lit (.string ⟨#[50,47,51]⟩),.lit (.string ⟨#[50,47,51]⟩),.lit (.string ⟨#[50,47,51]⟩)],.sc z0]):=by
 have h:=apiMirrorF (z1:=1) (z2:=1) (z3:=1) (d:=((1:Int):Rat)) (p1:=((0:Int):Rat)) (p2:=((0:Int):Rat)) (p3:=((0:Int):Rat)) (m1:=mkRat 2 3) (m2:=mkRat 2 3) (m3:=mkRat 2 3) (hv111 r1) ⟨r0,r0,r0⟩ (ne_of (by kernel_rfl)) (by kernel_rfl) (by kernel_rfl) (by kernel_rfl) ⟨rq23,rq23,rq23⟩
 simp only [vS,okS,okVS,okH,hS,frS,okFS,x0,x1,xq23] at h
 exact h.lits (.ag (.same (.same (.same (.txt .nil)))) (.ag (.txt (.txt (.txt .nil))) .nil)) (.ag (.txt (.txt (.txt .nil))) (.same .nil))
theorem ePlace:FitsW Tryz.prog Gl 15 [(.fv (.ag [.lit (.string ⟨#[49]⟩),.lit (.string ⟨#[48]⟩),.lit (.string ⟨#[48]⟩),.lit (.string ⟨#[51]⟩),.lit (.string ⟨#[52]⟩),.lit (.string ⟨#[48]⟩),.lit (.string ⟨#[45,52]⟩),.lit (.string ⟨#[51]⟩),.lit (.string ⟨#[48]⟩),.lit (.string ⟨#[48]⟩),.lit (.string ⟨#[48]⟩),.lit (.string ⟨#[53]⟩)]):AV Kn),(.fv (.ag [.lit (.string ⟨#[49]⟩),.lit (.string ⟨#[49]⟩),.lit (.string ⟨#[49]⟩)]):AV Kn)] (.tup [.ag [.lit (.string ⟨#[48]⟩),.lit (.string ⟨#[55]⟩),.lit (.string ⟨#[53]⟩)],.sc z0]):=by
 have h:=apiPlaceF (o1:=((1:Int):Rat)) (o2:=((0:Int):Rat)) (o3:=((0:Int):Rat)) (x1:=((3:Int):Rat)) (x2:=((4:Int):Rat)) (x3:=((0:Int):Rat)) (y1:=((-4:Int):Rat)) (y2:=((3:Int):Rat)) (y3:=((0:Int):Rat)) (z1:=((0:Int):Rat)) (z2:=((0:Int):Rat)) (z3:=((5:Int):Rat)) (p1:=((1:Int):Rat)) (p2:=((1:Int):Rat)) (p3:=((1:Int):Rat)) (m1:=((0:Int):Rat)) (m2:=((7:Int):Rat)) (m3:=((5:Int):Rat)) fvF ⟨r1,r1,r1⟩ (by kernel_rfl) (by kernel_rfl) (by kernel_rfl) ⟨r0,r7,r5⟩
 simp only [vS,okS,okVS,okH,hS,frS,okFS,x0,x1,x3,x4,x5,x7,xm4] at h
 exact h.lits (.ag (.txt (.txt (.txt (.txt (.txt (.txt (.txt (.txt (.txt (.txt (.txt (.txt (.nil))))))))))))) (.ag (.txt (.txt (.txt .nil))) .nil)) (.ag (.txt (.txt (.txt .nil))) (.same .nil))
theorem r325:Wr (mkRat 3 25):=wr_q (by rw [show (mkRat 3 25).num=3 from by kernel_rfl];decide) (by rw [show (mkRat 3 25).den=25 from by kernel_rfl];decide)
theorem r425:Wr (mkRat 4 25):=wr_q (by rw [show (mkRat 4 25).num=4 from by kernel_rfl];decide) (by rw [show (mkRat 4 25).den=25 from by kernel_rfl];decide)
theorem r2825:Wr (mkRat 28 25):=wr_q (by rw [show (mkRat 28 25).num=28 from by kernel_rfl];decide) (by rw [show (mkRat 28 25).den=25 from by kernel_rfl];decide)
theorem ePlaceHalf:FitsW Tryz.prog Gl 24 [(.fv (.ag [.lit (.string ⟨#[49]⟩),.lit (.string ⟨#[48]⟩),.lit (.string ⟨#[48]⟩),.lit (.string ⟨#[51]⟩),.lit (.string ⟨#[52]⟩),.lit (.string ⟨#[48]⟩),.lit (.string ⟨#[45,52]⟩),.lit (.string ⟨#[51]⟩),.lit (.string ⟨#[48]⟩),.lit (.string ⟨#[48]⟩),.lit (.string ⟨#[48]⟩),.lit (.string ⟨#[53]⟩)]):AV Kn),(.fv (.ag [.lit (.int .i64 (1)),.lit (.int .i64 (0)),.lit (.int .i64 (0)),.lit (.string ⟨#[49]⟩)]):AV Kn)] (.tup [.ag [.lit (.int .i64 (3)),.lit (.int .i64 (4)),.lit (.int .i64 (0)),.lit (.string ⟨#[50,56]⟩)],.sc z0]):=by
 have h:=apiPlaceHalfF (o1:=((1:Int):Rat)) (o2:=((0:Int):Rat)) (o3:=((0:Int):Rat)) (x1:=((3:Int):Rat)) (x2:=((4:Int):Rat)) (x3:=((0:Int):Rat)) (y1:=((-4:Int):Rat)) (y2:=((3:Int):Rat)) (y3:=((0:Int):Rat)) (z1:=((0:Int):Rat)) (z2:=((0:Int):Rat)) (z3:=((5:Int):Rat)) (n1:=1) (n2:=0) (n3:=0) (d:=((1:Int):Rat)) (k1:=3) (k2:=4) (k3:=0) (e:=((28:Int):Rat)) fvF (hv100 r1) ⟨ne_of (by kernel_rfl),ne_of (by kernel_rfl),ne_of (by kernel_rfl)⟩ (q1:=mkRat 3 25) (q2:=mkRat 4 25) (q3:=((0:Int):Rat)) (by kernel_rfl) (by kernel_rfl) (by kernel_rfl) ⟨r325.lf.mono (by decide),r425.lf.mono (by decide),r0.lf.mono (by decide),by rw [show ((1:Int):Rat)+dt (mkRat 3 25) (mkRat 4 25) ((0:Int):Rat) ((1:Int):Rat) ((0:Int):Rat) ((0:Int):Rat)=mkRat 28 25 from by kernel_rfl];exact r2825.lf.mono (by decide),fun ⟨e,_,_⟩=>ne_of (a:=mkRat 3 25) (by kernel_rfl) e,by kernel_rfl,by kernel_rfl,by kernel_rfl,by kernel_rfl,by constructor <;> omega,by constructor <;> omega,by constructor <;> omega,r28⟩
 simp only [vS,okS,okVS,okH,hS,frS,okFS,x0,x1,x28,x3,x4,x5,xm4] at h
 exact h.lits (.ag (.txt (.txt (.txt (.txt (.txt (.txt (.txt (.txt (.txt (.txt (.txt (.txt (.nil))))))))))))) (.ag (.same (.same (.same (.txt .nil)))) .nil)) (.ag (.same (.same (.same (.txt .nil)))) (.same .nil))
theorem td_100:Fits Tryz.prog 35 [num ((1:Int):Rat),vc ((0:Int):Rat) ((0:Int):Rat) ((1:Int):Rat),vc ((1:Int):Rat) ((0:Int):Rat) ((0:Int):Rat)] (vc ((0:Int):Rat) ((1:Int):Rat) ((0:Int):Rat)):=by
 have h:=turnedF (w:=((1:Int):Rat)) (u1:=((0:Int):Rat)) (u2:=((0:Int):Rat)) (u3:=((1:Int):Rat)) (v1:=((1:Int):Rat)) (v2:=((0:Int):Rat)) (v3:=((0:Int):Rat)) (r1.lf.mono (by decide)) (r0.lf.mono (by decide)) (r0.lf.mono (by decide)) (r1.lf.mono (by decide)) (r1.lf.mono (by decide)) (r0.lf.mono (by decide)) (r0.lf.mono (by decide)) (ne_of (by kernel_rfl))
 exact vc_eq h (by kernel_rfl) (by kernel_rfl) (by kernel_rfl)
theorem td_010:Fits Tryz.prog 35 [num ((1:Int):Rat),vc ((0:Int):Rat) ((0:Int):Rat) ((1:Int):Rat),vc ((0:Int):Rat) ((1:Int):Rat) ((0:Int):Rat)] (vc ((-1:Int):Rat) ((0:Int):Rat) ((0:Int):Rat)):=by
 have h:=turnedF (w:=((1:Int):Rat)) (u1:=((0:Int):Rat)) (u2:=((0:Int):Rat)) (u3:=((1:Int):Rat)) (v1:=((0:Int):Rat)) (v2:=((1:Int):Rat)) (v3:=((0:Int):Rat)) (r1.lf.mono (by decide)) (r0.lf.mono (by decide)) (r0.lf.mono (by decide)) (r1.lf.mono (by decide)) (r0.lf.mono (by decide)) (r1.lf.mono (by decide)) (r0.lf.mono (by decide)) (ne_of (by kernel_rfl))
 exact vc_eq h (by kernel_rfl) (by kernel_rfl) (by kernel_rfl)
theorem td_001:Fits Tryz.prog 35 [num ((1:Int):Rat),vc ((0:Int):Rat) ((0:Int):Rat) ((1:Int):Rat),vc ((0:Int):Rat) ((0:Int):Rat) ((1:Int):Rat)] (vc ((0:Int):Rat) ((0:Int):Rat) ((1:Int):Rat)):=by
 have h:=turnedF (w:=((1:Int):Rat)) (u1:=((0:Int):Rat)) (u2:=((0:Int):Rat)) (u3:=((1:Int):Rat)) (v1:=((0:Int):Rat)) (v2:=((0:Int):Rat)) (v3:=((1:Int):Rat)) (r1.lf.mono (by decide)) (r0.lf.mono (by decide)) (r0.lf.mono (by decide)) (r1.lf.mono (by decide)) (r0.lf.mono (by decide)) (r0.lf.mono (by decide)) (r1.lf.mono (by decide)) (ne_of (by kernel_rfl))
 exact vc_eq h (by kernel_rfl) (by kernel_rfl) (by kernel_rfl)
theorem eTurn:FitsW Tryz.prog Gl 7 [(.fv (.ag [.lit (.string ⟨#[49]⟩),.lit (.string ⟨#[48]⟩),.lit (.string ⟨#[48]⟩),.lit (.string ⟨#[49]⟩)]):AV Kn)] (.tup [.ag [.lit (.string ⟨#[48]⟩),.lit (.string ⟨#[48]⟩),.lit (.string ⟨#[48]⟩),.lit (.string ⟨#[48]⟩),.lit (.string ⟨#[49]⟩),.lit (.string ⟨#[48]⟩),.lit (.string ⟨#[45,49]⟩),.lit (.string ⟨#[48]⟩),.lit (.string ⟨#[48]⟩),.lit (.string ⟨#[48]⟩),.lit (.string ⟨#[48]⟩),.lit (.string ⟨#[49]⟩)],.sc z0]):=by
 have h:=apiTurnF (w:=((1:Int):Rat)) (u1:=((0:Int):Rat)) (u2:=((0:Int):Rat)) (u3:=((1:Int):Rat)) (b:=false) r1 ⟨r0,r0,r1⟩ (by kernel_rfl) (fun h=>by cases h) td_100 td_010 td_001 ⟨⟨r0,r0,r0⟩,⟨r0,r1,r0⟩,⟨rm1,r0,r0⟩,⟨r0,r0,r1⟩⟩
 simp only [vS,okS,okVS,okH,hS,frS,okFS,x0,x1,xm1] at h
 exact h.lits (.ag (.txt (.txt (.txt (.txt .nil)))) .nil) (.ag (.txt (.txt (.txt (.txt (.txt (.txt (.txt (.txt (.txt (.txt (.txt (.txt (.nil))))))))))))) (.same .nil))
theorem eCompose:FitsW Tryz.prog Gl 14 [(.fv (.ag [.lit (.string ⟨#[49]⟩),.lit (.string ⟨#[48]⟩),.lit (.string ⟨#[48]⟩),.lit (.string ⟨#[51]⟩),.lit (.string ⟨#[52]⟩),.lit (.string ⟨#[48]⟩),.lit (.string ⟨#[45,52]⟩),.lit (.string ⟨#[51]⟩),.lit (.string ⟨#[48]⟩),.lit (.string ⟨#[48]⟩),.lit (.string ⟨#[48]⟩),.lit (.string ⟨#[53]⟩)]):AV Kn),(.fv (.ag [.lit (.string ⟨#[49]⟩),.lit (.string ⟨#[48]⟩),.lit (.string ⟨#[48]⟩),.lit (.string ⟨#[51]⟩),.lit (.string ⟨#[52]⟩),.lit (.string ⟨#[48]⟩),.lit (.string ⟨#[45,52]⟩),.lit (.string ⟨#[51]⟩),.lit (.string ⟨#[48]⟩),.lit (.string ⟨#[48]⟩),.lit (.string ⟨#[48]⟩),.lit (.string ⟨#[53]⟩)]):AV Kn)] (.tup [.ag [.lit (.string ⟨#[52]⟩),.lit (.string ⟨#[52]⟩),.lit (.string ⟨#[48]⟩),.lit (.string ⟨#[45,55]⟩),.lit (.string ⟨#[50,52]⟩),.lit (.string ⟨#[48]⟩),.lit (.string ⟨#[45,50,52]⟩),.lit (.string ⟨#[45,55]⟩),.lit (.string ⟨#[48]⟩),.lit (.string ⟨#[48]⟩),.lit (.string ⟨#[48]⟩),.lit (.string ⟨#[50,53]⟩)],.sc z0]):=by
 have h:=apiComposeF fvF fvF (q1:=((4:Int):Rat)) (q2:=((4:Int):Rat)) (q3:=((0:Int):Rat)) (r1:=((-7:Int):Rat)) (r2:=((24:Int):Rat)) (r3:=((0:Int):Rat)) (s1:=((-24:Int):Rat)) (s2:=((-7:Int):Rat)) (s3:=((0:Int):Rat)) (t1:=((0:Int):Rat)) (t2:=((0:Int):Rat)) (t3:=((25:Int):Rat)) (by kernel_rfl) (by kernel_rfl) (by kernel_rfl) (by kernel_rfl) (by kernel_rfl) (by kernel_rfl) (by kernel_rfl) (by kernel_rfl) (by kernel_rfl) (by kernel_rfl) (by kernel_rfl) (by kernel_rfl) ⟨⟨r4,r4,r0⟩,⟨rm7,r24,r0⟩,⟨rm24,rm7,r0⟩,⟨r0,r0,r25⟩⟩ (by kernel_rfl) (by kernel_rfl) (by kernel_rfl)
 simp only [vS,okS,okVS,okH,hS,frS,okFS,x0,x1,x24,x25,x3,x4,x5,xm24,xm4,xm7] at h
 exact h.lits (.ag (.txt (.txt (.txt (.txt (.txt (.txt (.txt (.txt (.txt (.txt (.txt (.txt (.nil))))))))))))) (.ag (.txt (.txt (.txt (.txt (.txt (.txt (.txt (.txt (.txt (.txt (.txt (.txt (.nil))))))))))))) .nil)) (.ag (.txt (.txt (.txt (.txt (.txt (.txt (.txt (.txt (.txt (.txt (.txt (.txt (.nil))))))))))))) (.same .nil))
theorem eMeet:FitsW Tryz.prog Gl 25 [(.fv (.ag [.lit (.int .i64 (1)),.lit (.int .i64 (1)),.lit (.int .i64 (1)),.lit (.string ⟨#[49,48]⟩)]):AV Kn),(.fv (.ag [.lit (.string ⟨#[48]⟩),.lit (.string ⟨#[48]⟩),.lit (.string ⟨#[48]⟩)]):AV Kn),(.fv (.ag [.lit (.string ⟨#[49]⟩),.lit (.string ⟨#[49]⟩),.lit (.string ⟨#[48]⟩)]):AV Kn)] (.tup [.ag [.lit (.string ⟨#[53]⟩),.lit (.string ⟨#[53]⟩),.lit (.string ⟨#[48]⟩)],.sc z0]):=by
 have h:=apiMeetF (z1:=1) (z2:=1) (z3:=1) (d:=((10:Int):Rat)) (p1:=((0:Int):Rat)) (p2:=((0:Int):Rat)) (p3:=((0:Int):Rat)) (v1:=((1:Int):Rat)) (v2:=((1:Int):Rat)) (v3:=((0:Int):Rat)) (m1:=((5:Int):Rat)) (m2:=((5:Int):Rat)) (m3:=((0:Int):Rat)) (hv111 r10) ⟨r0,r0,r0⟩ ⟨r1,r1,r0⟩ (ne_of (by kernel_rfl)) (by kernel_rfl) (by kernel_rfl) (by kernel_rfl) ⟨r5,r5,r0⟩
 simp only [vS,okS,okVS,okH,hS,frS,okFS,x0,x1,x10,x5] at h
 exact h.lits (.ag (.same (.same (.same (.txt .nil)))) (.ag (.txt (.txt (.txt .nil))) (.ag (.txt (.txt (.txt .nil))) .nil))) (.ag (.txt (.txt (.txt .nil))) (.same .nil))
theorem eSide:FitsW Tryz.prog Gl 26 [(.fv (.ag [.lit (.int .i64 (3)),.lit (.int .i64 (0)),.lit (.int .i64 (-2)),.lit (.string ⟨#[51,48]⟩)]):AV Kn),(.fv (.ag [.lit (.string ⟨#[49,48]⟩),.lit (.string ⟨#[55]⟩),.lit (.string ⟨#[49]⟩)]):AV Kn)] (.tup [.sc (.lit (.int .i64 (-1))),.sc z0]):=by
 have h:=apiSideF (z1:=3) (z2:=0) (z3 := -2) (d:=((30:Int):Rat)) (p1:=((10:Int):Rat)) (p2:=((7:Int):Rat)) (p3:=((1:Int):Rat)) (s := -1) (hv302 r30) ⟨r10,r7,r1⟩ (by kernel_rfl)
 simp only [vS,okS,okVS,okH,hS,frS,okFS,x1,x10,x30,x7] at h
 exact h.lits (.ag (.same (.same (.same (.txt .nil)))) (.ag (.txt (.txt (.txt .nil))) .nil)) (.same (.same .nil))
set_option maxRecDepth 100000 in
theorem awakeF:FitsW Tryz.prog Gl 4 ([]:List (AV Kn)) (bl true):=by
 refine kgoW Tryz.func4 (by kernel_rfl) fun w00 hG=>?_;have hI:=keepGl hG
 refine kcallW hI 18 [lt ⟨#[49,50,46,53,48]⟩] (eParse) (by kernel_rfl) Tryz.call18 ?_
 refine kcall 10 [it (2),it (0),it (4)] (lv_2_0_4) (by kernel_rfl) Tryz.call10 ?_
 refine kcall 10 [it (-1),it (0),it (-2)] (lv_m1_0_m2) (by kernel_rfl) Tryz.call10 ?_
 refine kcallW hI 19 [(.fv (.ag [.lit (.string ⟨#[50]⟩),.lit (.string ⟨#[48]⟩),.lit (.string ⟨#[52]⟩)])),(.fv (.ag [.lit (.string ⟨#[45,49]⟩),.lit (.string ⟨#[48]⟩),.lit (.string ⟨#[45,50]⟩)]))] (eAlong) (by kernel_rfl) Tryz.call19 ?_
 refine kcallW hI 20 [(.fv (.ag [.lit (.string ⟨#[49,47,50]⟩),.lit (.string ⟨#[48]⟩),.lit (.string ⟨#[45,49,47,51]⟩)])),lt ⟨#[53]⟩] (eMake) (by kernel_rfl) Tryz.call20 ?_
 refine kcall 10 [it (1),it (0),it (0)] (lv_1_0_0) (by kernel_rfl) Tryz.call10 ?_
 refine kcall 10 [it (0),it (1),it (0)] (lv_0_1_0) (by kernel_rfl) Tryz.call10 ?_
 refine kcall 10 [it (0),it (0),it (1)] (lv_0_0_1) (by kernel_rfl) Tryz.call10 ?_
 refine kcallW hI 21 [(.fv (.ag [.lit (.string ⟨#[49]⟩),.lit (.string ⟨#[48]⟩),.lit (.string ⟨#[48]⟩)])),(.fv (.ag [.lit (.string ⟨#[48]⟩),.lit (.string ⟨#[49]⟩),.lit (.string ⟨#[48]⟩)])),(.fv (.ag [.lit (.string ⟨#[48]⟩),.lit (.string ⟨#[48]⟩),.lit (.string ⟨#[49]⟩)]))] (eThrough) (by kernel_rfl) Tryz.call21 ?_
 refine kcall 10 [it (0),it (0),it (0)] (lv_0_0_0) (by kernel_rfl) Tryz.call10 ?_
 refine kcallW hI 22 [(.fv (.ag [.lit (.int .i64 (1)),.lit (.int .i64 (1)),.lit (.int .i64 (1)),.lit (.string ⟨#[49]⟩)])),(.fv (.ag [.lit (.string ⟨#[48]⟩),.lit (.string ⟨#[48]⟩),.lit (.string ⟨#[48]⟩)]))] (eMirror) (by kernel_rfl) Tryz.call22 ?_
 refine kcall 23 [] (lframe) (by kernel_rfl) Tryz.call23 ?_
 refine kcall 10 [it (1),it (1),it (1)] (lv_1_1_1) (by kernel_rfl) Tryz.call10 ?_
 refine kcallW hI 15 [(.fv (.ag [.lit (.string ⟨#[49]⟩),.lit (.string ⟨#[48]⟩),.lit (.string ⟨#[48]⟩),.lit (.string ⟨#[51]⟩),.lit (.string ⟨#[52]⟩),.lit (.string ⟨#[48]⟩),.lit (.string ⟨#[45,52]⟩),.lit (.string ⟨#[51]⟩),.lit (.string ⟨#[48]⟩),.lit (.string ⟨#[48]⟩),.lit (.string ⟨#[48]⟩),.lit (.string ⟨#[53]⟩)])),(.fv (.ag [.lit (.string ⟨#[49]⟩),.lit (.string ⟨#[49]⟩),.lit (.string ⟨#[49]⟩)]))] (ePlace) (by kernel_rfl) Tryz.call15 ?_
 refine kcall 23 [] (lframe) (by kernel_rfl) Tryz.call23 ?_
 refine kcallW hI 24 [(.fv (.ag [.lit (.string ⟨#[49]⟩),.lit (.string ⟨#[48]⟩),.lit (.string ⟨#[48]⟩),.lit (.string ⟨#[51]⟩),.lit (.string ⟨#[52]⟩),.lit (.string ⟨#[48]⟩),.lit (.string ⟨#[45,52]⟩),.lit (.string ⟨#[51]⟩),.lit (.string ⟨#[48]⟩),.lit (.string ⟨#[48]⟩),.lit (.string ⟨#[48]⟩),.lit (.string ⟨#[53]⟩)])),(.fv (.ag [.lit (.int .i64 (1)),.lit (.int .i64 (0)),.lit (.int .i64 (0)),.lit (.string ⟨#[49]⟩)]))] (ePlaceHalf) (by kernel_rfl) Tryz.call24 ?_
 refine kcallW hI 7 [(.fv (.ag [.lit (.string ⟨#[49]⟩),.lit (.string ⟨#[48]⟩),.lit (.string ⟨#[48]⟩),.lit (.string ⟨#[49]⟩)]))] (eTurn) (by kernel_rfl) Tryz.call7 ?_
 refine kcall 23 [] (lframe) (by kernel_rfl) Tryz.call23 ?_
 refine kcall 23 [] (lframe) (by kernel_rfl) Tryz.call23 ?_
 refine kcallW hI 14 [(.fv (.ag [.lit (.string ⟨#[49]⟩),.lit (.string ⟨#[48]⟩),.lit (.string ⟨#[48]⟩),.lit (.string ⟨#[51]⟩),.lit (.string ⟨#[52]⟩),.lit (.string ⟨#[48]⟩),.lit (.string ⟨#[45,52]⟩),.lit (.string ⟨#[51]⟩),.lit (.string ⟨#[48]⟩),.lit (.string ⟨#[48]⟩),.lit (.string ⟨#[48]⟩),.lit (.string ⟨#[53]⟩)])),(.fv (.ag [.lit (.string ⟨#[49]⟩),.lit (.string ⟨#[48]⟩),.lit (.string ⟨#[48]⟩),.lit (.string ⟨#[51]⟩),.lit (.string ⟨#[52]⟩),.lit (.string ⟨#[48]⟩),.lit (.string ⟨#[45,52]⟩),.lit (.string ⟨#[51]⟩),.lit (.string ⟨#[48]⟩),.lit (.string ⟨#[48]⟩),.lit (.string ⟨#[48]⟩),.lit (.string ⟨#[53]⟩)]))] (eCompose) (by kernel_rfl) Tryz.call14 ?_
 refine kcall 10 [it (0),it (0),it (0)] (lv_0_0_0) (by kernel_rfl) Tryz.call10 ?_
 refine kcall 10 [it (1),it (1),it (0)] (lv_1_1_0) (by kernel_rfl) Tryz.call10 ?_
 refine kcallW hI 25 [(.fv (.ag [.lit (.int .i64 (1)),.lit (.int .i64 (1)),.lit (.int .i64 (1)),.lit (.string ⟨#[49,48]⟩)])),(.fv (.ag [.lit (.string ⟨#[48]⟩),.lit (.string ⟨#[48]⟩),.lit (.string ⟨#[48]⟩)])),(.fv (.ag [.lit (.string ⟨#[49]⟩),.lit (.string ⟨#[49]⟩),.lit (.string ⟨#[48]⟩)]))] (eMeet) (by kernel_rfl) Tryz.call25 ?_
 refine kcall 10 [it (0),it (7),it (5)] (lv_0_7_5) (by kernel_rfl) Tryz.call10 ?_
 refine kcall 10 [it (0),it (1),it (0)] (lv_0_1_0) (by kernel_rfl) Tryz.call10 ?_
 refine kcall 10 [it (-1),it (0),it (0)] (lv_m1_0_0) (by kernel_rfl) Tryz.call10 ?_
 refine kcall 10 [it (4),it (4),it (0)] (lv_4_4_0) (by kernel_rfl) Tryz.call10 ?_
 refine kcall 10 [it (-7),it (24),it (0)] (lv_m7_24_0) (by kernel_rfl) Tryz.call10 ?_
 refine kcall 10 [it (5),it (5),it (0)] (lv_5_5_0) (by kernel_rfl) Tryz.call10 ?_
 refine kcall 10 [it (10),it (7),it (1)] (lv_10_7_1) (by kernel_rfl) Tryz.call10 ?_
 refine kcallW hI 26 [(.fv (.ag [.lit (.int .i64 (3)),.lit (.int .i64 (0)),.lit (.int .i64 (-2)),.lit (.string ⟨#[51,48]⟩)])),(.fv (.ag [.lit (.string ⟨#[49,48]⟩),.lit (.string ⟨#[55]⟩),.lit (.string ⟨#[49]⟩)]))] (eSide) (by kernel_rfl) Tryz.call26 ?_
 refine kcall 27 [lt ⟨#[112,111,115,116,95,49]⟩] (isNameF (b:=true) (by kernel_rfl)) (by kernel_rfl) Tryz.call27 ?_
 refine kcall 27 [lt ⟨#[49,112,111,115,116]⟩] (isNameF (b:=false) (by kernel_rfl)) (by kernel_rfl) Tryz.call27 ?_
 exact kret Tryz.func4 (by kernel_rfl)
abbrev hL (a b c:Int) (s:ByteArray):AV Kn := .fv (.ag [.lit (.int .i64 a),.lit (.int .i64 b),.lit (.int .i64 c),isS s])
def Bq (k:Nat) (q:Rat):Prop:=q.num.natAbs<10^k∧q.den<10^k
theorem Bq.mono {k l:Nat} {q:Rat} (h:Bq k q) (hk:k≤l):Bq l q :=
 ⟨Nat.lt_of_lt_of_le h.1 (Nat.pow_le_pow_right (by omega) hk),Nat.lt_of_lt_of_le h.2 (Nat.pow_le_pow_right (by omega) hk)⟩
theorem Bq.mul {j k:Nat} {p q:Rat} (hp:Bq j p) (hq:Bq k q):Bq (j+k) (p*q):=by
 rw [Rat.mul_def']
 obtain ⟨h1,h2⟩:=mkRat_num_le (p.num*q.num) (Nat.ne_of_gt (Nat.mul_pos p.den_pos q.den_pos))
 rw [Int.natAbs_mul] at h1
 refine ⟨Nat.lt_of_le_of_lt h1 ?_,Nat.lt_of_le_of_lt h2 ?_⟩
 ·rw [Nat.pow_add];exact Nat.mul_lt_mul'' hp.1 hq.1
 ·rw [Nat.pow_add];exact Nat.mul_lt_mul'' hp.2 hq.2
theorem Bq.add {j k:Nat} {p q:Rat} (hp:Bq j p) (hq:Bq k q):Bq (j+k+1) (p+q):=by
 rw [Rat.add_def']
 obtain ⟨h1,h2⟩:=mkRat_num_le (p.num*q.den+q.num*p.den) (Nat.ne_of_gt (Nat.mul_pos p.den_pos q.den_pos))
 have a1:p.num.natAbs*q.den<10^(j+k):=by rw [Nat.pow_add];exact Nat.mul_lt_mul'' hp.1 hq.2
 have a2:q.num.natAbs*p.den<10^(j+k):=by rw [Nat.pow_add,Nat.mul_comm];exact Nat.mul_lt_mul'' hp.2 hq.1
 have a3:p.den*q.den<10^(j+k):=by rw [Nat.pow_add];exact Nat.mul_lt_mul'' hp.2 hq.2
 have a4:10^(j+k+1)=10^(j+k)*10:=Nat.pow_succ _ _
 have a5:=Int.natAbs_add_le (p.num*q.den) (q.num*p.den)
 rw [Int.natAbs_mul,Int.natAbs_mul,Int.natAbs_natCast,Int.natAbs_natCast] at a5
 exact ⟨by omega,by omega⟩
theorem Bq.neg {k:Nat} {p:Rat} (hp:Bq k p):Bq k (-p):=by
 refine ⟨?_,hp.2⟩
 rw [Rat.neg_num,Int.natAbs_neg];exact hp.1
theorem Bq.dt {k l n:Nat} {a b c x y z:Rat} (h1:Bq k a) (h2:Bq k b) (h3:Bq k c) (g1:Bq l x) (g2:Bq l y) (g3:Bq l z) (hn:3*(k+l)+2≤n):Bq n (dt a b c x y z) :=
 (((h1.mul g1).add (h2.mul g2)).add (h3.mul g3)).mono (by omega)
theorem Bq.wr {k:Nat} {q:Rat} (h:Bq k q) (hk:k≤600):Wr q:=by
 have h':=h.mono (l:=599+1) hk
 exact ⟨decB_size h'.1,decB_size h'.2⟩
theorem Bq.zs {k:Nat} {q:Rat} (h:Bq k q) (hk:k≤10000):Zs 10000 q:=by
 have h':=h.mono (l:=10000+1) (by omega)
 exact h'
theorem bq_of {k:Nat} {q:Rat} (h:Fw k q):Bq k q:=⟨dec_lt h.1,dec_lt h.2⟩
theorem sq_nonneg (x:Rat):0≤x*x:=by
 rcases Rat.le_total (a:=0) (b:=x) with h|h
 ·exact Rat.mul_nonneg h h
 ·have h' : 0≤-x:=by grind
  have:=Rat.mul_nonneg h' h'
  grind
theorem numr_ne {q:Rat} (h:q≠0):q.num≠0:=fun e=>h (Rat.num_eq_zero.1 e)
theorem dec_and {p q r:Prop} [Decidable p] [Decidable q] [Decidable r] (h:¬ (p∧q∧r)):(decide p&&decide q&&decide r)=false:=by
 rw [Bool.eq_false_iff]
 intro hh
 simp only [Bool.and_eq_true,decide_eq_true_eq] at hh
 exact h ⟨hh.1.1,hh.1.2,hh.2⟩
end Go.Proofs.YtbhcckhbbclemaaGreatDoor.Ab
